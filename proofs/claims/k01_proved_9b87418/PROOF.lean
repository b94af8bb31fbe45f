import PyProof.Rows.All
import Wide.All
import OpenK.AllK
import Wide.FinOn
import HandS.ForMost
import HandS.Steps
import HandS.IsInst
import HandS.TupAny
import HandS.Zip
import HandS.Codes
import HandS.Small
import HandS.Flow
import HandS.Walk
import HandS.Evl
import KE.KTryMore
import HandS.Exc
import HandS.ExcOwn
import HandS.WordsExc
import HandS.ExcIs
import PyProof.ExcBaseAll.ValueError
import HandS.TupMul
import KE.KExcIs
import HandS.ExcField
import HandS.SetFor
import PyProof.Rows.CountFlat
import HandS.Lambda
import HandS.Nested
import HandS.EndTab
import KE.KNestM
import PyProof.EqKinds
import KE.GoesEnum
import KE.GoesZip
import KE.GoesMore
import HandS.List
import PyProof.NeData
import HandS.Text
import HandS.Deep
import HandS.Conv
import HandS.RevRange
import HandS.Rev
import HandS.Star
import HandS.Iter
import HandS.More
import HandS.Style
import PySem.Challenge.RW_handways_k01_programs_and_ways_refused
set_option Elab.async false
set_option linter.all false
set_option maxRecDepth 100000
set_option maxHeartbeats 4000000
set_option maxRecDepth 100000 in
set_option maxHeartbeats 0 in
open_top hwEarly for PySem.Challenge.rw_handways_k01_programs_and_ways_refused
namespace Hw
open PySem
theorem len0 {us : List Value} (h : us.length = 0) : us = [] := List.length_eq_zero_iff.mp h
theorem len1 {us : List Value} (h : us.length = 1) : ∃ x0, us = [x0] := by
  match us, h with
  | [x0], _ => exact ⟨x0, rfl⟩
theorem len2 {us : List Value} (h : us.length = 2) : ∃ x0 x1, us = [x0, x1] := by
  match us, h with
  | [x0, x1], _ => exact ⟨x0, x1, rfl⟩
theorem len3 {us : List Value} (h : us.length = 3) : ∃ x0 x1 x2, us = [x0, x1, x2] := by
  match us, h with
  | [x0, x1, x2], _ => exact ⟨x0, x1, x2, rfl⟩
theorem len4 {us : List Value} (h : us.length = 4) : ∃ x0 x1 x2 x3, us = [x0, x1, x2, x3] := by
  match us, h with
  | [x0, x1, x2, x3], _ => exact ⟨x0, x1, x2, x3, rfl⟩
theorem len5 {us : List Value} (h : us.length = 5) : ∃ x0 x1 x2 x3 x4, us = [x0, x1, x2, x3, x4] := by
  match us, h with
  | [x0, x1, x2, x3, x4], _ => exact ⟨x0, x1, x2, x3, x4, rfl⟩
end Hw
namespace Hw
open PySem PySem.Spec PyProof.Rows L2
section
variable {P : Program} {w : World} {K : PySem.W.Frag} {mg : Str → Option Value} {base : Heap}
/-- a def of the top, with its promise -/
structure Callee (P : Program) (w : World) (K : PySem.W.Frag) (mg : Str → Option Value) (base : Heap) (x : Str) (k : Nat) (ps : List Str) (sp : Sp) : Prop where
  ex : ∃ (f : Addr) (fd : FuncData), FnOk P w K mg base CX0 k f fd ps sp ∧ mg x = some (.ref f) ∧ PySem.W.keepIn K (.ref f) = true ∧ Binds K fd ps [] ∧ ∃ oc od osl, K.lookup f = some ⟨oc, od, .func fd, osl⟩
/-- a def of the top, as it stands -/
structure DefAt (K : PySem.W.Frag) (mg : Str → Option Value) (x : Str) (st : Stmt) (ps : List Str) : Prop where
  ex : ∃ (f : Addr) (fd : FuncData), Fun K x x st f fd ∧ mg x = some (.ref f) ∧ Binds K fd ps []
theorem DefAt.ok {x : Str} {st : Stmt} {N ps : List Str} {k : Nat} {sp : Sp} (D : DefAt K mg x st ps) (S : FnScope N ps (defScope st)) (len : ∀ vs H Q E, sp vs H Q E → vs.length = ps.length)
    (hbody : ∀ (f : Addr) (cdv : Value) (A : Around) (outer : List Env) (s : Shared) (H : Hp) (vs : List V) (Q : VK) (E : XK), Room k (A.deeper (envOfC x (defScope st) s.heap.objs.size f cdv)) → sp vs H Q E →
      ∃ t, PSs (cxOf CX0 P w K mg base N x (defScope st) f cdv A outer s H E).nox (defBody st) t ∧ t { nx := fun _ H' => Q .non H', rt := Q } (start N vs) H) : Callee P w K mg base x (k + 1) ps sp := by
  obtain ⟨f, fd, F, m, b⟩ := D.ex
  obtain ⟨oc, od, kV, doc, pm, an, cdv, ct, osl, e, lk, hcd⟩ := id F.ex
  exact ⟨f, fd, F.ok S len fun cdv A outer s H vs Q E hr h => hbody f cdv A outer s H vs Q E hr h, m, F.kp, b, oc, od, osl, lk⟩
/-- nothing is asked, nothing is promised -/
theorem DefAt.none {x : Str} {st : Stmt} {ps : List Str} {k : Nat} {sp : Sp} (D : DefAt K mg x st ps) (no : ∀ vs H Q E, ¬ sp vs H Q E) : Callee P w K mg base x k ps sp := by
  obtain ⟨f, fd, F, m, b⟩ := D.ex
  obtain ⟨oc, od, kV, doc, pm, an, cdv, ct, osl, e, lk, hcd⟩ := id F.ex
  exact ⟨f, fd, ⟨fun vs H Q E h => absurd h (no vs H Q E), fun A outer s H args us vs Q E _ _ _ _ h => absurd h (no vs H Q E)⟩, m, F.kp, b, oc, od, osl, lk⟩
theorem Callee.mono {x : Str} {j k : Nat} {ps : List Str} {sp : Sp} (C : Callee P w K mg base x j ps sp) (h : j ≤ k) : Callee P w K mg base x k ps sp := by
  obtain ⟨f, fd, F, r⟩ := C.ex
  exact ⟨f, fd, F.mono h, r⟩
/-- of all promises at once -/
theorem Callee.all {ι : Type} {x : Str} {k : Nat} {ps : List Str} {sp : ι → Sp} (i0 : ι) (h : ∀ i, Callee P w K mg base x k ps (sp i)) : Callee P w K mg base x k ps (fun vs H Q E => ∃ i, sp i vs H Q E) := by
  obtain ⟨f, fd, F, m, kp, b, oc, od, osl, lk⟩ := (h i0).ex
  have at_ : ∀ i, FnOk P w K mg base CX0 k f fd ps (sp i) := fun i => by
    obtain ⟨f', fd', F', m', kp', b', oc', od', osl', lk'⟩ := (h i).ex
    rw [m] at m'
    cases m'
    rw [lk] at lk'
    cases lk'
    exact F'
  exact ⟨f, fd, ⟨fun vs H Q E ⟨i, q⟩ => (at_ i).len vs H Q E q, fun A outer s H args us vs Q E hr he hb hv ⟨i, q⟩ => (at_ i).run A outer s H args us vs Q E hr he hb hv q⟩, m, kp, b, oc, od, osl, lk⟩
theorem Callee.imp {x : Str} {k : Nat} {ps : List Str} {sp sp' : Sp} (C : Callee P w K mg base x k ps sp) (h : ∀ vs H Q E, sp' vs H Q E → sp vs H Q E) : Callee P w K mg base x k ps sp' := by
  obtain ⟨f, fd, F, r⟩ := C.ex
  exact ⟨f, fd, F.imp h, r⟩
end
section
variable {X : Cx}
theorem pcall {k : Nat} {ps : List Str} {sp : Sp} {x : Str} {p pos : Pos} {e : Expr} {es : List Expr} {t : TA} (C : Callee X.prog X.w X.K X.mg X.base x k ps sp) (hr : Room k X.A) (hg : Gl X x) (ha : PA X (e :: es) t)
    (hd : (x == ("__debug__" : Str)) = false := by decide) (h1 : starEach (e :: es) X.env = (false, eval e X.env) :: starEach es X.env := by rfl)
    (h2 : ((backTo pos (starEach es X.env)).any fun x => x.1) = false := by rfl) : PE X (.Call (.Name x p) (e :: es) [] pos) (tCall sp [] E0 t) := by
  obtain ⟨f, fd, F, m, kp, b, _⟩ := C.ex
  exact pe_call F hr hg m kp b .nil pass0 ha hd h1 h2
end
/-- the built-in names that the program doesn't give another meaning -/
structure Blt (mg : Str → Option Value) : Prop where
  len : mg "len" = none
  int : mg "int" = none
  range : mg "range" = none
  isinstance : mg "isinstance" = none
  tuple : mg "tuple" = none
  list : mg "list" = none
  bool : mg "bool" = none
  str : mg "str" = none
  zip : mg "zip" = none
  enumerate : mg "enumerate" = none
noncomputable def Keep (M : List Addr) (H H' : Hp) : Prop := ∀ a o, H a = some o → a ∉ M → H' a = some o
theorem Keep.refl {M : List Addr} {H : Hp} : Keep M H H := fun _ _ h _ => h
theorem Keep.trans {M : List Addr} {H H1 H2 : Hp} (a : Keep M H H1) (b : Keep M H1 H2) : Keep M H H2 := fun x o h n => b x o (a x o h n) n
theorem Keep.mono {M M' : List Addr} {H H1 : Hp} (a : Keep M H H1) (s : ∀ x ∈ M, x ∈ M') : Keep M' H H1 := fun x o h n => a x o h fun z => n (s x z)
theorem Keep.new {M : List Addr} {H : Hp} {p : Addr} {o : HO} (h : H p = none) : Keep M H (upd H p o) := fun a u e _ => by
  rw [upd_ne (ne_of_none e h)]
  exact e
theorem Keep.put {M : List Addr} {H : Hp} {p : Addr} {o : HO} (h : p ∈ M) : Keep M H (upd H p o) := fun a u e n => by
  have : a ≠ p := fun z => n (z ▸ h)
  rw [upd_ne this]
  exact e
/-- what is new may be changed -/
theorem Keep.at {M : List Addr} {H H1 : Hp} {p : Addr} {o : HO} (a : Keep M H H1) (h : H p = none) : Keep M H (upd H1 p o) := fun x u e n => by
  rw [upd_ne (ne_of_none e h)]
  exact a x u e n
/-- what is only new may be changed by the rest -/
theorem Keep.less {M : List Addr} {H H1 : Hp} {p : Addr} (a : Keep (p :: M) H H1) (h : H p = none) : Keep M H H1 := fun x u e n =>
  a x u e fun z => by
    rcases List.mem_cons.mp z with z | z
    · exact ne_of_none e h z
    · exact n z
theorem Keep.fresh1 {M : List Addr} {H H1 H2 : Hp} {l : Addr} (k1 : Keep M H H1) (k2 : Keep [l] H1 H2) (n : H l = none) : Keep M H H2 :=
  ((k1.mono (M' := l :: M) fun x hx => List.mem_cons_of_mem _ hx).trans (k2.mono (M' := l :: M) fun x hx => List.mem_cons.mpr (.inl (List.mem_singleton.mp hx)))).less n
theorem Keep.by0 {M : List Addr} {H H1 H2 : Hp} (k1 : Keep M H H1) (k2 : Keep [] H1 H2) : Keep M H H2 := k1.trans (k2.mono fun _ z => nomatch z)
/-- free behind is free ahead -/
theorem Keep.free {M : List Addr} {H H1 : Hp} {p : Addr} (a : Keep M H H1) (hm : ∀ m ∈ M, H1 m ≠ none) (h : H1 p = none) : H p = none := by
  cases e : H p with
  | none => rfl
  | some o =>
    by_cases z : p ∈ M
    · exact absurd h (hm p z)
    · rw [a p o e z] at h
      cases h
theorem Keep.rd {M : List Addr} {H H1 : Hp} {a : Addr} {u : HO} (k : Keep M H H1) (n : a ∉ M) (h : Rd H a u) : Rd H1 a u := by
  rcases h with h | ⟨o, h⟩
  · exact .inl (k a _ h n)
  · exact .inr ⟨o, k a _ h n⟩
theorem Keep.sqL {K : PySem.W.Frag} {M : List Addr} {H H1 : Hp} {a : Addr} {xs : List V} (k : Keep M H H1) (n : a ∉ M) (h : SqL K H a xs) : SqL K H1 a xs := by
  rcases h with h | h
  · exact .inl (k.rd n h)
  · exact .inr h
/-- every tuple, and whatever is locked, stands as it was -/
noncomputable def Tst (H H' : Hp) : Prop := (∀ a xs, H a = some (.tup xs) → H' a = some (.tup xs)) ∧ ∀ a o u, H a = some (.frz o u) → H' a = some (.frz o u)
theorem Tst.refl {H : Hp} : Tst H H := ⟨fun _ _ h => h, fun _ _ _ h => h⟩
theorem Tst.trans {H H1 H2 : Hp} (a : Tst H H1) (b : Tst H1 H2) : Tst H H2 := ⟨fun x xs h => b.1 x xs (a.1 x xs h), fun x o u h => b.2 x o u (a.2 x o u h)⟩
/-- what is at M is no tuple and not locked -/
noncomputable def Lo (H : Hp) (M : List Addr) : Prop := ∀ a ∈ M, (∃ xs, H a = some (.lst xs)) ∨ (∃ kvs, H a = some (.dK kvs)) ∨ ∃ C dx fs, H a = some (.ins C dx fs)
theorem Keep.ts {M : List Addr} {H H1 : Hp} (k : Keep M H H1) (l : Lo H M) : Tst H H1 := by
  have no : ∀ a o, H a = some o → (∀ xs, o ≠ .lst xs) → (∀ kvs, o ≠ .dK kvs) → (∀ C dx fs, o ≠ .ins C dx fs) → a ∉ M := fun a o e h1 h2 h3 z => by
    rcases l a z with ⟨xs, q⟩ | ⟨kvs, q⟩ | ⟨C, dx, fs, q⟩
    · rw [e] at q; exact h1 _ (Option.some.inj q)
    · rw [e] at q; exact h2 _ (Option.some.inj q)
    · rw [e] at q; exact h3 _ _ _ (Option.some.inj q)
  exact ⟨fun a xs h => k a _ h (no a _ h (fun _ z => nomatch z) (fun _ z => nomatch z) fun _ _ _ z => nomatch z), fun a o u h => k a _ h (no a _ h (fun _ z => nomatch z) (fun _ z => nomatch z) fun _ _ _ z => nomatch z)⟩
theorem Tst.new {H : Hp} {p : Addr} {o : HO} (h : H p = none) : Tst H (upd H p o) := (Keep.new (M := []) h).ts fun _ z => nomatch z
theorem Tst.sqT {K : PySem.W.Frag} {H H1 : Hp} {a : Addr} {xs : List V} (k : Tst H H1) (h : SqT K H a xs) : SqT K H1 a xs := by
  rcases h with (h | ⟨o, h⟩) | h
  · exact .inl (.inl (k.1 a xs h))
  · exact .inl (.inr ⟨o, k.2 a o _ h⟩)
  · exact .inr h
mutual
inductive Rp (K : PySem.W.Frag) (H : Hp) : V → PyData → Prop
  | non : Rp K H .non .none
  | bl (b : Bool) : Rp K H (.bl b) (.bool b)
  | int (i : Int) : Rp K H (.int i) (.int i)
  | str (x : Str) : Rp K H (.str x) (.str x)
  | tup {a : Addr} {xs : List V} {ds : List PyData} : SqT K H a xs → Rps K H xs ds → Rp K H (.ref a) (.tuple ds)
inductive Rps (K : PySem.W.Frag) (H : Hp) : List V → List PyData → Prop
  | nil : Rps K H [] []
  | cons {v : V} {vs : List V} {d : PyData} {ds : List PyData} : Rp K H v d → Rps K H vs ds → Rps K H (v :: vs) (d :: ds)
end
section
variable {K : PySem.W.Frag} {H H1 : Hp}
mutual
theorem Rp.ts (k : Tst H H1) : ∀ {d : PyData} {v : V}, Rp K H v d → Rp K H1 v d
  | .none, _, h => by cases h; exact .non
  | .bool b, _, h => by cases h; exact .bl b
  | .int i, _, h => by cases h; exact .int i
  | .str x, _, h => by cases h; exact .str x
  | .tuple ds, _, h => by
    cases h with
    | tup hs ha => exact .tup (k.sqT hs) (Rps.ts k ha)
  | .list _, _, h => by cases h
  | .dict _, _, h => by cases h
theorem Rps.ts (k : Tst H H1) : ∀ {ds : List PyData} {vs : List V}, Rps K H vs ds → Rps K H1 vs ds
  | [], _, h => by cases h; exact .nil
  | d :: ds, _, h => by
    cases h with
    | cons h1 h2 => exact .cons (Rp.ts k h1) (Rps.ts k h2)
end
theorem Rps.length : ∀ {ds : List PyData} {vs : List V}, Rps K H vs ds → vs.length = ds.length
  | [], _, h => by cases h; rfl
  | d :: ds, _, h => by
    cases h with
    | cons h1 h2 => rw [List.length_cons, List.length_cons, Rps.length h2]
theorem Rps.get : ∀ {ds : List PyData} {vs : List V} {i : Nat} {d : PyData}, Rps K H vs ds → ds[i]? = some d → ∃ v, vs[i]? = some v ∧ Rp K H v d
  | [], _, _, _, _, e => by simp at e
  | d :: ds, _, 0, _, h, e => by
    cases h with
    | cons h1 h2 =>
      simp at e
      subst e
      exact ⟨_, rfl, h1⟩
  | d :: ds, _, i + 1, d', h, e => by
    cases h with
    | cons h1 h2 =>
      obtain ⟨v, q1, q2⟩ := Rps.get (i := i) h2 (by simpa using e)
      exact ⟨v, by simpa using q1, q2⟩
theorem Rps.get' : ∀ {ds : List PyData} {vs : List V} {i : Nat} {v : V}, Rps K H vs ds → vs[i]? = some v → ∃ d, ds[i]? = some d ∧ Rp K H v d
  | [], _, _, _, h, e => by cases h; simp at e
  | d :: ds, _, 0, _, h, e => by
    cases h with
    | cons h1 h2 =>
      simp at e
      subst e
      exact ⟨_, rfl, h1⟩
  | d :: ds, _, i + 1, d', h, e => by
    cases h with
    | cons h1 h2 =>
      obtain ⟨v, q1, q2⟩ := Rps.get' (i := i) h2 (by simpa using e)
      exact ⟨v, by simpa using q1, q2⟩
theorem Rps.append : ∀ {ds ds' : List PyData} {vs vs' : List V}, Rps K H vs ds → Rps K H vs' ds' → Rps K H (vs ++ vs') (ds ++ ds')
  | [], _, _, _, h, h' => by cases h; exact h'
  | d :: ds, _, _, _, h, h' => by
    cases h with
    | cons h1 h2 => exact .cons h1 (Rps.append h2 h')
theorem Rps.take : ∀ {ds : List PyData} {vs : List V} (n : Nat), Rps K H vs ds → Rps K H (vs.take n) (ds.take n)
  | _, _, 0, _ => by rw [List.take_zero, List.take_zero]; exact .nil
  | [], _, n + 1, h => by cases h; exact .nil
  | d :: ds, _, n + 1, h => by
    cases h with
    | cons h1 h2 => exact .cons h1 (Rps.take n h2)
theorem Rp.tup_inv {v : V} {ds : List PyData} (h : Rp K H v (.tuple ds)) : ∃ a xs, v = .ref a ∧ SqT K H a xs ∧ Rps K H xs ds := by
  cases h with
  | tup hs ha => exact ⟨_, _, rfl, hs, ha⟩
theorem Rp.int_inv {v : V} {i : Int} (h : Rp K H v (.int i)) : v = .int i := by cases h; rfl
theorem Rp.str_inv {v : V} {x : Str} (h : Rp K H v (.str x)) : v = .str x := by cases h; rfl
theorem Rps.inv0 {vs : List V} (h : Rps K H vs []) : vs = [] := by cases h; rfl
theorem Rps.inv {vs : List V} {d : PyData} {ds : List PyData} (h : Rps K H vs (d :: ds)) : ∃ v r, vs = v :: r ∧ Rp K H v d ∧ Rps K H r ds := by
  cases h with
  | cons h1 h2 => exact ⟨_, _, rfl, h1, h2⟩
end
theorem ite_t {c : Bool} {A B : Prop} (h : c = true) (a : A) : if c = true then A else B := by rw [if_pos h]; exact a
theorem ite_f {c : Bool} {A B : Prop} (h : c = false) (b : B) : if c = true then A else B := by rw [if_neg (by rw [h]; decide)]; exact b
theorem small {n : Nat} (h : n ≤ 100000) : n ≤ sizeLine := Nat.le_trans h (by decide)
theorem smallT {n : Nat} (h : n ≤ 100000) : n < sizeLine := Nat.lt_of_le_of_lt h (by decide)
end Hw
namespace Hw
open PySem PySem.Spec PyProof.Rows L2
noncomputable def nums (l : List Nat) : List V := l.map fun (n : Nat) => V.int (n : Int)
theorem nums_flat {l : List Nat} : (nums l).all flatV = true := by
  unfold nums
  rw [List.all_eq_true]
  intro x hx
  obtain ⟨n, _, rfl⟩ := List.mem_map.mp hx
  rfl
noncomputable def rLen (K : PySem.W.Frag) : List V → Hp → VK → Prop := fun xs H Q => ∃ p ys, xs = [V.ref p] ∧ (SqL K H p ys ∨ SqT K H p ys) ∧ Q (V.int ↑ys.length) H
theorem c_len {X : Cx} : CallR X (.builtin "len") (rLen X.K) := call_len_seq
noncomputable def rInt1 : List V → Hp → VK → Prop := fun xs H Q => (∃ i, xs = [.int i] ∧ Q (.int i) H) ∨ ∃ k, xs = [.bl k] ∧ Q (.int (if k then 1 else 0)) H
theorem c_int {X : Cx} : CallR X (.type "int") rInt1 := call_int1
noncomputable def rTupOf (K : PySem.W.Frag) : List V → Hp → VK → Prop := fun xs H Q => ∃ p ys, xs = [.ref p] ∧ ((SqL K H p ys ∧ ∀ l, H l = none → Q (.ref l) (upd H l (.tup ys))) ∨ (SqT K H p ys ∧ Q (.ref p) H))
theorem c_tuple {X : Cx} : CallR X (.type "tuple") (rTupOf X.K) := call_tuple_of
noncomputable def rLstOf (K : PySem.W.Frag) : List V → Hp → VK → Prop := fun xs H Q => ∃ p ys, xs = [V.ref p] ∧ (SqL K H p ys ∨ SqT K H p ys) ∧ ∀ (l : Addr), H l = none → Q (V.ref l) (upd H l (HO.lst ys))
/-- an item of a list or of a tuple -/
noncomputable def rIxA (K : PySem.W.Frag) : R2 := fun x y H Q => ∃ p xs i v, x = .ref p ∧ y = .int i ∧ (SqL K H p xs ∨ SqT K H p xs) ∧ atI xs i = some v ∧ Q v H
noncomputable def kb (t n : String) : Bool := (kitB t n).getD false
section
variable {X : Cx} {K : PySem.W.Frag}
theorem ixL (h : X.K = K := by rfl) : IxR X (rIxL K) := h ▸ ix_list
theorem ixT (h : X.K = K := by rfl) : IxR X (rIxT K) := h ▸ ix_tup
theorem cLen (h : X.K = K := by rfl) : CallR X (.builtin "len") (rLen K) := h ▸ c_len
theorem cTuple (h : X.K = K := by rfl) : CallR X (.type "tuple") (rTupOf K) := h ▸ c_tuple
theorem slL (h : X.K = K := by rfl) : SlR X (rSlL K) := h ▸ sl_list
theorem slA (h : X.K = K := by rfl) : SlR X (rSlA K) := h ▸ sl_tupA
theorem opCatA (h : X.K = K := by rfl) : OpR X (binaryOp .Add) (rCatA K) := h ▸ op_catA
theorem opIn (h : X.K = K := by rfl) : OpR X (compareOp .In) (rIn K false) := h ▸ op_in_seq
theorem opNotIn (h : X.K = K := by rfl) : OpR X (compareOp .NotIn) (rIn K true) := h ▸ op_notIn_seq
theorem opNeD (hu : X.A.units + 64 < cLine) (h : X.K = K := by rfl) : OpR X (compareOp .NotEq) (rNeD K) := h ▸ op_neD hu
theorem cIsi (h : X.K = K := by rfl) : CallR X (.builtin "isinstance") (rIsi K) := h ▸ call_isi
theorem peApp {o e : Expr} {to te : TE} {apos cpos : Pos} (ho : PE X o to) (he : PE X e te) (h : X.K = K := by rfl)
    (h1 : attributeBase o "append" X.env (eval o X.env) = eval o X.env := by rfl)
    (h2 : ((((backTo cpos (starEach (e :: []) X.env)).all fun x => !x.fst) && (backToKw cpos (keywordEach [] X.env)).all fun x => x.fst.isSome) && decide (((e :: []).length + ([] : List Keyword).length + if ([] : List Keyword).isEmpty = true then 0 else 1) < 30)) = true := by rfl)
    (h3 : (apos.endLine == cpos.line) = true := by rfl) (h4 : starEach (e :: []) X.env = (false, eval e X.env) :: starEach [] X.env := by rfl) (h5 : ((backTo cpos (starEach [] X.env)).any fun x => x.fst) = false := by rfl) :
    PE X (.Call (.Attribute o "append" apos) [e] [] cpos) (tBM K "list" rAppend to (tCons te tNil)) := h ▸ pe_bm PySem.F.plainAttrs_list PySem.F.slot_list_append PySem.F.type_list_append mt_append ho (pa_cons he pa_nil h4) h1 h2 h3 h4 h5
theorem piList {tg l : Expr} {tl : TE} (h1 : PE X l tl) (h : X.K = K := by rfl) : PI X tg l (iList K tl) := h ▸ pi_list h1
theorem piTup {tg l : Expr} {tl : TE} (h1 : PE X l tl) (h : X.K = K := by rfl) : PI X tg l (iTup K tl) := h ▸ pi_tup h1
theorem piZip {e e2 : Expr} {ta : TA} {p pos tpos : Pos} {elts : List Expr} {kk : Nat} (hg : Gl X "zip") (hm : X.mg "zip" = none) (ha : PA X [e, e2] ta) (h : X.K = K := by rfl)
    (hs : starEach [e, e2] X.env = (false, eval e X.env) :: starEach [e2] X.env := by rfl) (hpl : ((backTo pos (starEach [e2] X.env)).any fun x => x.fst) = false := by rfl) : PI X (.Tuple elts kk tpos) (.Call (.Name "zip" p) [e, e2] [] pos) (RZ.iZipA K ta) := h ▸ RZ.pi_zipA hg hm ha hs hpl
theorem pgTup {es : List Expr} {k : Nat} {t : TGs} {n : Nat} {pos : Pos} (hc : X.calm = true) (h1 : PGs X es t) (h : X.K = K := by rfl)
    (hn : (assignEach es X.env).length = n := by rfl) (hst : (assignEach es X.env).findIdx? (·.1) = none := by rfl) : PG X (.Tuple es k pos) (gTup K n t) := h ▸ pg_tup hc h1 hn hst
end
theorem dRN {a : Addr} : decide (V.ref a = V.non) = false := rfl
theorem dIN {i : Int} : decide (V.int i = V.non) = false := rfl
theorem dNN : decide (V.non = V.non) = true := rfl
theorem nRN {a : Addr} : (!decide (V.ref a = V.non)) = true := rfl
theorem nIN {i : Int} : (!decide (V.int i = V.non)) = true := rfl
theorem nNN : (!decide (V.non = V.non)) = false := rfl
/-- what is asked of a call; of a new object; of a loop -/
noncomputable def Ask (sp : Sp) (vs : List V) (H : Hp) (Q : VK) (E : XK) : Prop := sp (vs ++ []) H Q E
noncomputable def IsBl (x : V) (R : Bool → Prop) : Prop := ∃ k, x = .bl k ∧ R k
noncomputable def IsInt (x : V) (R : Int → Prop) : Prop := ∃ i, x = .int i ∧ R i
noncomputable def IsTwo (vs : List V) (R : V → V → Prop) : Prop := ∃ v w, vs = [v, w] ∧ R v w
noncomputable def IsL (K : PySem.W.Frag) (x : V) (H : Hp) (R : Prop) : Prop := tyV K "list" x H ∧ R
noncomputable def GetD (x y : V) (H : Hp) (R : V → Prop) : Prop := ∃ a v, x = V.ref a ∧ DGet H a y (some v) ∧ R v
noncomputable def PutD (x y v : V) (H : Hp) (R : Hp → Prop) : Prop := ∃ a H4, x = V.ref a ∧ DPut H a y v H4 ∧ R H4
noncomputable def GetF (K : PySem.W.Frag) (f : Str) (x : V) (H : Hp) (R : V → Prop) : Prop := ∃ a C dx fs v, x = V.ref a ∧ H a = some (HO.ins C dx fs) ∧ Cls K C ∧ NoAttr K C f ∧ List.lookup f fs = some v ∧ R v
noncomputable def SetF (K : PySem.W.Frag) (f : Str) (x y : V) (H : Hp) (R : Hp → Prop) : Prop := ∃ a C dx fs, x = V.ref a ∧ H a = some (HO.ins C dx fs) ∧ Cls K C ∧ NoAttr K C f ∧ fs.length < 1000 ∧ R (upd H a (HO.ins C dx (putF f y fs)))
noncomputable def New (o : HO) (n : Nat) (H : Hp) (Q : VK) : Prop := n ≤ sizeLine ∧ ∀ p, H p = none → Q (.ref p) (upd H p o)
section
variable {K : PySem.W.Frag} {σ : L2.St} {H : Hp} {Q : VK} {QT : Bool → Hp → Prop} {ta tb tc te : TE} {t u : TT} {x y z v : V} {D : Ends} {ts tu : TS}
theorem r_var {i : Nat} (h : σ[i]? = some (some v)) (q : Q v H) : tVar i σ H Q := ⟨v, h, q⟩
theorem r_c (q : Q v H) : tC v σ H Q := q
theorem r_op {r : R2} (h : ta σ H fun x H1 => tb σ H1 fun y H2 => r x y H2 Q) : tOp r ta tb σ H Q := h
theorem r_I0 {g : Int → Int → V} {i j : Int} (q : Q (g i j) H) : rI0 g (.int i) (.int j) H Q := ⟨i, j, rfl, rfl, q⟩
theorem r_I {C : Int → Int → Prop} {g : Int → Int → V} {i j : Int} (c : C i j) (q : Q (g i j) H) : rI C g (.int i) (.int j) H Q := ⟨i, j, rfl, rfl, c, q⟩
theorem r_eq (h : scal x y = true) (q : Q (.bl (decide (x = y))) H) : rEq x y H Q := ⟨h, q⟩
theorem r_ne (h : scal x y = true) (q : Q (.bl (!decide (x = y))) H) : rNe x y H Q := ⟨h, q⟩
theorem r_isN (q : Q (.bl (decide (x = .non))) H) : rIsN x .non H Q := ⟨rfl, q⟩
theorem r_notN (q : Q (.bl (!decide (x = .non))) H) : rNotN x .non H Q := ⟨rfl, q⟩
theorem r_ixL {p : Addr} {xs : List V} {i : Int} (h : SqL K H p xs) (e : atI xs i = some v) (q : Q v H) : rIxL K (.ref p) (.int i) H Q := ⟨p, xs, i, v, rfl, rfl, h, e, q⟩
theorem r_ixT {p : Addr} {xs : List V} {i : Int} (h : SqT K H p xs) (e : atI xs i = some v) (q : Q v H) : rIxT K (.ref p) (.int i) H Q := ⟨p, xs, i, v, rfl, rfl, h, e, q⟩
theorem r_ixA {p : Addr} {xs : List V} {i : Int} (h : SqL K H p xs ∨ SqT K H p xs) (e : atI xs i = some v) (q : Q v H) : rIxA K (.ref p) (.int i) H Q := ⟨p, xs, i, v, rfl, rfl, h, e, q⟩
theorem r_in {p : Addr} {xs : List V} {n : Bool} (h : SqL K H p xs ∨ SqT K H p xs) (f : flatV x = true) (g : xs.all flatV = true) (q : Q (V.bl (if n = true then !inV x xs else inV x xs)) H) : rIn K n x (.ref p) H Q := ⟨p, xs, rfl, h, f, g, q⟩
theorem r_test (h : te σ H fun x H' => IsBl x fun k => QT k H') : tTest te σ H QT := h
theorem r_B (h : te σ H fun x H' => IsBl x fun k => QT k H') : tB te σ H QT := h
theorem r_bl {k : Bool} {R : Bool → Prop} (q : R k) : IsBl (.bl k) R := ⟨k, rfl, q⟩
theorem r_not (h : t σ H fun c H1 => QT (!c) H1) : tNot t σ H QT := h
theorem r_and (h : t σ H fun c H1 => if c = true then u σ H1 QT else QT false H1) : tAnd t u σ H QT := h
theorem r_or (h : t σ H fun c H1 => if c = true then QT true H1 else u σ H1 QT) : tOr t u σ H QT := h
theorem r_notV (h : ta σ H fun x H1 => IsBl x fun c => Q (V.bl !c) H1) : tNotV ta σ H Q := h
theorem r_andV (h : ta σ H fun x H1 => IsBl x fun c => if c = true then tb σ H1 Q else Q (V.bl false) H1) : tAndV ta tb σ H Q := h
theorem r_orV (h : ta σ H fun x H1 => IsBl x fun c => if c = true then Q (V.bl true) H1 else tb σ H1 Q) : tOrV ta tb σ H Q := h
theorem r_ifE (h : t σ H fun c H1 => if c = true then ta σ H1 Q else tb σ H1 Q) : tIf t ta tb σ H Q := h
theorem r_chain {r r' : R2} (h : ta σ H fun x H1 => tb σ H1 fun y H2 => r x y H2 fun z H3 => IsBl z fun k => if k = true then tc σ H3 fun w' H4 => r' y w' H4 Q else Q (V.bl false) H3) : tChain r r' ta tb tc σ H Q := h
/-- both tests only look -/
theorem r_andP {a b : Bool} (h1 : ∀ R : Bool → Hp → Prop, R a H → t σ H R) (h2 : a = true → ∀ R : Bool → Hp → Prop, R b H → u σ H R) (q : QT (a && b) H) : tAnd t u σ H QT := by
  refine h1 _ ?_
  cases a with
  | true =>
    refine h2 rfl _ ?_
    exact q
  | false => exact q
theorem r_orP {a b : Bool} (h1 : ∀ R : Bool → Hp → Prop, R a H → t σ H R) (h2 : a = false → ∀ R : Bool → Hp → Prop, R b H → u σ H R) (q : QT (a || b) H) : tOr t u σ H QT := by
  refine h1 _ ?_
  cases a with
  | true => exact q
  | false =>
    refine h2 rfl _ ?_
    exact q
/-- an impure second test -/
theorem r_andI {a : Bool} (h1 : ∀ R : Bool → Hp → Prop, R a H → t σ H R) (h2 : a = true → u σ H QT) (h3 : a = false → QT false H) : tAnd t u σ H QT := by
  refine h1 _ ?_
  cases a with
  | true => exact h2 rfl
  | false => exact h3 rfl
theorem cut {t u : TS} (Mid : L2.St → Hp → Prop) (h : t { D with nx := Mid } σ H) (k : ∀ σ' H', Mid σ' H' → u D σ' H') : Evl.tCut t u D σ H := ⟨Mid, h, k⟩
theorem r_nil {QA : List V → Hp → Prop} (q : QA [] H) : tNil σ H QA := q
theorem r_cons {QA : List V → Hp → Prop} {tr : TA} (h : ta σ H fun x H1 => tr σ H1 fun xs H2 => QA (x :: xs) H2) : tCons ta tr σ H QA := h
theorem r_call {sp : Sp} {E : XK} {t : TA} (h : t σ H fun vs H1 => Ask sp vs H1 Q E) : tCall sp [] E t σ H Q := h
theorem ask {sp : Sp} {vs : List V} {E : XK} (h : sp vs H Q E) : Ask sp vs H Q E := by
  unfold Ask
  rw [List.append_nil]
  exact h
theorem r_cb {r : List V → Hp → VK → Prop} {t : TA} (h : t σ H fun vs H1 => r vs H1 Q) : tCB r t σ H Q := h
theorem r_lenL {p : Addr} {ys : List V} (h : SqL K H p ys) (q : Q (.int ys.length) H) : rLen K [.ref p] H Q := ⟨p, ys, rfl, .inl h, q⟩
theorem r_lenT {p : Addr} {ys : List V} (h : SqT K H p ys) (q : Q (.int ys.length) H) : rLen K [.ref p] H Q := ⟨p, ys, rfl, .inr h, q⟩
theorem r_int {i : Int} (q : Q (.int i) H) : rInt1 [.int i] H Q := .inl ⟨i, rfl, q⟩
theorem r_intB {k : Bool} (q : Q (.int (if k then 1 else 0)) H) : rInt1 [.bl k] H Q := .inr ⟨k, rfl, q⟩
theorem r_tupL {p : Addr} {ys : List V} (h : SqL K H p ys) (q : New (.tup ys) 0 H Q) : rTupOf K [.ref p] H Q := ⟨p, ys, rfl, .inl ⟨h, q.2⟩⟩
theorem r_tupT {p : Addr} {ys : List V} (h : SqT K H p ys) (q : Q (.ref p) H) : rTupOf K [.ref p] H Q := ⟨p, ys, rfl, .inr ⟨h, q⟩⟩
theorem r_lstL {p : Addr} {ys : List V} (h : SqL K H p ys) (q : New (.lst ys) 0 H Q) : rLstOf K [.ref p] H Q := ⟨p, ys, rfl, .inl h, q.2⟩
theorem r_lstT {p : Addr} {ys : List V} (h : SqT K H p ys) (q : New (.lst ys) 0 H Q) : rLstOf K [.ref p] H Q := ⟨p, ys, rfl, .inr h, q.2⟩
theorem r_tup {t : TA} (h : t σ H fun xs H1 => New (.tup xs) xs.length H1 Q) : tTup t σ H Q := h
theorem r_lst {t : TA} (h : t σ H fun xs H1 => New (.lst xs) xs.length H1 Q) : tLst t σ H Q := h
theorem new {o : HO} {n : Nat} (z : n ≤ sizeLine) (q : ∀ p H1, H p = none → H1 p = some o → Keep [] H H1 → Q (.ref p) H1) : New o n H Q := ⟨z, fun p hp => q p _ hp upd_same (Keep.new hp)⟩
theorem r_isi {t n : String} (ty : TyX K H x (.type t)) (e : (kitB t n).isSome = true) (q : Q (.bl (kb t n)) H) : rIsi K [x, .ty n] H Q := ⟨x, .ty n, .type t, .type n, kb t n, rfl, .ty n, ty, kit_ty (by unfold kb; rw [Option.isSome_iff_exists] at e; obtain ⟨b, e⟩ := e; rw [e]; rfl), q⟩
theorem r_isiT2 {t n1 n2 : String} {tp : Addr} (hT : H tp = some (.tup [.ty n1, .ty n2])) (ty : TyX K H x (.type t)) (e1 : (kitB t n1).isSome = true) (e2 : (kitB t n2).isSome = true) (q : Q (.bl (kb t n1 || kb t n2)) H) : rIsiT K [x, .ref tp] H Q := by
  have f1 : kitB t n1 = some (kb t n1) := by unfold kb; rw [Option.isSome_iff_exists] at e1; obtain ⟨b, e⟩ := e1; rw [e]; rfl
  have f2 : kitB t n2 = some (kb t n2) := by unfold kb; rw [Option.isSome_iff_exists] at e2; obtain ⟨b, e⟩ := e2; rw [e]; rfl
  exact ⟨x, tp, _, .type t, [.type n1, .type n2], kb t n1 || kb t n2, rfl, hT, .cons (.ty n1) (.cons (.ty n2) .nil), ty, kitAny_cons (kit_ty f1) (fun h => by rw [h, Bool.false_or]; exact kitAny_cons (kit_ty f2) (fun h2 => by rw [h2]; exact kitAny_nil) fun h2 => h2) (fun h => by rw [h, Bool.true_or]), q⟩
theorem tyT {a : Addr} {xs : List V} (h : SqT K H a xs) : TyX K H (.ref a) (.type "tuple") := by
  rcases h with (h | ⟨o, h⟩) | ⟨o, its, n, h, c, _⟩
  · exact .base (.tup h)
  · exact .fTuple h
  · exact .kTuple h c
theorem tyL {a : Addr} {xs : List V} (h : SqL K H a xs) : TyX K H (.ref a) (.type "list") := by
  rcases h with (h | ⟨o, h⟩) | ⟨o, its, n, h, c, _⟩
  · exact .base (.lst h)
  · exact .base (.frz h)
  · exact .kList h c
theorem r_sl {r : V → Option Int → Option Int → Hp → VK → Prop} {tl th : TO} (h : te σ H fun x H1 => tl σ H1 fun l H2 => th σ H2 fun u H3 => r x l u H3 Q) : tSl r te tl th σ H Q := h
theorem r_part {QO : Option Int → Hp → Prop} (h : te σ H fun x H1 => IsInt x fun i => QO (some i) H1) : tPart te σ H QO := h
theorem r_part1 {R : Int → Prop} {i : Int} (q : R i) : IsInt (.int i) R := ⟨i, rfl, q⟩
theorem r_noPart {QO : Option Int → Hp → Prop} (q : QO none H) : tNoPart σ H QO := q
theorem r_slL {a : Addr} {xs : List V} {lo hi : Option Int} (h : SqL K H a xs) (q : New (.lst (cutV xs lo hi)) 0 H Q) : rSlL K (.ref a) lo hi H Q := ⟨a, xs, rfl, h, q.2⟩
/-- a slice of a tuple: some tuple of these -/
theorem r_slA {a : Addr} {xs : List V} {lo hi : Option Int} (h : SqT K H a xs) (q : ∀ p H1, SqT K H1 p (cutV xs lo hi) → Keep [] H H1 → (∀ b, H1 b = none → H b = none) → Q (.ref p) H1) : rSlA K (.ref a) lo hi H Q := by
  refine ⟨a, xs, rfl, h, fun e => ?_, fun _ p hp => q p _ (SqT.of upd_same) (Keep.new hp) fun b hb => (Keep.new (M := []) hp).free (fun _ z => nomatch z) hb⟩
  refine q a H ?_ Keep.refl fun _ h => h
  have : cutV xs lo hi = xs := by
    unfold cutV
    rw [e.1, e.2]
    simp
  rw [this]
  exact h
theorem cutV_to {xs : List V} {k : Int} (h : 0 ≤ k) : cutV xs none (some k) = xs.take k.toNat := by
  unfold cutV HT.sIx
  simp only [if_neg (show ¬ k < 0 by omega), List.drop_zero, Nat.sub_zero]
  rw [← List.take_take, List.take_length]
theorem atI_ints {ns : List Int} {v : Int} (h0 : 0 ≤ v) (h1 : v < ns.length) : ∃ z, atI (ns.map V.int) v = some (.int z) ∧ z ∈ ns := by
  obtain ⟨m, rfl⟩ : ∃ m : Nat, v = m := ⟨v.toNat, by omega⟩
  have hm : m < ns.length := by omega
  refine ⟨ns[m], atI_nat ?_, List.getElem_mem hm⟩
  rw [List.getElem?_map, List.getElem?_eq_getElem hm]
  rfl
theorem r_catA {a b : Addr} {xs ys : List V} (h : SqT K H a xs) (g : SqT K H b ys) (z : xs.length + ys.length ≤ sizeLine) (q : ∀ p H1, SqT K H1 p (xs ++ ys) → Keep [] H H1 → (∀ b, H1 b = none → H b = none) → Q (.ref p) H1) : rCatA K (.ref a) (.ref b) H Q := by
  refine ⟨a, b, xs, ys, rfl, rfl, h, g, z, fun e => ?_, fun _ e => ?_, fun _ _ p hp => q p _ (SqT.of upd_same) (Keep.new hp) fun b hb => (Keep.new (M := []) hp).free (fun _ z => nomatch z) hb⟩
  · refine q b H ?_ Keep.refl fun _ h => h
    rw [e]
    exact g
  · refine q a H ?_ Keep.refl fun _ h => h
    rw [e, List.append_nil]
    exact h
theorem r_cat {a b : Addr} {xs ys : List V} (h : H a = some (.lst xs)) (g : H b = some (.lst ys)) (z : xs.length + ys.length ≤ sizeLine) (q : New (.lst (xs ++ ys)) 0 H Q) : rCat (.ref a) (.ref b) H Q := ⟨a, b, xs, ys, rfl, rfl, h, g, z, q.2⟩
theorem r_seq (h : ts { D with nx := tu D } σ H) : tSeq ts tu D σ H := h
theorem r_next (h : D.nx σ H) : tNext D σ H := h
theorem r_asg {g : TG} (h : te σ H fun x H1 => g x σ H1 D.nx) : tAsg te g D σ H := h
theorem r_name {i : Nat} {QS : L2.St → Hp → Prop} (h : QS (σ.set i (some v)) H) : gName i v σ H QS := h
theorem r_drop (h : te σ H fun _ H1 => D.nx σ H1) : tDrop te D σ H := h
theorem r_ret (h : te σ H D.rt) : tRet te D σ H := h
theorem r_retN (h : D.rt .non H) : tRetN D σ H := h
theorem r_if (h : t σ H fun b H1 => if b = true then ts D σ H1 else tu D σ H1) : tIfS t ts tu D σ H := h
theorem r_par {i j : Nat} {ta : TA} (h : ta σ H fun vs H1 => IsTwo vs fun v w => D.nx ((List.set σ i (some v)).set j (some w)) H1) : tPar i j ta D σ H := h
theorem r_par2 {v w : V} {R : V → V → Prop} (q : R v w) : IsTwo [v, w] R := ⟨v, w, rfl, q⟩
theorem r_sub {to ti : TE} {t : TSet} {QS : L2.St → Hp → Prop} (h : to σ H fun o H1 => ti σ H1 fun i H2 => t o i v H2 fun H3 => QS σ H3) : gSub to ti t v σ H QS := h
theorem r_setL {p : Addr} {xs : List V} {k : Int} {j : Nat} {QH : Hp → Prop} (h : H p = some (.lst xs)) (e : L2.ixN xs.length k = some j) (q : ∀ H1, H1 p = some (.lst (xs.set j v)) → Keep [p] H H1 → QH H1) : rSetL (.ref p) (.int k) v H QH :=
  ⟨p, xs, k, j, rfl, rfl, h, e, q _ upd_same (Keep.put (List.mem_singleton.mpr rfl))⟩
theorem r_gtup {a : Addr} {xs : List V} {n : Nat} {t : TGs} {QS : L2.St → Hp → Prop} (h : SqT K H a xs) (e : xs.length = n) (q : t xs σ H QS) : gTup K n t (.ref a) σ H QS := ⟨a, xs, rfl, h, e, q⟩
theorem r_gnil {QS : L2.St → Hp → Prop} (q : QS σ H) : gNil [] σ H QS := ⟨rfl, q⟩
theorem r_gcons {t : TG} {u : TGs} {r : List V} {QS : L2.St → Hp → Prop} (q : t v σ H fun σ' H' => u r σ' H' QS) : gCons t u (v :: r) σ H QS := ⟨v, r, rfl, q⟩
theorem r_append {r : V → List V → Hp → VK → Prop} {t : TA} (h : ta σ H fun x H1 => IsL K x H1 (t σ H1 fun xs H2 => r x xs H2 Q)) : tBM K "list" r ta t σ H Q := h
theorem r_isL {p : Addr} {xs : List V} {R : Prop} (h : SqL K H p xs) (q : R) : IsL K (.ref p) H R := ⟨.inl ⟨rfl, xs, h⟩, q⟩
theorem r_app {l : Addr} {xs : List V} (h : H l = some (.lst xs)) (z : xs.length < sizeLine) (q : ∀ H1, H1 l = some (.lst (xs ++ [y])) → Keep [l] H H1 → Q .non H1) : rAppend (.ref l) [y] H Q :=
  ⟨l, xs, y, rfl, rfl, h, z, q _ upd_same (Keep.put (List.mem_singleton.mpr rfl))⟩
theorem r_dget {td ty : TE} (h : td σ H fun x H1 => ty σ H1 fun y H2 => GetD x y H2 fun v => Q v H2) : tDGet td ty σ H Q := h
theorem r_dgetS {a : Addr} {k : Str} {kvs : List (Key × V)} {R : V → Prop} (h : H a = some (.dK kvs)) (e : valV kvs (.inr k) = some v) (q : R v) : GetD (.ref a) (.str k) H R := ⟨a, v, rfl, e ▸ DGet.k (k := Sum.inr k) h, q⟩
theorem r_dput {td ty tv : TE} (h : tv σ H fun v H1 => td σ H1 fun x H2 => ty σ H2 fun y H3 => PutD x y v H3 fun H4 => D.nx σ H4) : sDPut td ty tv D σ H := h
theorem r_dputS {a : Addr} {k : Str} {kvs : List (Key × V)} {QH : Hp → Prop} (h : H a = some (.dK kvs)) (z : kvs.length < sizeLine) (q : ∀ H1, H1 a = some (.dK (putK kvs (.inr k) v)) → Keep [a] H H1 → QH H1) : PutD (.ref a) (.str k) v H QH :=
  ⟨a, _, rfl, DPut.k (k := Sum.inr k) h z, q _ upd_same (Keep.put (List.mem_singleton.mpr rfl))⟩
noncomputable def Disp (p : Addr) (ps : List (V × V)) (H : Hp) (Q : VK) : Prop := H p = some (.dK []) ∧ ∃ kvs : List (Key × V), ps = kvs.map (fun kv => (kV kv.1, kv.2)) ∧ kvs.length ≤ 15 ∧ Q (.ref p) (upd H p (.dK (mergeK [] kvs)))
theorem r_disp {trs : List (TE × TE)} (h : ∀ p H1, H p = none → H1 p = some (.dK []) → Keep [] H H1 → tPairs trs σ H1 fun ps H2 => Disp p ps H2 Q) : tDisp trs σ H Q := fun p hp => h p _ hp upd_same (Keep.new hp)
theorem r_pnil {QP : List (V × V) → Hp → Prop} (q : QP [] H) : tPairs [] σ H QP := q
theorem r_pcons {tk tv : TE} {r : List (TE × TE)} {QP : List (V × V) → Hp → Prop} (h : tk σ H fun x H1 => tv σ H1 fun y H2 => tPairs r σ H2 fun ps H3 => QP ((x, y) :: ps) H3) : tPairs ((tk, tv) :: r) σ H QP := h
theorem put_new {acc : List (Key × V)} {k : Key} {x : V} (h : ∀ p ∈ acc, p.1 ≠ k) : putK acc k x = acc ++ [(k, x)] := by
  unfold putK
  rw [if_neg]
  intro c
  obtain ⟨p, hp, e⟩ := List.any_eq_true.mp c
  exact h p hp (of_decide_eq_true e)
theorem mergeK_app : ∀ {kvs acc : List (Key × V)}, ((acc ++ kvs).map (·.1)).Nodup → mergeK acc kvs = acc ++ kvs
  | [], acc, _ => (List.append_nil acc).symm
  | (k, x) :: r, acc, h => by
    have e : acc ++ (k, x) :: r = (acc ++ [(k, x)]) ++ r := by rw [List.append_assoc]; rfl
    have hn : ∀ p ∈ acc, p.1 ≠ k := fun p hp z => by
      rw [List.map_append] at h
      exact (List.nodup_append.mp h).2.2 p.1 (List.mem_map_of_mem hp) k (List.mem_map_of_mem (f := (·.1)) (List.mem_cons_self (a := (k, x)))) z
    show mergeK (putK acc k x) r = _
    rw [put_new hn, e]
    exact mergeK_app (by rw [← e]; exact h)
theorem disp {p : Addr} {ps : List (V × V)} (kvs : List (Key × V)) (h : H p = some (.dK [])) (e : ps = kvs.map (fun kv => (kV kv.1, kv.2))) (z : kvs.length ≤ 15) (n : (kvs.map (·.1)).Nodup) (q : ∀ H1, H1 p = some (.dK kvs) → Keep [p] H H1 → Q (.ref p) H1) : Disp p ps H Q := by
  refine ⟨h, kvs, e, z, ?_⟩
  rw [mergeK_app (acc := []) (kvs := kvs) n]
  exact q _ upd_same (Keep.put (List.mem_singleton.mpr rfl))
theorem r_fld {f : Str} (h : ta σ H fun x H1 => GetF K f x H1 fun v => Q v H1) : tFld K ta f σ H Q := h
theorem r_fld1 {f : Str} {a C dx : Addr} {fs : List (Str × V)} {R : V → Prop} (h : H a = some (.ins C dx fs)) (c : Cls K C) (n : NoAttr K C f) (e : fs.lookup f = some v) (q : R v) : GetF K f (.ref a) H R := ⟨a, C, dx, fs, v, rfl, h, c, n, e, q⟩
theorem r_sfld {f : Str} {tv : TE} (h : tv σ H fun y H1 => ta σ H1 fun x H2 => SetF K f x y H2 fun H3 => D.nx σ H3) : sFld K ta tv f D σ H := h
theorem r_sfld1 {f : Str} {a C dx : Addr} {fs : List (Str × V)} {QH : Hp → Prop} (h : H a = some (.ins C dx fs)) (c : Cls K C) (n : NoAttr K C f) (z : fs.length < 1000) (q : ∀ H1, H1 a = some (.ins C dx (putF f y fs)) → Keep [a] H H1 → QH H1) : SetF K f (.ref a) y H QH := ⟨a, C, dx, fs, rfl, h, c, n, z, q _ upd_same (Keep.put (List.mem_singleton.mpr rfl))⟩
noncomputable def ForIt (J : It) (g : TG) (tb : TS) (D : Ends) (σ : L2.St) (H : Hp) : Prop := ∃ W : Nat → Nat → L2.St → Hp → Prop, (∃ m, W 0 m σ H) ∧ ∀ i m σ H, W i m σ H →
  (J.stop i H ∧ D.nx σ H) ∨ (J.go i H ∧ ∃ N : L2.St → Hp → Prop, (∀ σ' H', N σ' H' → ∃ m', m' < m ∧ W (i + 1) m' σ' H') ∧ ∀ x H', J.yld i H x H' → g x σ H' fun σ2 H2 => tb { D with nx := N, ct := N, bk := D.nx } σ2 H2)
theorem r_for {wi : TI} {g : TG} (h : wi σ H fun J H1 => ForIt J g ts D σ H1) : tFor wi g ts D σ H := h
noncomputable def RngOf (vs : List V) (R : Int → Prop) : Prop := ∃ j : Int, vs = [.int j] ∧ -(2 ^ 62) ≤ j ∧ j < 2 ^ 62 ∧ R j
theorem r_iRng1 {ta : TA} {R : It → Hp → Prop} (h : ta σ H fun vs H1 => RngOf vs fun n => R (Itr 0 n.toNat) H1) : iRng1 ta σ H R := h
theorem r_rng {j : Int} {R : Int → Prop} (h1 : -(2 ^ 62) ≤ j) (h2 : j < 2 ^ 62) (q : R j) : RngOf [.int j] R := ⟨j, rfl, h1, h2, q⟩
noncomputable def OverL (K : PySem.W.Frag) (x : V) (H : Hp) (R : Addr → Prop) : Prop := ∃ a, x = .ref a ∧ (∃ xs, SqL K H a xs) ∧ R a
noncomputable def OverT (K : PySem.W.Frag) (x : V) (H : Hp) (R : Addr → Prop) : Prop := ∃ a, x = .ref a ∧ (∃ xs, SqT K H a xs) ∧ R a
theorem r_iList {R : It → Hp → Prop} (h : ta σ H fun x H1 => OverL K x H1 fun a => R (Itl K a) H1) : iList K ta σ H R := h
theorem r_iTup {R : It → Hp → Prop} (h : ta σ H fun x H1 => OverT K x H1 fun a => R (Itt K a) H1) : iTup K ta σ H R := h
theorem r_overL {a : Addr} {xs : List V} {R : Addr → Prop} (h : SqL K H a xs) (q : R a) : OverL K (.ref a) H R := ⟨a, rfl, ⟨xs, h⟩, q⟩
theorem r_overT {a : Addr} {xs : List V} {R : Addr → Prop} (h : SqT K H a xs) (q : R a) : OverT K (.ref a) H R := ⟨a, rfl, ⟨xs, h⟩, q⟩
theorem forR {n : Nat} {g : TG} (Pv : Nat → L2.St → Hp → Prop) (h0 : Pv 0 σ H) (hs : ∀ i σ H, i < n → Pv i σ H → g (.int (i : Int)) σ H fun σ2 H2 => ts { D with nx := Pv (i + 1), ct := Pv (i + 1), bk := D.nx } σ2 H2)
    (hd : ∀ σ H, Pv n σ H → D.nx σ H) : ForIt (Itr 0 n) g ts D σ H :=
  for_it (walk_range (lo := 0) (n := n)) Pv h0 (fun _ _ _ _ _ => trivial) (fun i x σ H H' hi p y => by
    obtain ⟨rfl, rfl⟩ := y
    show g (.int (0 + (i : Int))) σ H' _
    rw [Int.zero_add]
    exact hs i σ H' hi p) hd
theorem forT {a : Addr} {xs : List V} {g : TG} (Pv : Nat → L2.St → Hp → Prop) (h0 : Pv 0 σ H) (hG : ∀ i σ H, i ≤ xs.length → Pv i σ H → SqT K H a xs) (hs : ∀ i x σ H, xs[i]? = some x → Pv i σ H → g x σ H fun σ2 H2 => ts { D with nx := Pv (i + 1), ct := Pv (i + 1), bk := D.nx } σ2 H2)
    (hd : ∀ σ H, Pv xs.length σ H → D.nx σ H) : ForIt (Itt K a) g ts D σ H :=
  for_it walk_tup Pv h0 hG (fun i x σ H H' hi p y => by
    obtain ⟨rfl, e⟩ := y
    exact hs i x σ H' e p) hd
noncomputable def Down (Pv : Nat → L2.St → Hp → Prop) (m : Nat) (σ : L2.St) (H : Hp) : Prop := ∃ m', m' < m ∧ Pv m' σ H
/-- a turn of a while -/
noncomputable def WhT (Pv : Nat → L2.St → Hp → Prop) (m : Nat) (ts : TS) (D : Ends) (σ : L2.St) (H : Hp) : Prop := ∃ N : L2.St → Hp → Prop, (∀ σ' H', N σ' H' → ∃ m', m' < m ∧ Pv m' σ' H') ∧ ts { D with nx := N, ct := N, bk := D.nx } σ H
theorem turn {Pv : Nat → L2.St → Hp → Prop} {m : Nat} (h : ts { D with nx := Down Pv m, ct := Down Pv m, bk := D.nx } σ H) : WhT Pv m ts D σ H := ⟨Down Pv m, fun _ _ q => q, h⟩
noncomputable def LcIt (J : It) (g : TG) (tt : TT) (te : TE) (vs : List Nat) (σ : L2.St) (H1 : Hp) (Q : VK) : Prop := ∀ D, H1 D = none → ∃ W : Nat → Nat → Hp → Prop, (∃ m, W 0 m (upd H1 D (.lst []))) ∧ ∀ i m H, W i m H →
  (J.stop i H ∧ Q (.ref D) H) ∨ (J.go i H ∧ ∃ Nx : Hp → Prop, (∀ H', Nx H' → ∃ m', m' < m ∧ W (i + 1) m' H') ∧ ∀ x H', J.yld i H x H' → g x (wipe σ vs) H' fun σ2 H2 => wipe σ2 vs = wipe σ vs ∧ tt σ2 H2 fun b H3 =>
    if b = true then te σ2 H3 fun y H4 => ∃ acc, H4 D = some (.lst acc) ∧ acc.length < sizeLine ∧ Nx (upd H4 D (.lst (acc ++ [y]))) else Nx H3)
theorem r_lc {wi : TI} {g : TG} {tt : TT} {vs : List Nat} (h : wi σ H fun J H1 => LcIt J g tt te vs σ H1 Q) : tLc wi g tt te vs σ H Q := h
noncomputable def Acc (D : Addr) (y : V) (H : Hp) (R : Hp → Prop) : Prop := ∃ acc, H D = some (.lst acc) ∧ acc.length < sizeLine ∧ R (upd H D (.lst (acc ++ [y])))
theorem acc {E : Addr} {xs : List V} {R : Hp → Prop} (h : H E = some (.lst xs)) (z : xs.length < sizeLine) (q : ∀ H1, H1 E = some (.lst (xs ++ [y])) → Keep [E] H H1 → R H1) : Acc E y H R := ⟨xs, h, z, q _ upd_same (Keep.put (List.mem_singleton.mpr rfl))⟩
theorem lcY {J : It} {n : Nat} {G : Hp → Prop} {Y : Nat → Hp → V → Hp → Prop} (w : Walk J n G Y) {g : TG} {vs : List Nat} (Pv : Addr → Nat → Hp → Prop) (h0 : ∀ E H1, H E = none → H1 E = some (.lst []) → Keep [] H H1 → Pv E 0 H1) (hG : ∀ E i H, i ≤ n → Pv E i H → G H)
    (hs : ∀ E i x H H', i < n → Pv E i H → Y i H x H' → g x (wipe σ vs) H' fun σ2 H2 => wipe σ2 vs = wipe σ vs ∧ te σ2 H2 fun y H4 => Acc E y H4 (Pv E (i + 1))) (hd : ∀ E H, Pv E n H → Q (.ref E) H) : LcIt J g tYes te vs σ H Q :=
  fun E hE => lc_it w (Pv E) (h0 E _ hE upd_same (Keep.new hE)) (hG E) (fun i x H1 H' hi p y => hs E i x H1 H' hi p y) (hd E)
theorem lcR {n : Nat} {g : TG} {vs : List Nat} (Pv : Addr → Nat → Hp → Prop) (h0 : ∀ E H1, H E = none → H1 E = some (.lst []) → Keep [] H H1 → Pv E 0 H1)
    (hs : ∀ E i H, i < n → Pv E i H → g (.int (i : Int)) (wipe σ vs) H fun σ2 H2 => wipe σ2 vs = wipe σ vs ∧ te σ2 H2 fun y H4 => Acc E y H4 (Pv E (i + 1))) (hd : ∀ E H, Pv E n H → Q (.ref E) H) : LcIt (Itr 0 n) g tYes te vs σ H Q :=
  lcY (walk_range (lo := 0) (n := n)) Pv h0 (fun _ _ _ _ _ => trivial) (fun E i x H H' hi p y => by
    obtain ⟨rfl, rfl⟩ := y
    show g (.int (0 + (i : Int))) (wipe σ vs) H' _
    rw [Int.zero_add]
    exact hs E i H' hi p) hd
theorem lcL {a : Addr} {xs : List V} {g : TG} {vs : List Nat} (Pv : Addr → Nat → Hp → Prop) (h0 : ∀ E H1, H E = none → H1 E = some (.lst []) → Keep [] H H1 → Pv E 0 H1) (hG : ∀ E i H, i ≤ xs.length → Pv E i H → SqL K H a xs)
    (hs : ∀ E i x H, xs[i]? = some x → Pv E i H → g x (wipe σ vs) H fun σ2 H2 => wipe σ2 vs = wipe σ vs ∧ te σ2 H2 fun y H4 => Acc E y H4 (Pv E (i + 1))) (hd : ∀ E H, Pv E xs.length H → Q (.ref E) H) : LcIt (Itl K a) g tYes te vs σ H Q :=
  lcY walk_list Pv h0 hG (fun E i x H H' hi p y => by
    obtain ⟨rfl, e⟩ := y
    exact hs E i x H' e p) hd
theorem lcT {a : Addr} {xs : List V} {g : TG} {vs : List Nat} (Pv : Addr → Nat → Hp → Prop) (h0 : ∀ E H1, H E = none → H1 E = some (.lst []) → Keep [] H H1 → Pv E 0 H1) (hG : ∀ E i H, i ≤ xs.length → Pv E i H → SqT K H a xs)
    (hs : ∀ E i x H, xs[i]? = some x → Pv E i H → g x (wipe σ vs) H fun σ2 H2 => wipe σ2 vs = wipe σ vs ∧ te σ2 H2 fun y H4 => Acc E y H4 (Pv E (i + 1))) (hd : ∀ E H, Pv E xs.length H → Q (.ref E) H) : LcIt (Itt K a) g tYes te vs σ H Q :=
  lcY walk_tup Pv h0 hG (fun E i x H H' hi p y => by
    obtain ⟨rfl, e⟩ := y
    exact hs E i x H' e p) hd
theorem lcYi {J : It} {n : Nat} {G : Hp → Prop} {Y : Nat → Hp → V → Hp → Prop} (w : Walk J n G Y) {g : TG} {tt : TT} {vs : List Nat} (Pv : Addr → Nat → Hp → Prop) (h0 : ∀ E H1, H E = none → H1 E = some (.lst []) → Keep [] H H1 → Pv E 0 H1) (hG : ∀ E i H, i ≤ n → Pv E i H → G H)
    (hs : ∀ E i x H H', i < n → Pv E i H → Y i H x H' → g x (wipe σ vs) H' fun σ2 H2 => wipe σ2 vs = wipe σ vs ∧ tt σ2 H2 fun b H3 => if b = true then te σ2 H3 fun y H4 => Acc E y H4 (Pv E (i + 1)) else Pv E (i + 1) H3) (hd : ∀ E H, Pv E n H → Q (.ref E) H) : LcIt J g tt te vs σ H Q :=
  fun E hE => lc_it w (Pv E) (h0 E _ hE upd_same (Keep.new hE)) (hG E) (fun i x H1 H' hi p y => hs E i x H1 H' hi p y) (hd E)
end
theorem stopAsk {sp : Sp} {vs : List V} {H : Hp} {Q : VK} {E : XK} (h : Ask sp vs H Q E) : Ask sp vs H Q E := h
theorem stopFor {J : It} {g : TG} {tb : TS} {D : Ends} {σ : L2.St} {H : Hp} (h : ForIt J g tb D σ H) : ForIt J g tb D σ H := h
theorem stopLc {J : It} {g : TG} {tt : TT} {te : TE} {vs : List Nat} {σ : L2.St} {H1 : Hp} {Q : VK} (h : LcIt J g tt te vs σ H1 Q) : LcIt J g tt te vs σ H1 Q := h
theorem stopAnd {t u : TT} {σ : L2.St} {H : Hp} {Q : Bool → Hp → Prop} (h : tAnd t u σ H Q) : tAnd t u σ H Q := h
theorem stopOr {t u : TT} {σ : L2.St} {H : Hp} {Q : Bool → Hp → Prop} (h : tOr t u σ H Q) : tOr t u σ H Q := h
theorem stopEx {α : Sort u} {p : α → Prop} (h : Exists p) : Exists p := h
end Hw
namespace Hw
open PySem PySem.Spec PyProof.Rows L2
section
variable {P : Program} {w : World} {K : PySem.W.Frag} {mg : Str → Option Value} {base : Heap}
/-- a def of the top, with its promise, of which an exception may come -/
structure CalleeX (P : Program) (w : World) (K : PySem.W.Frag) (mg : Str → Option Value) (base : Heap) (x : Str) (k : Nat) (ps : List Str) (sp : Sp) : Prop where
  ex : ∃ (f : Addr) (fd : FuncData), FnOk P w K mg base (L2.CX P w) k f fd ps sp ∧ mg x = some (.ref f) ∧ PySem.W.keepIn K (.ref f) = true ∧ Binds K fd ps [] ∧ ∃ oc od osl, K.lookup f = some ⟨oc, od, .func fd, osl⟩
theorem DefAt.okX {x : Str} {st : Stmt} {N ps : List Str} {k : Nat} {sp : Sp} (D : DefAt K mg x st ps) (S : FnScope N ps (defScope st)) (len : ∀ vs H Q E, sp vs H Q E → vs.length = ps.length)
    (hbody : ∀ (f : Addr) (cdv : Value) (A : Around) (outer : List Env) (s : Shared) (H : Hp) (vs : List V) (Q : VK) (E : XK), Room k (A.deeper (envOfC x (defScope st) s.heap.objs.size f cdv)) → sp vs H Q E →
      ∃ t, PSs (cxOf (L2.CX P w) P w K mg base N x (defScope st) f cdv A outer s H E) (defBody st) t ∧ t { nx := fun _ H' => Q .non H', rt := Q } (start N vs) H) : CalleeX P w K mg base x (k + 1) ps sp := by
  obtain ⟨f, fd, F, m, b⟩ := D.ex
  obtain ⟨oc, od, kV, doc, pm, an, cdv, ct, osl, e, lk, hcd⟩ := id F.ex
  exact ⟨f, fd, F.okX S len fun cdv A outer s H vs Q E hr h => hbody f cdv A outer s H vs Q E hr h, m, F.kp, b, oc, od, osl, lk⟩
theorem DefAt.noneX {x : Str} {st : Stmt} {ps : List Str} {k : Nat} {sp : Sp} (D : DefAt K mg x st ps) (no : ∀ vs H Q E, ¬ sp vs H Q E) : CalleeX P w K mg base x k ps sp := by
  obtain ⟨f, fd, F, m, b⟩ := D.ex
  obtain ⟨oc, od, kV, doc, pm, an, cdv, ct, osl, e, lk, hcd⟩ := id F.ex
  exact ⟨f, fd, ⟨fun vs H Q E h => absurd h (no vs H Q E), fun A outer s H args us vs Q E _ _ _ _ h => absurd h (no vs H Q E)⟩, m, F.kp, b, oc, od, osl, lk⟩
theorem CalleeX.mono {x : Str} {j k : Nat} {ps : List Str} {sp : Sp} (C : CalleeX P w K mg base x j ps sp) (h : j ≤ k) : CalleeX P w K mg base x k ps sp := by
  obtain ⟨f, fd, F, r⟩ := C.ex
  exact ⟨f, fd, F.mono h, r⟩
end
section
variable {X : Cx}
theorem pcallX {k : Nat} {ps : List Str} {sp : Sp} {x : Str} {p pos : Pos} {e : Expr} {es : List Expr} {t : TA} {W : WX} (C : CalleeX X.prog X.w X.K X.mg X.base x k ps sp) (tk : L2.Takes X W) (hr : Room k X.A) (hg : Gl X x) (ha : PA X (e :: es) t)
    (hd : (x == ("__debug__" : Str)) = false := by decide) (h1 : starEach (e :: es) X.env = (false, eval e X.env) :: starEach es X.env := by rfl)
    (h2 : ((backTo pos (starEach es X.env)).any fun x => x.1) = false := by rfl) : PE X (.Call (.Name x p) (e :: es) [] pos) (tCallS sp (WE W) t) := by
  obtain ⟨f, fd, F, m, kp, b, _⟩ := C.ex
  exact pe_callS F hr hg m kp b (passAt tk) ha hd h1 h2
end
/-- a class of exceptions that the program has of its own, without __init__ -/
structure ExcAt (K : PySem.W.Frag) (mg : Str → Option Value) (x : Str) (C : Addr) : Prop where
  g : mg x = some (.ref C)
  q : PySem.W.excIn K C [.type "ValueError", .type "Exception", .type "BaseException", .type "object"] "ValueError.__new__" = true
  k : PySem.W.keepIn K (.ref C) = true
  b : PySem.W.subIn K (.ref C) (.type "BaseException") = some true
  t : PySem.W.typeIn K (.ref C) = some (.type "type")
  ec : ExcC K C
  me : PySem.W.exmOne K (.ref C) (.ref C) = some true
  ve : PySem.W.kitOne K (.ref C) (.type "ValueError") = some true
theorem kit_ve {K : PySem.W.Frag} {C : Addr} (h : PySem.W.subIn K (.ref C) (.type "ValueError") = some true) : PySem.W.kitOne K (.ref C) (.type "ValueError") = some true := by
  unfold PySem.W.kitOne
  have e : (Value.ref C == Value.type "ValueError") = false := beq_eq_false_iff_ne.mpr (by intro z; cases z)
  rw [if_neg (by rw [e]; exact Bool.false_ne_true)]
  show (if PySem.W.kitMeta "ValueError" = true then PySem.W.subIn K (.ref C) (.type "ValueError") else none) = some true
  rw [if_pos (by decide +kernel)]
  exact h
theorem excAt_mk {K : PySem.W.Frag} {mg : Str → Option Value} {x : Str} {C : Addr} (g : mg x = some (.ref C)) (q : PySem.W.excIn K C [.type "ValueError", .type "Exception", .type "BaseException", .type "object"] "ValueError.__new__" = true) (k : PySem.W.keepIn K (.ref C) = true) (b : PySem.W.subIn K (.ref C) (.type "BaseException") = some true)
    (t : PySem.W.typeIn K (.ref C) = some (.type "type")) (hga : PySem.W.findIn K (.ref C) "__getattribute__" = some (some (.builtin "BaseException.__getattribute__"))) (hgt : PySem.W.findIn K (.ref C) "__getattr__" = some none) (hd : PySem.W.hasDictIn K C = true) (ha : PySem.W.findIn K (.ref C) "__class__" = some (some (.builtin "object.__class__")))
    (hn : PySem.W.specialIn K (.builtin "object.__class__") "__get__" = some (some (.builtin "getset_descriptor.__get__"))) (htk : PySem.W.takesIn K (.builtin "object.__class__") = some true) (hm : PySem.W.mroIn K C (.type "object") = some true) (s : PySem.W.subIn K (.ref C) (.ref C) = some true)
    (v : PySem.W.subIn K (.ref C) (.type "ValueError") = some true) : ExcAt K mg x C := ⟨g, q, k, b, t, ⟨hga, hgt, b, hd, ha, hn, htk, hm⟩, PySem.W.exm_ref b hd t s, kit_ve v⟩
section
variable {X : Cx} {K : PySem.W.Frag} {mg : Str → Option Value}
/-- raise X('m') -/
noncomputable def tRaise (C : Addr) (W : WX) : TS := fun _ σ H => W (.ref C) none σ H
theorem psRaise {C : Addr} {x m : Str} {j : Nat} {p p2 pos pos' : Pos} {W : WX} (E : ExcAt K mg x C) (tk : L2.Takes X W) (hg : Gl X x) (hc : X.calm = true := by rfl) (h : X.K = K := by rfl) (h2 : X.mg = mg := by rfl) (hdb : (x == ("__debug__" : Str)) = false := by decide) :
    PS X (.Raise (some (.Call (.Name x p) [.Constant (.str m) j p2] [] pos)) none pos') (tRaise C W) := by
  subst h h2
  exact ps_raise hc tk (pmk_own PySem.F.excBase_ValueError E.q E.g E.k (raises_own E.b E.t) hg hdb)
theorem r_raise {C : Addr} {W : WX} {D : Ends} {σ : L2.St} {H : Hp} (h : W (.ref C) none σ H) : tRaise C W D σ H := h
theorem r_callS {sp : Sp} {E : L2.St → XK} {t : TA} {σ : L2.St} {H : Hp} {Q : VK} (h : t σ H fun vs H1 => Ask sp vs H1 Q (E σ)) : tCallS sp E t σ H Q := by
  have e : ∀ vs : List V, vs ++ [] = vs := List.append_nil
  unfold tCallS
  unfold Ask at h
  simp only [e] at h
  exact h
end
end Hw
namespace Hw
open PySem PySem.Spec PyProof.Rows L2
theorem mul_one (l : Addr) (its : Array Value) (n : Nat) (dd : Option Addr) (sl : Array (Option Value)) (u : Tok) :
    Meets (Builtin.«tuple.__mul__» ⟨[.ref l, .int 1 u], []⟩) (fun _ R s => s.heap.get? l = some { cls := .type "tuple", dict := dd, data := .seq its n, slots := sl } ∧ R (.ok (.ret (.ref l))) s) :=
  .of_wp fun prog w A R s h => by
    obtain ⟨hp, g, d, tk, os⟩ := s
    obtain ⟨hl, h⟩ := h
    have f1 := AutoSeq1.idx_int
    wp_walk using wpAny_loadPart' hl
    repeat (first
      | (refine wpAny_ite_false (decide_eq_false (by decide)) ?_; wp_walk using wpAny_loadPart' hl)
      | (refine wpAny_ite_true (decide_eq_true (by simp)) ?_; wp_walk using wpAny_loadPart' hl))
    exact ⟨_, rfl, h⟩
theorem mul_none (l : Addr) (v : Value) (n : Nat) (dd : Option Addr) (sl : Array (Option Value)) (u : Tok) :
    Meets (Builtin.«tuple.__mul__» ⟨[.ref l, .int 0 u], []⟩) (fun _ R s => s.heap.get? l = some { cls := .type "tuple", dict := dd, data := .seq #[v] n, slots := sl } ∧
      R (.ok (.ret (Value.ref s.heap.objs.size))) { s with heap := s.heap.push { cls := Value.type "tuple", data := Data.seq #[] }, toks := s.toks }) :=
  .of_wp fun prog w A R s h => by
    obtain ⟨hp, g, d, tk, os⟩ := s
    obtain ⟨hl, h⟩ := h
    have f1 := AutoSeq1.idx_int
    wp_walk using wpAny_loadPart' hl
    repeat (first
      | (refine wpAny_ite_false (decide_eq_false (by decide)) ?_; wp_walk using wpAny_loadPart' hl)
      | (refine wpAny_ite_true (decide_eq_true (by simp)) ?_; wp_walk using wpAny_loadPart' hl))
    exact ⟨_, rfl, h⟩
noncomputable def rRepS (K : PySem.W.Frag) : R2 := fun x y H Q => ∃ (l : Addr) (n : Nat) (v : V), x = .ref l ∧ y = .int (n : Int) ∧ SqT K H l [v] ∧ n ≤ 1000 ∧ ∀ p H', Keep [] H H' → SqT K H' p (List.replicate n v) → Q (.ref p) H'
section
variable {X : Cx} {K : PySem.W.Frag}
theorem op_repS : OpR X (binaryOp .Mult) (rRepS X.K) := by
  intro pins s σ H x y a b Q I rx ry h
  obtain ⟨l, n, v, rfl, rfl, hT, hn, q⟩ := h
  by_cases two : 2 ≤ n
  · refine op_repT pins s σ H _ _ a b Q I rx ry ⟨l, n, [v], rfl, rfl, hT, by simp, by omega, by omega, by simp, fun p hp => ?_⟩
    rw [Int.toNat_natCast]
    have e : (List.replicate n [v]).flatten = List.replicate n v := by
      clear two hn q ry
      induction n with
      | zero => rfl
      | succ n ih => rw [List.replicate_succ, List.flatten_cons, ih, List.replicate_succ]; rfl
    rw [e]
    exact q p _ (Keep.new hp) (SqT.of upd_same)
  cases rx
  obtain ⟨t, rfl⟩ := ry
  obtain ⟨its, r, ⟨⟨cls, dd, data, sl⟩, ho, hc, m, hd⟩, _⟩ := I.tuple hT
  simp only at hc hd
  subst hc hd
  have go : ∀ {k : Int} {Q' E : Value → Shared → Prop}, wpAny (model X.prog X.w) X.A.in1 (call (.builtin "tuple.__mul__") [.ref l, .int k t]) Q' E s → True := fun _ => trivial
  obtain rfl | rfl : n = 1 ∨ n = 0 := by omega
  · refine wpAny_binaryOp_repeat_ref (T := "tuple") (U := "int") (by decide) ⟨_, ho, rfl⟩ (fun s' => typeIs_int s' _ t) noFill_tuple_mul F.fills_int_mul F.slot_int_rmul repeat_tuple
      F.slot_int_index.lookup (call_meets F.slot_int_rmul (typeIs_int s _ t) F.entry_int_rmul (F.args_int_rmul_2 _ _) (int_rmul_tuple _ t l its.toArray m dd sl) ⟨ho, rfl, ⟨_, ho, rfl⟩, call_meets F.slot_tuple_mul ⟨_, ho, rfl⟩
      F.entry_tuple_mul (F.args_tuple_mul_2 _ _) (mul_one l its.toArray m dd sl t) ⟨ho, ?_⟩⟩)
    exact ⟨.ref l, H, I, rfl, q l H Keep.refl hT⟩
  · obtain ⟨v', rfl⟩ : ∃ v', its = [v'] := by
      cases r with
      | cons _ r' => cases r'; exact ⟨_, rfl⟩
    refine wpAny_binaryOp_repeat_ref (T := "tuple") (U := "int") (by decide) ⟨_, ho, rfl⟩ (fun s' => typeIs_int s' _ t) noFill_tuple_mul F.fills_int_mul F.slot_int_rmul repeat_tuple
      F.slot_int_index.lookup (call_meets F.slot_int_rmul (typeIs_int s _ t) F.entry_int_rmul (F.args_int_rmul_2 _ _) (int_rmul_tuple _ t l _ m dd sl) ⟨ho, rfl, ⟨_, ho, rfl⟩, call_meets F.slot_tuple_mul ⟨_, ho, rfl⟩
      F.entry_tuple_mul (F.args_tuple_mul_2 _ _) (mul_none l v' m dd sl t) ⟨ho, ?_⟩⟩)
    have nl : H s.heap.objs.size = none := I.hok.fresh (Nat.le_refl _)
    refine ⟨.ref s.heap.objs.size, _, I.laid (t' := s.toks) (o := .tup []) (fun b ob q => Heap.get?_push_of_some _ q) (Nat.le_refl _) ⟨by decide, [], .nil, IsTup.new _ _⟩, rfl, q _ _ (Keep.new nl) (SqT.of upd_same)⟩
theorem r_repS {l : Addr} {n : Nat} {v : V} {H : Hp} {Q : VK} (h : SqT K H l [v]) (z : n ≤ 1000) (q : ∀ p H', Keep [] H H' → SqT K H' p (List.replicate n v) → Q (.ref p) H') : rRepS K (.ref l) (.int (n : Int)) H Q := ⟨l, n, v, rfl, rfl, h, z, q⟩
end
end Hw
namespace Hw
open PySem PySem.Spec PyProof.Rows L2
noncomputable def rRepG (K : PySem.W.Frag) : R2 := fun x y H Q => rRepS K x y H Q ∨ ∃ (l : Addr) (n : Nat) (xs : List V), x = .ref l ∧ y = .int (n : Int) ∧ SqT K H l xs ∧ 1 ≤ xs.length ∧ 2 ≤ n ∧ n ≤ 1000 ∧ xs.length ≤ 1000 ∧ ∀ p H', Keep [] H H' → SqT K H' p (List.replicate n xs).flatten → Q (.ref p) H'
section
variable {X : Cx} {K : PySem.W.Frag}
theorem op_repG : OpR X (binaryOp .Mult) (rRepG X.K) := by
  intro pins s σ H x y a b Q I rx ry h
  rcases h with h | ⟨l, n, xs, rfl, rfl, hT, l1, two, n1, ln, q⟩
  · exact op_repS pins s σ H x y a b Q I rx ry h
  · refine op_repT pins s σ H _ _ a b Q I rx ry ⟨l, n, xs, rfl, rfl, hT, (fun z => by rw [z] at l1; cases l1), by omega, by omega, ln, fun p hp => ?_⟩
    rw [Int.toNat_natCast]
    exact q p _ (Keep.new hp) (SqT.of upd_same)
theorem opRepG (h : X.K = K := by rfl) : OpR X (binaryOp .Mult) (rRepG K) := h ▸ op_repG
theorem r_repG1 {l : Addr} {n : Nat} {v : V} {H : Hp} {Q : VK} (h : SqT K H l [v]) (z : n ≤ 1000) (q : ∀ p H', Keep [] H H' → SqT K H' p (List.replicate n v) → Q (.ref p) H') : rRepG K (.ref l) (.int (n : Int)) H Q := .inl (r_repS h z q)
theorem r_repGn {l : Addr} {n : Nat} {xs : List V} {H : Hp} {Q : VK} (h : SqT K H l xs) (l1 : 1 ≤ xs.length) (two : 2 ≤ n) (n1 : n ≤ 1000) (ln : xs.length ≤ 1000) (q : ∀ p H', Keep [] H H' → SqT K H' p (List.replicate n xs).flatten → Q (.ref p) H') : rRepG K (.ref l) (.int (n : Int)) H Q := .inr ⟨l, n, xs, rfl, rfl, h, l1, two, n1, ln, q⟩
end
end Hw
namespace Hw
open PySem PySem.Spec PyProof.Rows L2
section
variable {X : Cx} {K : PySem.W.Frag}
noncomputable def rIsE2 (K : PySem.W.Frag) (cls : Value) (d : Option Addr) (a : Addr) : List V → Hp → VK → Prop := fun xs H Q => ∃ (D : Addr) (c : V) (cv : Value) (b : Bool), cls = .ref D ∧ ExcC K D ∧ (d = none ∨ ∃ dd fs, d = some dd ∧ H dd = some (.xd fs)) ∧ xs = [.ref a, c] ∧ (∀ u, L2.RelV c u → u = cv) ∧ PySem.W.kitOne K (.ref D) cv = some b ∧ Q (.bl b) H
theorem call_isE2 {a : Addr} {oe : Obj} {cls : Value} {d : Option Addr} {pn : List (Addr × Obj)} (hz : Zc cls d oe) (hf : ∃ vs, oe.data = .fields vs) (hk : X.K = K := by rfl) : CallR (X.suite a ((a, oe) :: pn)) (.builtin "isinstance") (rIsE2 K cls d a) := by
  subst hk
  intro pins s σ H xs us Q I r h
  obtain ⟨D, c, cv, b, rfl, C, hd, rfl, hcv, e, q⟩ := h
  cases r with
  | @cons _ u0 _ ur r0 r1 =>
    cases r1 with
    | @cons _ u1 _ _ r2 r3 =>
      cases r3
      have e0 : u0 = Value.ref a := r0
      have e1 : u1 = cv := hcv _ r2
      subst e0 e1
      have hget := (I.pin (a, oe) (List.mem_append_left _ List.mem_cons_self)).1
      obtain ⟨vs, hv⟩ := hf
      have hcl : (PySem.W.clsIn X.K D).isSome = true := by
        have hd := C.hd
        unfold PySem.W.hasDictIn at hd
        cases e : PySem.W.clsIn X.K D with
        | some _ => rfl
        | none => rw [e] at hd; cases hd
      obtain ⟨od, J⟩ : ∃ od, PySem.W.InstAt s.heap a oe D od := by
        rcases hd with rfl | ⟨dd, fs, rfl, hx⟩
        · exact ⟨none, hget, hz.1, by unfold PySem.W.notCls; rw [hv] <;> rfl, by rw [hz.2]; trivial⟩
        · have hO : ObjOk X.prog X.w H s.heap dd (.xd fs) := I.hok dd _ hx
          obtain ⟨mA, hns, _⟩ := hO
          obtain ⟨o, ho, _⟩ := lookIn_ns hns
          exact ⟨some o, hget, hz.1, by unfold PySem.W.notCls; rw [hv] <;> rfl, by rw [hz.2]; exact ho⟩
      exact PySem.W.kia_one (PySem.W.kitx_exc hcl C.hg C.hk C.hs C.ha C.hn C.ht C.hm) I.kIn J e (fun z => by cases z) fun tk => ⟨.bl b, H, I.kept (t' := tk) fun _ _ z => z, rfl, q⟩
theorem r_isE2 {D a : Addr} {d : Option Addr} {n : String} {b : Bool} {H : Hp} {Q : VK} (C : ExcC K D) (hd : d = none ∨ ∃ dd fs, d = some dd ∧ H dd = some (.xd fs)) (e : PySem.W.kitOne K (.ref D) (.type n) = some b) (q : Q (.bl b) H) : rIsE2 K (.ref D) d a [.ref a, .ty n] H Q :=
  ⟨D, .ty n, .type n, b, rfl, C, hd, rfl, fun u r => by first | (cases r; rfl) | exact r, e, q⟩
theorem r_isER2 {D a E : Addr} {d : Option Addr} {b : Bool} {H : Hp} {Q : VK} (C : ExcC K D) (hd : d = none ∨ ∃ dd fs, d = some dd ∧ H dd = some (.xd fs)) (e : PySem.W.kitOne K (.ref D) (.ref E) = some b) (q : Q (.bl b) H) : rIsE2 K (.ref D) d a [.ref a, .ref E] H Q :=
  ⟨D, .ref E, .ref E, b, rfl, C, hd, rfl, fun u r => by first | (cases r; rfl) | exact r, e, q⟩
theorem was2 {c : Value} {i : Nat} {ts : Addr → Value → Option Addr → TS} {Wout : WX} {D : Ends} {cls : Value} {d : Option Addr} {σ : L2.St} {H : Hp} (e : PySem.W.exmOne K cls c = some true)
    (h : ∀ a, H a = none → ts a cls d { nx := fun σ' H' => D.nx (σ'.set i none) H', rt := D.rt, bk := fun σ' H' => D.bk (σ'.set i none) H', ct := fun σ' H' => D.ct (σ'.set i none) H' } (σ.set i (some (.ref a))) H) : wAs K c i ts Wout D cls d σ H :=
  ⟨true, e, fun _ => h, fun z => by cases z⟩
end
end Hw
namespace Hw
open PySem PySem.Spec PyProof.Rows L2
theorem vals_bools : ∀ {bs : List Bool} {us : List Value}, Vals (bs.map V.bl) us → us = bs.map Value.bool
  | [], us, r => by
    rw [List.map_nil] at r
    cases r
    rfl
  | b :: bs, us, r => by
    rw [List.map_cons] at r
    cases r with
    | cons r1 r2 =>
      cases r1
      rw [vals_bools r2] <;> rfl
noncomputable def rCntB (K : PySem.W.Frag) : V → List V → Hp → VK → Prop := fun x xs H Q => ∃ (p : Addr) (bs : List Bool) (k : Bool), x = .ref p ∧ xs = [.bl k] ∧ SqL K H p (bs.map V.bl) ∧ Q (.int (bs.count k : Nat)) H
theorem countP_bools {k : Bool} : ∀ {bs : List Bool}, (bs.map Value.bool).countP (isBoolOf k) = bs.count k
  | [] => rfl
  | b :: bs => by
    rw [List.map_cons, List.countP_cons, List.count_cons, countP_bools]
    rfl
section
variable {X : Cx} {K : PySem.W.Frag}
theorem mt_bcount : MtR X "list.count" (rCntB X.K) := by
  intro pins s σ H x xs v us Q I rx rxs h
  obtain ⟨p, bs, k, rfl, rfl, hs, q⟩ := h
  cases rx
  obtain ⟨u, rfl, ru⟩ := rxs.one
  cases ru
  obtain ⟨its, rv, ⟨⟨cls, dd, data, sl⟩, n, ho, hc, hdn, hd⟩, hlen⟩ := I.list hs
  simp only at hc hd
  subst hc hd
  have hi := vals_bools rv
  subst hi
  refine call_meets PySem.F.slot_list_count ⟨_, ho, rfl⟩ PySem.F.entry_list_count (PySem.F.args_list_count_2 _ _)
    (SeqAt.list_countAt p (bs.map Value.bool).toArray n dd sl (.bool k) (isBoolOf k)) ⟨ho, fun y hy => ?_, ?_⟩
  · obtain ⟨b, _, rfl⟩ := List.mem_map.mp (show y ∈ bs.map Value.bool by simpa using hy)
    exact PySem.SeqAt.EqAt.bool_bool b k
  · refine ⟨.int (bs.count k : Nat), H, I.tok _, ⟨s.toks, ?_⟩, q⟩
    show Value.int ((((bs.map Value.bool).toArray.toList).countP (isBoolOf k) : Nat) : Int) s.toks = Value.int ((bs.count k : Nat) : Int) s.toks
    rw [show (bs.map Value.bool).toArray.toList = bs.map Value.bool from rfl, countP_bools]
theorem peCntB {o e : Expr} {to te : TE} {apos cpos : Pos} (ho : PE X o to) (he : PE X e te) (h : X.K = K := by rfl)
    (h1 : attributeBase o "count" X.env (eval o X.env) = eval o X.env := by rfl)
    (h2 : ((((backTo cpos (starEach (e :: []) X.env)).all fun x => !x.fst) && (backToKw cpos (keywordEach [] X.env)).all fun x => x.fst.isSome) && decide (((e :: []).length + ([] : List Keyword).length + if ([] : List Keyword).isEmpty = true then 0 else 1) < 30)) = true := by rfl)
    (h3 : (apos.endLine == cpos.line) = true := by rfl) (h4 : starEach (e :: []) X.env = (false, eval e X.env) :: starEach [] X.env := by rfl) (h5 : ((backTo cpos (starEach [] X.env)).any fun x => x.fst) = false := by rfl) :
    PE X (.Call (.Attribute o "count" apos) [e] [] cpos) (tBM K "list" (rCntB K) to (tCons te tNil)) := h ▸ pe_bm PySem.F.plainAttrs_list PySem.F.slot_list_count PySem.F.type_list_count mt_bcount ho (pa_cons he pa_nil h4) h1 h2 h3 h4 h5
/-- the place of the first that is so -/
theorem peIdxB {o e : Expr} {to te : TE} {apos cpos : Pos} (ho : PE X o to) (he : PE X e te) (h : X.K = K := by rfl)
    (h1 : attributeBase o "index" X.env (eval o X.env) = eval o X.env := by rfl)
    (h2 : ((((backTo cpos (starEach (e :: []) X.env)).all fun x => !x.fst) && (backToKw cpos (keywordEach [] X.env)).all fun x => x.fst.isSome) && decide (((e :: []).length + ([] : List Keyword).length + if ([] : List Keyword).isEmpty = true then 0 else 1) < 30)) = true := by rfl)
    (h3 : (apos.endLine == cpos.line) = true := by rfl) (h4 : starEach (e :: []) X.env = (false, eval e X.env) :: starEach [] X.env := by rfl) (h5 : ((backTo cpos (starEach [] X.env)).any fun x => x.fst) = false := by rfl) :
    PE X (.Call (.Attribute o "index" apos) [e] [] cpos) (tBM K "list" (rIndex K) to (tCons te tNil)) := h ▸ pe_bm PySem.F.plainAttrs_list PySem.F.slot_list_index PySem.F.type_list_index mt_index ho (pa_cons he pa_nil h4) h1 h2 h3 h4 h5
theorem r_cntB {p : Addr} {bs : List Bool} {k : Bool} {H : Hp} {Q : VK} (h : SqL K H p (bs.map V.bl)) (q : Q (.int (bs.count k : Nat)) H) : rCntB K (.ref p) [.bl k] H Q := ⟨p, bs, k, rfl, rfl, h, q⟩
end
end Hw
namespace Hw
open PySem PySem.Spec PyProof.Rows L2 LamX NdefX
noncomputable def Wo (M : List Addr) (H : Hp) : Hp := fun a => if a ∈ M then none else H a
noncomputable def Bk (M : List Addr) (G H : Hp) : Hp := fun a => if a ∈ M then G a else H a
/-- frozen at M -/
noncomputable def Ice (M : List Addr) (H : Hp) : Prop := ∀ a ∈ M, ∃ o, H a = some (.frz o (.own a))
section
variable {M : List Addr} {H H1 G : Hp} {a b : Addr} {o u : HO} {P : Program} {w : World} {h h' : Heap} {fs : List Addr}
theorem wo_in (z : a ∈ M) : Wo M H a = none := if_pos z
theorem wo_ne (z : a ∉ M) : Wo M H a = H a := if_neg z
theorem wo_none (z : H a = none) : Wo M H a = none := by
  unfold Wo
  split
  · rfl
  · exact z
theorem wo_some (z : Wo M H a = some o) : a ∉ M ∧ H a = some o := by
  by_cases h : a ∈ M
  · rw [wo_in h] at z; cases z
  · rw [wo_ne h] at z; exact ⟨h, z⟩
theorem bk_in (z : a ∈ M) : Bk M G H a = G a := if_pos z
theorem bk_ne (z : a ∉ M) : Bk M G H a = H a := if_neg z
theorem Ice.nin (i : Ice M H) (n : H a = none) : a ∉ M := fun z => by
  obtain ⟨o, e⟩ := i a z
  rw [n] at e; cases e
theorem Ice.ne (i : Ice M H) (e : H a = some u) (n : ∀ o v, u ≠ .frz o v) : a ∉ M := fun z => by
  obtain ⟨o, q⟩ := i a z
  rw [e] at q
  exact n _ _ (Option.some.inj q)
theorem Ice.keep (i : Ice M H) (k : Keep [] H H1) : Ice M H1 := fun a ha => by
  obtain ⟨o, e⟩ := i a ha
  exact ⟨o, k a _ e (by simp)⟩
theorem wo_keep (k : Keep [] H H1) : Keep [] (Wo M H) (Wo M H1) := fun a o e _ => by
  obtain ⟨n, e⟩ := wo_some e
  rw [wo_ne n]
  exact k a o e (by simp)
theorem bk_keep (k : Keep [] (Wo M H) H1) : Keep [] H (Bk M H H1) := fun a o e _ => by
  by_cases z : a ∈ M
  · rw [bk_in z]; exact e
  · rw [bk_ne z]
    exact k a o (by rw [wo_ne z]; exact e) (by simp)
theorem hok_wo (x : HOk P w H h) (i : Ice M H) : HOk P w (Wo M H) h := fun a o e => by
  obtain ⟨hn, e⟩ := wo_some e
  exact (x a o e).stay (fun _ _ _ q => q) (fun b q => by rw [wo_ne (i.ne q fun _ _ z => nomatch z)]; exact q) fun b xs q => by rw [wo_ne (i.ne q fun _ _ z => nomatch z)]; exact q
theorem hok_bk (x : HOk P w H h) (i : Ice M H) (kp : ∀ a ∈ M, ∀ o, h.get? a = some o → h'.get? a = some o) (fr : ∀ a ∈ M, H1 a = none) (y : HOk P w H1 h') : HOk P w (Bk M H H1) h' := fun a o e => by
  by_cases ha : a ∈ M
  · rw [bk_in ha] at e
    obtain ⟨ob, eo⟩ := i a ha
    rw [eo] at e
    cases e
    obtain ⟨g, _⟩ := x a _ eo
    exact ⟨kp a ha _ g, ⟨ob, kp a ha _ g⟩⟩
  · rw [bk_ne ha] at e
    exact (y a o e).stay (fun _ _ _ q => q) (fun b q => by rw [bk_ne fun z => by rw [fr b z] at q; cases q]; exact q) fun b xs q => by rw [bk_ne fun z => by rw [fr b z] at q; cases q]; exact q
theorem un_bk (i : Ice M H) (un : Un fs [] (Wo M H) H1 h h') : Un fs [] H (Bk M H H1) h h' where
  keep := fun b o e n hb hx => un.keep b o e (wo_none n) hb hx
  slot := fun b o e n hb hx => un.slot b o e (wo_none n) hb hx
  free := fun b o e n hx => by rw [bk_ne (i.nin n)]; exact un.free b o e (wo_none n) hx
  there := un.there
  tups := fun b xs e => by
    have hb := i.ne e fun _ _ z => nomatch z
    rw [bk_ne hb]
    exact un.tups b xs (by rw [wo_ne hb]; exact e)
  frzs := fun b o u e => by
    by_cases hb : b ∈ M
    · rw [bk_in hb]; exact e
    · rw [bk_ne hb]
      exact un.frzs b o u (by rw [wo_ne hb]; exact e)
  tbls := fun b ps e => by
    have hb := i.ne e fun _ _ z => nomatch z
    rw [bk_ne hb]
    exact un.tbls b ps (by rw [wo_ne hb]; exact e)
end
section
variable {P : Program} {w : World} {K : PySem.W.Frag} {mg : Str → Option Value} {base : Heap} {A : Around} {outer : List Env} {s s' : Shared} {H : Hp} {M : List Addr} {Q : VK} {E : XK} {u : Value}
theorem env0_wo (e : Env0 P w K mg base A outer s H) (i : Ice M H) : Env0 P w K mg base A outer s (Wo M H) :=
  ⟨e.frames, e.mod, fun b o q => ⟨(e.bs b o q).1, wo_none (e.bs b o q).2⟩, e.bsz, e.funs, fun b hb => wo_none (e.frf b hb), hok_wo e.hok i, e.bare⟩
theorem ice_get (e : Env0 P w K mg base A outer s H) (i : Ice M H) {a : Addr} (ha : a ∈ M) : (∃ o, s.heap.get? a = some o) ∧ a ∉ frs outer := by
  obtain ⟨o, eo⟩ := i a ha
  obtain ⟨g, _⟩ := e.hok a _ eo
  exact ⟨⟨o, g⟩, fun z => by rw [e.frf a z] at eo; cases eo⟩
theorem ce_bk (e0 : Env0 P w K mg base A outer s H) (i : Ice M H) (c : CE outer P w (Wo M H) s (fun v H1 => Q v (Bk M H H1)) u s') : CE outer P w H s Q u s' := by
  obtain ⟨v, H1, os, bare, un, hok, r, q⟩ := c
  refine ⟨v, Bk M H H1, os, bare, un_bk i un, hok_bk e0.hok i (fun a ha o e => un.keep a o e (wo_in ha) (ice_get e0 i ha).2 (by simp)) (fun a ha => ?_) hok, r, q⟩
  obtain ⟨⟨o, e⟩, _⟩ := ice_get e0 i ha
  exact un.free a o e (wo_in ha) (by simp)
theorem cx_bk (e0 : Env0 P w K mg base A outer s H) (i : Ice M H) (c : L2.CX P w outer (Wo M H) s (fun cls d H1 => E cls d (Bk M H H1)) u s') : L2.CX P w outer H s E u s' := by
  obtain ⟨a, B, H1, cls, d, rfl, fl, hok, ub, na, os, ag, hE⟩ := c
  have kp : ∀ b ∈ M, ∀ o, s.heap.get? b = some o → B.get? b = some o := fun b hb o e => ub.keep b o e (wo_in hb) (ice_get e0 i hb).2
  have fr : ∀ b ∈ M, H1 b = none := fun b hb => by
    obtain ⟨⟨o, e⟩, _⟩ := ice_get e0 i hb
    exact ub.free b o e (wo_in hb)
  have aM : a ∉ M := fun z => by
    obtain ⟨⟨o, e⟩, _⟩ := ice_get e0 i z
    have q := kp a z o e
    rw [fl.2.1] at q; cases q
  refine ⟨a, B, Bk M H H1, cls, d, rfl, fl, hok_bk e0.hok i kp fr hok, ⟨fun b o e n hb => ub.keep b o e (wo_none n) hb, ub.slot, fun b o e n => by rw [bk_ne (i.nin n)]; exact ub.free b o e (wo_none n), ub.there, fun b xs e => ?_, fun b o v e => ?_, fun b ps e => ?_⟩, by rw [bk_ne aM]; exact na, os, ag, hE⟩
  · have hb := i.ne e fun _ _ z => nomatch z
    rw [bk_ne hb]
    exact ub.tups b xs (by rw [wo_ne hb]; exact e)
  · by_cases hb : b ∈ M
    · rw [bk_in hb]; exact e
    · rw [bk_ne hb]
      exact ub.frzs b o v (by rw [wo_ne hb]; exact e)
  · have hb := i.ne e fun _ _ z => nomatch z
    rw [bk_ne hb]
    exact ub.tbls b ps (by rw [wo_ne hb]; exact e)
end
noncomputable def Fz (M : List Addr) (g : Addr → Obj) (H : Hp) : Hp := fun a => if a ∈ M then some (.frz (g a) (.own a)) else H a
section
variable {M : List Addr} {g : Addr → Obj} {H : Hp} {a : Addr} {o : HO} {P : Program} {w : World} {h : Heap}
theorem fz_in (z : a ∈ M) : Fz M g H a = some (.frz (g a) (.own a)) := if_pos z
theorem fz_ne (z : a ∉ M) : Fz M g H a = H a := if_neg z
theorem fz_keep (n : ∀ a ∈ M, H a = none) : Keep [] H (Fz M g H) := fun a o e _ => by
  rw [fz_ne fun z => by rw [n a z] at e; cases e]
  exact e
theorem wo_fz (n : ∀ a ∈ M, H a = none) : Wo M (Fz M g H) = H := by
  funext a
  by_cases z : a ∈ M
  · rw [wo_in z, n a z]
  · rw [wo_ne z, fz_ne z]
theorem hok_fz (x : HOk P w H h) (n : ∀ a ∈ M, H a = none) (k : ∀ a ∈ M, h.get? a = some (g a)) : HOk P w (Fz M g H) h := fun a o e => by
  by_cases z : a ∈ M
  · rw [fz_in z] at e
    cases e
    exact ⟨k a z, ⟨_, k a z⟩⟩
  · rw [fz_ne z] at e
    exact (x a o e).stay (fun _ _ _ q => q) (fun b q => fz_keep n b _ q (by simp)) fun b xs q => fz_keep n b _ q (by simp)
end
section
variable {X : Cx} {pins : List (Addr × Obj)} {σ : L2.St} {H : Hp} {s s' : Shared} {M : List Addr} {g : Addr → Obj} {Q : VK} {u : Value}
/-- the frame's own cells, and what else is new and not tracked -/
structure Mine (X : Cx) (H : Hp) (s : Shared) (M : List Addr) (g : Addr → Obj) : Prop where
  get : ∀ a ∈ M, s.heap.get? a = some (g a)
  free : ∀ a ∈ M, H a = none
  new : ∀ a ∈ M, X.s_0.heap.objs.size ≤ a
  loc : ∀ a ∈ M, a ≠ X.env.locals
theorem Mine.nofr (m : Mine X H s M g) (I : Inv X pins σ H s) : ∀ a ∈ M, a ∉ frs X.stack := fun a ha z => by
  rcases List.mem_cons.mp (I.stkSub a z) with e | e
  · exact m.loc a ha e
  · obtain ⟨_, o, ho, _⟩ := I.ok.funs.mem e
    exact absurd (Nat.lt_of_lt_of_le (Heap.lt_size ho) (m.new a ha)) (Nat.lt_irrefl _)
theorem env0_fz (I : Inv X pins σ H s) (m : Mine X H s M g) : Env0 X.prog X.w X.K X.mg X.base X.A X.stack s (Fz M g H) := by
  have e := I.env0
  refine ⟨e.frames, e.mod, fun b o q => ⟨(e.bs b o q).1, ?_⟩, e.bsz, e.funs, fun b hb => ?_, hok_fz e.hok m.free m.get, e.bare⟩
  · rw [fz_ne fun z => absurd (Nat.lt_of_lt_of_le (Nat.lt_of_lt_of_le (Heap.lt_size q) I.ok.bsz) (m.new b z)) (Nat.lt_irrefl _)]
    exact (e.bs b o q).2
  · rw [fz_ne fun z => m.nofr I b z hb]
    exact e.frf b hb
theorem ce_fz (I : Inv X pins σ H s) (m : Mine X H s M g) (c : CE X.stack X.prog X.w (Fz M g H) s (fun v H1 => Q v (Wo M H1)) u s') : CE X.stack X.prog X.w H s Q u s' := by
  obtain ⟨v, H1, os, bare, un, hok, r, q⟩ := c
  have fz1 : ∀ b ∈ M, H1 b = some (.frz (g b) (.own b)) := fun b hb => un.frzs b _ _ (fz_in hb)
  have ice : Ice M H1 := fun b hb => ⟨_, fz1 b hb⟩
  have nM : ∀ b o, H b = some o → b ∉ M := fun b o e z => by rw [m.free b z] at e; cases e
  refine ⟨v, Wo M H1, os, bare, ⟨fun b o e n hb hx => ?_, fun b o e n hb hx => ?_, fun b o e n hx => ?_, un.there, fun b xs e => ?_, fun b o v e => ?_, fun b ps e => ?_⟩, hok_wo hok ice, r, q⟩
  · by_cases hm : b ∈ M
    · obtain ⟨k, _⟩ := hok b _ (fz1 b hm)
      have z := m.get b hm
      rw [e] at z
      cases z
      exact k
    · exact un.keep b o e (by rw [fz_ne hm]; exact n) hb hx
  · have hm : b ∉ M := fun z => m.nofr I b z hb
    exact un.slot b o e (by rw [fz_ne hm]; exact n) hb hx
  · by_cases hm : b ∈ M
    · exact wo_in hm
    · exact wo_none (un.free b o e (by rw [fz_ne hm]; exact n) hx)
  · have hm := nM b _ e
    rw [wo_ne hm]
    exact un.tups b xs (by rw [fz_ne hm]; exact e)
  · have hm := nM b _ e
    rw [wo_ne hm]
    exact un.frzs b o v (by rw [fz_ne hm]; exact e)
  · have hm := nM b _ e
    rw [wo_ne hm]
    exact un.tbls b ps (by rw [fz_ne hm]; exact e)
end
noncomputable def LamV (q : Str) (params : Arguments) (body : Expr) (scope : Scope) (cl : List (Str × Addr)) (f : Addr) (H : Hp) : Prop :=
  ∃ (pm ctv : Value) (c' : Addr), H f = some (.frz (PySem.W.kla_obj "<lambda>" q params body scope cl pm c' ctv) (.own f)) ∧ H c' = some (CodeO c' q)
theorem LamV.ext {q : Str} {params : Arguments} {body : Expr} {scope : Scope} {cl : List (Str × Addr)} {f : Addr} {H H1 : Hp} (v : LamV q params body scope cl f H) (e : ExtN H H1) : LamV q params body scope cl f H1 := by
  obtain ⟨pm, ctv, c', h1, h2⟩ := v
  exact ⟨pm, ctv, c', e _ _ h1 (fun _ z => nomatch z), e _ _ h2 codeO_ne⟩
theorem LamV.keep {q : Str} {params : Arguments} {body : Expr} {scope : Scope} {cl : List (Str × Addr)} {f : Addr} {H H1 : Hp} (v : LamV q params body scope cl f H) (e : Keep [] H H1) : LamV q params body scope cl f H1 := by
  obtain ⟨pm, ctv, c', h1, h2⟩ := v
  exact ⟨pm, ctv, c', e _ _ h1 (by simp), e _ _ h2 (by simp)⟩
section
variable {X : Cx} {pins : List (Addr × Obj)} {σ : L2.St} {H : Hp} {s : Shared}
/-- the lambda is made, and tracked -/
theorem lam_make3 {T : List (Addr × Str)} {c P : Addr} {params : Arguments} {body : Expr} {scope : Scope} {pos : Pos} {E : Value → Shared → Prop} {Q : Value → Shared → Prop} (I : Inv X pins σ H s) (TB : TabB X.base X.mg c P) (hcode : X.env.code = .ref c)
    (hm : (P, X.env.qual ++ "<lambda>") ∈ T) (hu : ∀ p ∈ T, p.1 = P → p.2 = X.env.qual ++ "<lambda>") (hT : Tabs T H) (hdef : defaultsOf params X.env = ([], [])) (hfree : ∀ y ∈ scope.names, y.2 = .free → ∃ c, X.env.cells.lookup y.1 = some c)
    (h : ∀ (f : Addr) (H1 : Hp) (s' : Shared), Inv X pins σ H1 s' → ExtN H H1 → Tabs T H1 → H f = none → (∀ b, H1 b = none → H b = none) → LamV (X.env.qual ++ "<lambda>") params body scope (cloFrom X.env.cells scope.names []) f H1 → Q (.ref f) s') :
    wpAny (model X.prog X.w) X.A (eval (.Lambda params body scope pos) X.env) Q E s := by
  obtain ⟨ps, hP, ht, ha⟩ := hT _ hm
  refine PySem.W.kla_eval hdef ?_
  have bP : s.heap.BuiltinsAt X.mg P := TB.bm.keeps I.bk
  have hP' : s.heap.get? P = some { cls := .none, data := .fields ps } := I.hok P _ hP
  have fin : ∀ (h' : Heap) (H1 : Hp) (c' : Addr) (ctv : Value) (tk tk' : Tok), Inv X pins σ H1 { s with heap := h', toks := tk } → ExtN H H1 → Tabs T H1 → (∀ b, H1 b = none → H b = none) → H1 c' = some (CodeO c' (X.env.qual ++ "<lambda>")) → Q (.ref h'.objs.size) { s with heap := h'.push (PySem.W.kla_obj "<lambda>" (X.env.qual ++ "<lambda>") params body scope (cloFrom X.env.cells scope.names []) ((X.mg "__name__").getD .none) c' ctv), toks := tk' } := fun h' H1 c' ctv tk tk' I1 eN T1 nn hc => by
    have nF : H1 h'.objs.size = none := I1.hok.fresh (Nat.le_refl _)
    have e : (h'.push (PySem.W.kla_obj "<lambda>" (X.env.qual ++ "<lambda>") params body scope (cloFrom X.env.cells scope.names []) ((X.mg "__name__").getD .none) c' ctv)).get? h'.objs.size = some (PySem.W.kla_obj "<lambda>" (X.env.qual ++ "<lambda>") params body scope (cloFrom X.env.cells scope.names []) ((X.mg "__name__").getD .none) c' ctv) := Heap.get?_push_size _ rfl
    have I2 := I1.laid (a := h'.objs.size) (o := .frz (PySem.W.kla_obj "<lambda>" (X.env.qual ++ "<lambda>") params body scope (cloFrom X.env.cells scope.names []) ((X.mg "__name__").getD .none) c' ctv) (.own h'.objs.size)) (t' := tk') (fun b u e => Heap.get?_push_of_some _ e) (Nat.le_refl _) ⟨e, ⟨_, e⟩⟩
    refine h h'.objs.size _ _ I2 (fun b o eo n => ?_) (T1.ext fun b o eo => ?_) (nn _ nF) (fun b eb => nn b (upd_none eb)) ⟨_, _, c', upd_same, (upd_ne (ne_of_none hc nF)).trans hc⟩
    · have e1 := eN b o eo n
      exact (upd_ne (ne_of_none e1 nF)).trans e1
    · exact (upd_ne (ne_of_none eo nF)).trans eo
  cases hc : codeAmong pos ps.toList with
  | none =>
    refine PySem.W.kla_makeFunction (mg := X.mg) (c := c) (P := P) (ps := ps) (closure_ok hfree) I.ok.glob (I.mod.glob.keeps I.bk) hcode (TB.code.keeps I.bk) hP' ht hc TB.gP bP fun c' ctv h' tk hx hge hlt hrec htb => ?_
    obtain ⟨c2, oc, vs, t, e2, hoc, hd, hv⟩ := hrec
    cases e2
    have nC : H c' = none := I.hok.fresh hge
    have I1 := inv_table (t' := tk) (more := #[rawInt pos.line, rawInt pos.col, .ref c']) (h' := h') I hP (fun b o hb e => hx b o hb e) htb hge ⟨oc, vs, t, hoc, hd, hv⟩
    have hE : ExtN H (upd (upd H P (.tbl (ps ++ #[rawInt pos.line, rawInt pos.col, .ref c']))) c' (CodeO c' (X.env.qual ++ "<lambda>"))) := fun b o e n => by
      rw [upd_ne (ne_of_none e nC), upd_ne (fun z => n ps (Option.some.inj (e.symm.trans (by rw [z]; exact hP))))]
      exact e
    have eL : (ps ++ #[rawInt pos.line, rawInt pos.col, .ref c']).toList = ps.toList ++ [rawInt pos.line, rawInt pos.col, .ref c'] := by simp
    refine fin h' _ c' ctv tk tk I1 hE (fun p hp => ?_) (fun b e => upd_none (upd_none e)) upd_same
    by_cases hb : p.1 = P
    · rw [hu p hp hb, hb]
      refine ⟨_, by rw [upd_ne (ne_of_none hP nC), upd_same], by rw [eL]; exact PySem.TriplesOk_snoc _ _ _ _ ht, fun p' cv hcv => ?_⟩
      rw [eL] at hcv
      rcases among_app _ ht hcv with z | z
      · obtain ⟨c0, e1, e2⟩ := ha p' cv z
        exact ⟨c0, e1, hE _ _ e2 codeO_ne⟩
      · exact ⟨c', z, upd_same⟩
    · obtain ⟨ps', a1, a2, a3⟩ := hT p hp
      refine ⟨ps', by rw [upd_ne (ne_of_none a1 nC), upd_ne hb]; exact a1, a2, fun p' cv hcv => ?_⟩
      obtain ⟨c0, e1, e2⟩ := a3 p' cv hcv
      exact ⟨c0, e1, hE _ _ e2 codeO_ne⟩
  | some cv =>
    obtain ⟨c', e, hco⟩ := ha pos cv hc
    subst e
    refine PySem.W.kla_makeFunctionHit (mg := X.mg) (c := c) (P := P) (ps := ps) (closure_ok hfree) I.ok.glob (I.mod.glob.keeps I.bk) hcode (TB.code.keeps I.bk) hP' ht hc bP fun ctv h' tk hx hsz => ?_
    exact fin h' H c' ctv s.toks tk (I.kept hx) (ExtN.refl H) hT (fun _ e => e) hco
end
end Hw
namespace Hw
open PySem PySem.Spec PyProof.Rows L2 LamX NdefX
theorem ndef_at {sc nsc : Scope} {fr : List Str} (h : ndefB sc nsc fr = true) : ndefB sc nsc fr = true := h
/-- the cells of the names fr -/
noncomputable def cellM (cl : List (Str × Addr)) (fr : List Str) : List Addr := fr.filterMap fun y => cl.lookup y
theorem cellM_mem {cl : List (Str × Addr)} {fr : List Str} {c : Addr} (h : c ∈ cellM cl fr) : ∃ y ∈ fr, cl.lookup y = some c := List.mem_filterMap.mp h
theorem mem_cellM {cl : List (Str × Addr)} {fr : List Str} {c : Addr} {y : Str} (h : y ∈ fr) (e : cl.lookup y = some c) : c ∈ cellM cl fr := List.mem_filterMap.mpr ⟨y, h, e⟩
/-- the cells, frozen; what they hold -/
structure IceC (cl : List (Str × Addr)) (fr : List Str) (ws : List (Option V)) (H : Hp) : Prop where
  len : ws.length = fr.length
  keys : ∀ y c, cl.lookup y = some c → y ∈ fr
  inj : ∀ x y c, cl.lookup x = some c → cl.lookup y = some c → x = y
  all : ∀ y c, cl.lookup y = some c → ∃ o w, H c = some (.frz o (.own c)) ∧ o.data = .cell w
  has : ∀ (i : Nat) (y : Str), fr[i]? = some y → ∃ c, cl.lookup y = some c ∧ ∀ v, ws[i]? = some (some v) → ∃ o u, H c = some (.frz o (.own c)) ∧ o.data = .cell (some u) ∧ RelV v u
section
variable {cl : List (Str × Addr)} {fr : List Str} {ws : List (Option V)} {H H1 : Hp} {P : Program} {w : World} {h : Heap}
theorem IceC.ice (C : IceC cl fr ws H) : Ice (cellM cl fr) H := fun a ha => by
  obtain ⟨y, _, e⟩ := cellM_mem ha
  obtain ⟨o, _, h, _⟩ := C.all y a e
  exact ⟨o, h⟩
theorem IceC.keep (C : IceC cl fr ws H) (k : Keep [] H H1) : IceC cl fr ws H1 := by
  refine ⟨C.len, C.keys, C.inj, fun y c e => ?_, fun i y e => ?_⟩
  · obtain ⟨o, w, h, d⟩ := C.all y c e
    exact ⟨o, w, k _ _ h (by simp), d⟩
  · obtain ⟨c, hc, q⟩ := C.has i y e
    refine ⟨c, hc, fun v ev => ?_⟩
    obtain ⟨o, u, h, d, r⟩ := q v ev
    exact ⟨o, u, k _ _ h (by simp), d, r⟩
/-- open again -/
theorem IceC.cells (C : IceC cl fr ws H) (x : HOk P w H h) : CellsAt cl fr ws h (Wo (cellM cl fr) H) := by
  refine ⟨C.len, fun y c e => ?_, C.inj, fun i y e => ?_⟩
  · obtain ⟨o, w, hf, d⟩ := C.all y c e
    obtain ⟨g, _⟩ := x c _ hf
    exact ⟨wo_in (mem_cellM (C.keys y c e) e), w, o, g, d⟩
  · obtain ⟨c, hc, q⟩ := C.has i y e
    refine ⟨c, hc, fun v ev => ?_⟩
    obtain ⟨o, u, hf, d, r⟩ := q v ev
    obtain ⟨g, _⟩ := x c _ hf
    exact ⟨u, r, o, g, d⟩
/-- shut -/
theorem ice_of {h : Heap} (C : CellsAt cl fr ws h H) (keys : ∀ y c, cl.lookup y = some c → y ∈ fr) {g : Addr → Obj} (hg : ∀ a ∈ cellM cl fr, h.get? a = some (g a)) : IceC cl fr ws (Fz (cellM cl fr) g H) := by
  refine ⟨C.len, keys, C.inj, fun y c e => ?_, fun i y e => ?_⟩
  · obtain ⟨_, v, o, ho, d⟩ := C.all y c e
    have m := mem_cellM (keys y c e) e
    have z := hg c m
    rw [ho] at z
    cases z
    exact ⟨_, v, fz_in m, d⟩
  · obtain ⟨c, hc, q⟩ := C.has i y e
    refine ⟨c, hc, fun v ev => ?_⟩
    obtain ⟨u, r, o, ho, d⟩ := q v ev
    have m := mem_cellM (List.mem_of_getElem? e) hc
    have z := hg c m
    rw [ho] at z
    cases z
    exact ⟨_, u, fz_in m, d, r⟩
end
/-- what a call of no arguments comes to: nothing raised, or the class C -/
noncomputable def LamT (o : Option Addr) (H : Hp) (Q : VK) (E : XK) : Prop := match o with
  | none => ∀ v H1, Keep [] H H1 → Q v H1
  | some C => ∀ H1, Keep [] H H1 → E (.ref C) none H1
theorem LamT.imp {o : Option Addr} {H H' : Hp} {Q Q' : VK} {E E' : XK} (t : LamT o H Q E) (hq : ∀ v H1, Keep [] H' H1 → ∃ H2, Keep [] H H2 ∧ (Q v H2 → Q' v H1) ∧ ∀ c d, E c d H2 → E' c d H1) : LamT o H' Q' E' := by
  cases o with
  | none =>
    intro v H1 k
    obtain ⟨H2, k2, q, _⟩ := hq v H1 k
    exact q (t v H2 k2)
  | some C =>
    intro H1 k
    obtain ⟨H2, k2, _, q⟩ := hq .non H1 k
    exact q _ _ (t H2 k2)
/-- the function at f, from H on -/
structure LamDo (P : Program) (w : World) (K : PySem.W.Frag) (mg : Str → Option Value) (base : Heap) (k : Nat) (f : Addr) (H : Hp) (o : Option Addr) : Prop where
  fn : ∃ fd : FuncData, H f = some (.frz ({ cls := .type "function", data := .func fd } : Obj) (.own f))
  run : ∀ (A : Around) (outer : List Env) (s : Shared) (H1 : Hp) (Q : VK) (E : XK), Room k A → Env0 P w K mg base A outer s H1 → Keep [] H H1 → LamT o H1 Q E → codeAny (model P w) A (.call (.ref f) ⟨[], []⟩) (CR (L2.CX P w) outer P w H1 s Q E) s
section
variable {P : Program} {w : World} {K : PySem.W.Frag} {mg : Str → Option Value} {base : Heap} {k : Nat} {f : Addr} {H H1 : Hp} {o : Option Addr}
theorem LamDo.keep (L : LamDo P w K mg base k f H o) (e : Keep [] H H1) : LamDo P w K mg base k f H1 o := by
  obtain ⟨fd, h⟩ := L.fn
  exact ⟨⟨fd, e _ _ h (by simp)⟩, fun A outer s H2 Q E hr e0 k2 t => L.run A outer s H2 Q E hr e0 (e.trans k2) t⟩
theorem startF_nil {fr : List Str} {ws : List (Option V)} (h : ws.length = fr.length) : startF fr [] ws = ws := by
  unfold startF
  rw [List.map_nil, List.nil_append, h]
  simp
/-- THE RULE: a lambda by its body -/
theorem lam_do {q : Str} {params : Arguments} {body : Expr} {scope : Scope} {cl : List (Str × Addr)} {fr : List Str} {ws : List (Option V)} (S : NScope fr [] fr scope) (hbind : ∀ (pm cv ctv : Value), bindArgs (PySem.W.kla_fn "<lambda>" q params body scope cl pm cv ctv) ⟨[], []⟩ = pure [])
    (L : LamV q params body scope cl f H) (C : IceC cl fr ws H)
    (hb : ∀ (A : Around) (outer : List Env) (s : Shared) (H1 : Hp) (Q : VK) (E : XK) (c' : Addr), Room k (A.deeper (envF ⟨"<lambda>", q, params, [], scope, cl, c'⟩ f s.heap.objs.size)) → Keep [] (Wo (cellM cl fr) H) H1 → LamT o H1 Q E →
      ∃ t, PE (ncx (L2.CX P w) P w K mg base fr ⟨"<lambda>", q, params, [], scope, cl, c'⟩ f A outer s H1 E) body t ∧ t ws H1 Q) : LamDo P w K mg base (k + 1) f H o := by
  obtain ⟨pm, ctv, c', hf, hc⟩ := L
  refine ⟨⟨_, hf⟩, fun A outer s H1 Q E hr e0 kp ht => ?_⟩
  have C1 := C.keep kp
  have ice := C1.ice
  obtain ⟨hob, _⟩ := e0.hok f _ (kp _ _ hf (by simp))
  have hcd : s.heap.CodeRec (.ref c') q := codeO_at e0.hok (kp _ _ hc (by simp))
  have lim : s.heap.NoLimit := e0.mod.nolimit.keeps fun b o e => (e0.bs b o e).1
  have e1 := env0_wo e0 ice
  refine PySem.W.kla_callFunE hr.depth hob rfl S.co S.gen rfl hcd ?_
  rw [hbind]
  refine wpAny_pure (wpAny_newFunctionEnv S.nocell (fun y hy => absurd hy (by simp)) (fun h₁ hns hsb => ⟨lim.fresh _ hsb, ?_⟩) S.kind)
  show codeAny _ _ (.expr body (envF ⟨"<lambda>", q, params, [], scope, cl, c'⟩ f s.heap.objs.size)) _ _
  have kh : ∀ b o, s.heap.get? b = some o → h₁.get? b = some o := fun b o e => hsb.extBut b o (Nat.ne_of_lt (Heap.lt_size e)) (Heap.get?_push_of_some _ e)
  have J : Inv (ncx (L2.CX P w) P w K mg base fr ⟨"<lambda>", q, params, [], scope, cl, c'⟩ f A outer s (Wo (cellM cl fr) H1) (fun cls d H2 => E cls d (Bk (cellM cl fr) H1 H2))) [] (startF fr [] ws) (Wo (cellM cl fr) H1) { s with heap := h₁, toks := s.toks + ([] : List (Str × Value)).length } :=
    inv_startN (F := ⟨"<lambda>", q, params, [], scope, cl, c'⟩) (us := []) S hr.hd e1 rfl .nil (C1.cells e0.hok) hns kh
  rw [startF_nil C.len] at J
  obtain ⟨t, hp, hq⟩ := hb A outer s (Wo (cellM cl fr) H1) (fun v H2 => Q v (Bk (cellM cl fr) H1 H2)) (fun cls d H2 => E cls d (Bk (cellM cl fr) H1 H2)) c' (hr.deeper _) (wo_keep kp) (ht.imp fun v H2 k2 => ⟨_, bk_keep k2, id, fun _ _ z => z⟩)
  refine PySem.W.kla_codeExpr (wpAny_mono (hp.run [] _ ws _ _ J hq) (fun v s' hs => ?_) fun e s' hs => ?_)
  · obtain ⟨x, H2, J', rv, q⟩ := hs
    exact ce_bk e0 ice ⟨x, H2, J'.os, J'.bare, J'.base, J'.hok, rv, q⟩
  · exact wpAny_mono hs (fun _ s'' z => cx_bk e0 ice z) fun e' s'' z => cx_bk e0 ice z
end
noncomputable def tGo (k : Nat) (i : Nat) (E : L2.St → XK) (P : Program) (w : World) (K : PySem.W.Frag) (mg : Str → Option Value) (base : Heap) : TE := fun σ H Q => ∃ f o, σ[i]? = some (some (.ref f)) ∧ LamDo P w K mg base k f H o ∧ LamT o H Q (E σ)
section
variable {X : Cx} {k i : Nat} {x : Str} {p pos : Pos} {W : WX}
theorem pe_go {P : Program} {w : World} {K : PySem.W.Frag} {mg : Str → Option Value} {base : Heap} (tk : L2.Takes X W) (hr : Room k X.A) (hN : X.N[i]? = some x) (hv : Vis X.env.scope x) (hd : (x == ("__debug__" : Str)) = false := by decide) (hcd : (x == ("__classdict__" : Str)) = false := by decide)
    (e1 : X.prog = P := by rfl) (e2 : X.w = w := by rfl) (e3 : X.K = K := by rfl) (e4 : X.mg = mg := by rfl) (e5 : X.base = base := by rfl) :
    PE X (.Call (.Name x p) [] [] pos) (tGo k i (WE W) P w K mg base) := by
  subst e1 e2 e3 e4 e5
  refine ⟨fun pins s σ H Q I h => ?_⟩
  obtain ⟨f, o, hs, L, t⟩ := h
  refine wpAny_Call_Name_kw (thn ((pe_var (pos := p) hN hv hd hcd).run pins s σ H (fun v H1 => v = .ref f ∧ H1 = H) I ⟨.ref f, hs, rfl, rfl⟩) fun u s1 ⟨v, H1, I1, r1, q1⟩ => ?_)
  obtain ⟨ev, eH⟩ := q1
  subst ev
  rw [eH] at I1
  obtain rfl : u = Value.ref f := r1
  obtain ⟨fd, hf⟩ := L.fn
  obtain ⟨ho, _⟩ := I1.hok f _ hf
  refine PySem.W.callWith_F0 (first := []) ⟨_, _, _, _, ho⟩ ?_
  show wpAny _ _ (call (.ref f) []) _ _ _
  refine wpAny_call (codeAny_mono (L.run X.A X.stack s1 H Q (WE W σ) hr I1.env0 Keep.refl t) fun r s' hq => ?_)
  cases r with
  | error e => exact passAt tk σ pins H s1 e s' I1 hq
  | ok fl =>
    cases fl with
    | ret u => exact I1.after hq
    | next => exact False.elim hq
    | brk => exact False.elim hq
    | cont => exact False.elim hq
end
/-- the running def's code object has a table that is tracked -/
structure LamCtx (X : Cx) (T : List (Addr × Str)) (q : Str) : Prop where
  qual : X.env.qual ++ "<lambda>" = q
  ex : ∃ c P, TabB X.base X.mg c P ∧ X.env.code = .ref c ∧ (P, q) ∈ T ∧ ∀ p ∈ T, p.1 = P → p.2 = q
noncomputable def tLamE (T : List (Addr × Str)) (q : Str) (params : Arguments) (body : Expr) (scope : Scope) (cells : List (Str × Addr)) : TE := fun _ H Q => Tabs T H ∧ ∀ f H1, ExtN H H1 → Tabs T H1 → H f = none → (∀ b, H1 b = none → H b = none) → LamV q params body scope (cloFrom cells scope.names []) f H1 → Q (.ref f) H1
section
variable {X : Cx} {T : List (Addr × Str)} {q : Str} {params : Arguments} {body : Expr} {scope : Scope} {lpos pos p : Pos}
theorem lam_free (ok : X.Ok) (S : ∀ y ∈ scope.names, y.2 = .free → X.env.scope.names.lookup y.1 = some .cell ∨ X.env.scope.names.lookup y.1 = some .free) : ∀ y ∈ scope.names, y.2 = .free → ∃ c, X.env.cells.lookup y.1 = some c := fun y hy e => (S y hy e).elim (fun z => ok.has _ (.inl z)) fun z => ok.has _ (.inr z)
theorem pe_lamE (C : LamCtx X T q) (S : ∀ y ∈ scope.names, y.2 = .free → X.env.scope.names.lookup y.1 = some .cell ∨ X.env.scope.names.lookup y.1 = some .free) (hdef : defaultsOf params X.env = ([], []) := by rfl) : PE X (.Lambda params body scope lpos) (tLamE T q params body scope X.env.cells) := by
  obtain ⟨rfl, c, P, TB, hc, hm, hu⟩ := C
  refine ⟨fun pins s σ H Q I h => ?_⟩
  exact lam_make3 I TB hc hm hu h.1 hdef (lam_free I.ok S) fun f H1 s' I1 eN T1 f0 nn L => ⟨.ref f, H1, I1, rfl, h.2 f H1 eN T1 f0 nn L⟩
/-- x(lambda: ..): a def that gets it; js: where the captured names stand among the running def's -/
noncomputable def tGive (T : List (Addr × Str)) (q : Str) (params : Arguments) (body : Expr) (scope : Scope) (cells : List (Str × Addr)) (fr : List Str) (js : List Nat) (sp : Sp) : TE := fun σ H Q => Tabs T H ∧ ∀ f H1 H2, ExtN H H1 → Tabs T H1 → H f = none → (∀ b, H1 b = none → H b = none) → Keep [] H1 H2 → Wo (cellM (cloFrom cells scope.names []) fr) H2 = H1 →
  LamV q params body scope (cloFrom cells scope.names []) f H2 → IceC (cloFrom cells scope.names []) fr (js.map (slotAt σ)) H2 → sp [.ref f] H2 (fun v H3 => Q v (Wo (cellM (cloFrom cells scope.names []) fr) H3)) E0
theorem pe_give {k : Nat} {ps : List Str} {sp : Sp} {x : Str} {fr : List Str} {js : List Nat} (F : Callee X.prog X.w X.K X.mg X.base x k ps sp) (hr : Room k X.A) (hg : Gl X x) (C : LamCtx X T q) (N : NScope fr [] fr scope) (S : ndefB X.env.scope scope fr = true) (hfn : ∀ y, X.fn y = true) (hjs : js.map (fun j => X.N[j]?) = fr.map some)
    (hdef : defaultsOf params X.env = ([], []) := by rfl) (hd : (x == ("__debug__" : Str)) = false := by decide) : PE X (.Call (.Name x p) [.Lambda params body scope lpos] [] pos) (tGive T q params body scope X.env.cells fr js sp) := by
  obtain ⟨fg, fd, F, mgx, kp, b, _⟩ := F.ex
  have Sf := ndef_free S
  obtain ⟨rfl, c, P, TB, hc, hm, hu⟩ := C
  refine ⟨fun pins s σ H Q I h => ?_⟩
  refine wpAny_Call_Name_kw (ld_glob I hg mgx ?_ hd)
  refine PySem.W.callWith_K (h₀ := X.base) I.ok.mod.kin kp ?_ (by rfl) (by rfl)
  show wpAny _ _ (spliced ((false, eval (.Lambda params body scope lpos) X.env) :: backTo pos (starEach [] X.env))) _ _ s
  refine Calls.spliced_cons (lam_make3 I TB hc hm hu h.1 hdef (lam_free I.ok Sf) fun f H1 s' I1 eN T1 f0 nn L => ?_)
  refine Calls.spliced_nil ⟨I1.kIn, ?_⟩
  have cp : Caps X (cloFrom X.env.cells scope.names []) fr js := Caps.made I.ok Sf (ndef_fr S) hjs
  have CA := cells_of I1 cp
  have keys : ∀ y c, (cloFrom X.env.cells scope.names []).lookup y = some c → y ∈ fr := fun y c e => by
    rcases cloFrom_mem (PySem.mem_of_lookup e) with hm | ⟨h1, _⟩
    · cases hm
    · exact N.free _ h1 rfl
  have hget : ∀ a ∈ cellM (cloFrom X.env.cells scope.names []) fr, s'.heap.get? a = some ((s'.heap.get? a).getD { cls := .none, data := .fields #[] }) := fun a ha => by
    obtain ⟨y, _, e⟩ := cellM_mem ha
    obtain ⟨_, v, o, ho, _⟩ := CA.all y a e
    rw [ho] <;> rfl
  have m : Mine X H1 s' (cellM (cloFrom X.env.cells scope.names []) fr) (fun a => (s'.heap.get? a).getD { cls := .none, data := .fields #[] }) := ⟨hget, fun a ha => by
      obtain ⟨y, _, e⟩ := cellM_mem ha
      exact (CA.all y a e).1, fun a ha => by
      obtain ⟨y, _, e⟩ := cellM_mem ha
      exact I1.ok.cab y a (hfn y) (cp.sub y a e), fun a ha => by
      obtain ⟨y, _, e⟩ := cellM_mem ha
      exact I1.cne y a (cp.sub y a e)⟩
  have hk := fz_keep (g := fun a => (s'.heap.get? a).getD { cls := .none, data := .fields #[] }) m.free
  have hsp := h.2 f H1 _ eN T1 f0 nn hk (wo_fz m.free) (L.keep hk) (ice_of CA keys hget)
  have hl : ([Value.ref f] : List Value).length = ps.length := F.len _ _ _ _ hsp
  have bb := b s' [.ref f] I1.kIn (by rw [List.append_nil]; exact hl)
  rw [List.append_nil] at bb
  refine wpAny_call (codeAny_mono (F.run X.A X.stack s' _ ⟨[.ref f], []⟩ [.ref f] [.ref f] _ E0 hr (env0_fz I1 m) bb (.cons rfl .nil) hsp) fun r s2 hq => ?_)
  cases r with
  | error e => exact (show False from hq).elim
  | ok fl =>
    cases fl with
    | ret u => exact I1.after (ce_fz I1 m hq)
    | next => exact False.elim hq
    | brk => exact False.elim hq
    | cont => exact False.elim hq
end
end Hw
namespace Hw
open PySem PySem.Spec PyProof.Rows L2 LamX NdefX
noncomputable abbrev EF := L2.St → V → Hp → Prop
noncomputable abbrev TF := EF → L2.St → Hp → Prop
noncomputable def FP (X : Cx) (pins : List (Addr × Obj)) (D : EF) (f : Flow) (s' : Shared) : Prop := match f with
  | .ret u => ∃ v σ' H', Inv X pins σ' H' s' ∧ RelV v u ∧ D σ' v H'
  | _ => False
structure PSF (X : Cx) (st : List Stmt) (t : TF) : Prop where
  run : ∀ (pins : List (Addr × Obj)) (s : Shared) (σ : L2.St) (H : Hp) (D : EF), Inv X pins σ H s → t D σ H → wpAny (model X.prog X.w) X.A (execs st X.env) (FP X pins D) X.xe s
noncomputable def tSeqF (t : TS) (u : TF) : TF := fun D σ H => t { nx := fun σ' H' => u D σ' H', rt := fun _ _ => False } σ H
noncomputable def tRetF (te : TE) : TF := fun D σ H => te σ H fun v H' => D σ v H'
section
variable {X : Cx} {st : Stmt} {rest : List Stmt} {t : TS} {u : TF} {e : Expr} {te : TE} {pos : Pos}
theorem psf_cons (h1 : PS X st t) (h2 : PSF X rest u) : PSF X (st :: rest) (tSeqF t u) := by
  refine ⟨fun pins s σ H D I h => ?_⟩
  refine wpAny_execs_cons (thn (h1.run pins s σ H { nx := fun σ' H' => u D σ' H', rt := fun _ _ => False } I h) fun f s1 q => ?_)
  cases f with
  | next =>
    obtain ⟨σ', H', I', q⟩ := q
    exact h2.run pins s1 σ' H' D I' q
  | ret v =>
    obtain ⟨_, _, _, _, _, q⟩ := q
    exact q.elim
  | brk =>
    obtain ⟨_, _, _, q⟩ := q
    exact q.elim
  | cont =>
    obtain ⟨_, _, _, q⟩ := q
    exact q.elim
theorem psf_ret (he : PE X e te) : PSF X [.Return (some e) pos] (tRetF te) := by
  refine ⟨fun pins s σ H D I h => ?_⟩
  refine wpAny_execs_cons (wpAny_Return_some (thn (he.run pins s σ H _ I h) fun v s1 ⟨x, H1, I1, r1, q1⟩ => ?_))
  exact ⟨x, σ, H1, I1, r1, q1⟩
theorem PSF.nox {st : List Stmt} {t : TF} (h : PSF X.nox st t) : PSF X st t := ⟨fun pins s σ H D I hw =>
  wpAny_mono (h.run pins s σ H D (I.wish _) hw) (fun f _ q => by
    cases f with
    | ret u =>
      obtain ⟨v, σ', H', I', r, q⟩ := q
      exact ⟨v, σ', H', I'.unwish, r, q⟩
    | next => exact q
    | brk => exact q
    | cont => exact q) fun _ _ z => False.elim z⟩
theorem r_seqF {D : EF} {σ : L2.St} {H : Hp} (h : t { nx := fun σ' H' => u D σ' H', rt := fun _ _ => False } σ H) : tSeqF t u D σ H := h
theorem r_retF {D : EF} {σ : L2.St} {H : Hp} (h : te σ H fun v H' => D σ v H') : tRetF te D σ H := h
end
/-- all that a name of the def's own holds, frozen -/
noncomputable def Shut (sc : Scope) (cells : List (Str × Addr)) (N : List Str) (σ : L2.St) (H Hc : Hp) : Prop := Keep [] H Hc ∧ (∀ b o, Hc b = some o → H b = none → ∃ o', o = .frz o' (.own b)) ∧
  ∀ (scope : Scope) (fr : List Str) (js : List Nat), NScope fr [] fr scope → ndefB sc scope fr = true → js.map (fun j => N[j]?) = fr.map some → IceC (cloFrom cells scope.names []) fr (js.map (slotAt σ)) Hc
theorem ice_sub {cl : List (Str × Addr)} {fr : List Str} {ws : List (Option V)} {H : Hp} {h : Heap} {M : List Addr} {g : Addr → Obj} (C : CellsAt cl fr ws h H) (keys : ∀ y c, cl.lookup y = some c → y ∈ fr) (hm : ∀ y c, cl.lookup y = some c → c ∈ M) (hg : ∀ a ∈ M, h.get? a = some (g a)) : IceC cl fr ws (Fz M g H) := by
  refine ⟨C.len, keys, C.inj, fun y c e => ?_, fun i y e => ?_⟩
  · obtain ⟨_, v, o, ho, d⟩ := C.all y c e
    have z := hg c (hm y c e)
    rw [ho] at z
    cases z
    exact ⟨_, v, fz_in (hm y c e), d⟩
  · obtain ⟨c, hc, q⟩ := C.has i y e
    refine ⟨c, hc, fun v ev => ?_⟩
    obtain ⟨u, r, o, ho, d⟩ := q v ev
    have z := hg c (hm y c hc)
    rw [ho] at z
    cases z
    exact ⟨_, u, fz_in (hm y c hc), d, r⟩
section
variable {P : Program} {w : World} {K : PySem.W.Frag} {mg : Str → Option Value} {base : Heap}
theorem def_okF {x : Str} {st : Stmt} {N ps : List Str} {k : Nat} {sp : Sp} (D : DefAt K mg x st ps) (S : FnScope N ps (defScope st)) (len : ∀ vs H Q E, sp vs H Q E → vs.length = ps.length)
    (hbody : ∀ (f : Addr) (cdv : Value) (A : Around) (outer : List Env) (s : Shared) (H : Hp) (vs : List V) (Q : VK) (E : XK), Room k (A.deeper (envOfC x (defScope st) s.heap.objs.size f cdv)) → mg x = some (.ref f) → (∃ (fd : FuncData) (oc : Value) (od : Option Addr) (osl : Array (Option Value)), K.lookup f = some ⟨oc, od, .func fd, osl⟩ ∧ fd.code = cdv) → sp vs H Q E →
      ∃ t, PSF (cxOf CX0 P w K mg base N x (defScope st) f cdv A outer s H E).nox (defBody st) t ∧ t (fun σ v H' => ∀ Hc, Shut (defScope st) (envOfC x (defScope st) s.heap.objs.size f cdv).cells N σ H' Hc → Q v Hc) (start N vs) H) : Callee P w K mg base x (k + 1) ps sp := by
  obtain ⟨f, fd, F, m, b⟩ := D.ex
  obtain ⟨oc, od, kV, doc, pm, an, cdv, ct, osl, rfl, lk, hcd⟩ := id F.ex
  refine ⟨f, _, ⟨len, fun A outer s H args us vs Q E hr e0 hb r hsp => ?_⟩, m, F.kp, b, oc, od, osl, lk⟩
  have hl := len _ _ _ _ hsp
  have KX : K.In s.heap := e0.mod.kin.keeps fun b o e => (e0.bs b o e).1
  have lim : s.heap.NoLimit := e0.mod.nolimit.keeps fun b o e => (e0.bs b o e).1
  have hkind : ∀ y ∈ ps.zip us, (defScope st).names.lookup y.1 = some .local ∨ ((defScope st).names.lookup y.1 = some .cell ∧ ((cellsFrom (s.heap.objs.size + 1) (defScope st).names []).lookup y.1).isSome = true) := fun ⟨n, v⟩ hy => by
    rcases S.par n (List.of_mem_zip hy).1 with q | q
    · exact .inl q
    · exact .inr ⟨q, PySem.W.cellsFrom_some _ _ _ (.inl q)⟩
  refine codeAny_call_function hr.depth (KX _ _ lk) rfl S.co S.gen rfl (PySem.W.codeRec_of KX hcd) (hb _ _ _ _ ?_)
  refine wpAny_newFunctionEnv_cells S.kind hkind fun env he s1 x1 => ?_
  subst he
  refine ⟨lim.keeps x1.toInCall.keep, codeAny_func ?_⟩
  obtain ⟨t, ht, hq⟩ := hbody f cdv A outer s H vs Q E (hr.deeper _) m ⟨_, oc, od, osl, lk, rfl⟩ hsp
  have I : Inv (cxOf CX0 P w K mg base N x (defScope st) f cdv A outer s H E) [] (start N vs) H s1 := inv_start S hr.hd e0 hl r x1
  refine wpAny_mono (ht.nox.run [] s1 (start N vs) H _ I hq) (fun fl s' hs => ?_) fun e s' hs => hs
  cases fl with
  | next => exact hs.elim
  | brk => exact hs.elim
  | cont => exact hs.elim
  | ret u =>
    obtain ⟨v, σ', H', J, rv, q⟩ := hs
    -- all the cells
    have cin : ∀ a ∈ (envOfC x (defScope st) s.heap.objs.size f cdv).cells.filterMap (fun p => (envOfC x (defScope st) s.heap.objs.size f cdv).cells.lookup p.1), ∃ y, (envOfC x (defScope st) s.heap.objs.size f cdv).cells.lookup y = some a := fun a ha => by
      obtain ⟨p, _, e⟩ := List.mem_filterMap.mp ha
      exact ⟨p.1, e⟩
    obtain ⟨M, hM⟩ : ∃ M : List Addr, M = (envOfC x (defScope st) s.heap.objs.size f cdv).cells.filterMap (fun p => (envOfC x (defScope st) s.heap.objs.size f cdv).cells.lookup p.1) := ⟨_, rfl⟩
    rw [← hM] at cin
    have inM : ∀ y a, (envOfC x (defScope st) s.heap.objs.size f cdv).cells.lookup y = some a → a ∈ M := fun y a e => by
      rw [hM]
      exact List.mem_filterMap.mpr ⟨(y, a), PySem.mem_of_lookup e, e⟩
    have free : ∀ a ∈ M, H' a = none := fun a ha => by
      obtain ⟨y, e⟩ := cin a ha
      exact J.freeC y a e
    have new : ∀ a ∈ M, s.heap.objs.size ≤ a := fun a ha => by
      obtain ⟨y, e⟩ := cin a ha
      exact J.ok.cab y a rfl e
    have get : ∀ a ∈ M, s'.heap.get? a = some ((s'.heap.get? a).getD { cls := .none, data := .fields #[] }) := fun a ha => by
      obtain ⟨y, e⟩ := cin a ha
      obtain ⟨c, o, ho, _⟩ := J.cell y a e
      rw [ho] <;> rfl
    have nM : ∀ b o, s.heap.get? b = some o → b ∉ M := fun b o e z => absurd (Nat.lt_of_lt_of_le (Heap.lt_size e) (new b z)) (Nat.lt_irrefl _)
    have kz := fz_keep (g := fun a => (s'.heap.get? a).getD { cls := .none, data := .fields #[] }) free
    have un : Un (frs outer) [] H H' s.heap s'.heap := J.base
    refine ⟨v, Fz M (fun a => (s'.heap.get? a).getD { cls := .none, data := .fields #[] }) H', J.os, J.bare, ⟨un.keep, un.slot, fun b o e n hx => ?_, un.there, fun b xs e => kz b _ (un.tups b xs e) (by simp), fun b o z e => kz b _ (un.frzs b o z e) (by simp), fun b qs e => ?_⟩, hok_fz J.hok free get, rv, q _ ⟨kz, fun b o e n => ?_, fun scope fr js hN hS hjs => ?_⟩⟩
    · rw [fz_ne (nM b o e)]
      exact un.free b o e n hx
    · obtain ⟨more, z⟩ := un.tbls b qs e
      exact ⟨more, kz b _ z (by simp)⟩
    · by_cases hb : b ∈ M
      · rw [fz_in hb] at e
        cases e
        exact ⟨_, rfl⟩
      · rw [fz_ne hb, n] at e
        cases e
    · have cp := Caps.made (X := cxOf CX0 P w K mg base N x (defScope st) f cdv A outer s H E) J.ok (ndef_free hS) (ndef_fr hS) hjs
      refine ice_sub (cells_of J cp) (fun y c e => ?_) (fun y c e => inM y c (cp.sub y c e)) get
      rcases cloFrom_mem (PySem.mem_of_lookup e) with hm | ⟨h1, _⟩
      · cases hm
      · exact hN.free _ h1 rfl
end
end Hw
namespace Hw
open PySem PySem.Spec PyProof.Rows L2 LamX NdefX
noncomputable def lamQ (x : Str) : Str := (x ++ ".<locals>.") ++ "<lambda>"
/-- the notes of the def x are T's -/
structure TabAt (K : PySem.W.Frag) (mg : Str → Option Value) (base : Heap) (x : Str) (T : List (Addr × Str)) : Prop where
  ex : ∀ f fd oc od osl, mg x = some (.ref f) → K.lookup f = some ⟨oc, od, .func fd, osl⟩ → ∃ c P, fd.code = .ref c ∧ TabB base mg c P ∧ (P, lamQ x) ∈ T ∧ ∀ p ∈ T, p.1 = P → p.2 = lamQ x
section
variable {P : Program} {w : World} {K : PySem.W.Frag} {mg : Str → Option Value} {base : Heap}
theorem TabAt.ctx {x : Str} {T : List (Addr × Str)} (C : TabAt K mg base x T) {f : Addr} {cdv : Value} {sc : Scope} {n : Nat} (m : mg x = some (.ref f)) (l : ∃ (fd : FuncData) (oc : Value) (od : Option Addr) (osl : Array (Option Value)), K.lookup f = some ⟨oc, od, .func fd, osl⟩ ∧ fd.code = cdv) :
    ∀ X : Cx, X.env = envOfC x sc n f cdv → X.base = base → X.mg = mg → LamCtx X T (lamQ x) := by
  obtain ⟨fd, oc, od, osl, lk, rfl⟩ := l
  obtain ⟨c, Pt, hc, TB, hm, hu⟩ := C.ex f fd oc od osl m lk
  intro X e1 e2 e3
  refine ⟨by rw [e1] <;> rfl, c, Pt, by rw [e2, e3]; exact TB, by rw [e1]; exact hc, hm, hu⟩
/-- DefAt.ok, told too where the def's code object stands -/
theorem def_okL {x : Str} {st : Stmt} {N ps : List Str} {k : Nat} {sp : Sp} (D : DefAt K mg x st ps) (S : FnScope N ps (defScope st)) (len : ∀ vs H Q E, sp vs H Q E → vs.length = ps.length)
    (hbody : ∀ (f : Addr) (cdv : Value) (A : Around) (outer : List Env) (s : Shared) (H : Hp) (vs : List V) (Q : VK) (E : XK), Room k (A.deeper (envOfC x (defScope st) s.heap.objs.size f cdv)) → mg x = some (.ref f) → (∃ (fd : FuncData) (oc : Value) (od : Option Addr) (osl : Array (Option Value)), K.lookup f = some ⟨oc, od, .func fd, osl⟩ ∧ fd.code = cdv) → sp vs H Q E →
      ∃ t, PSs (cxOf CX0 P w K mg base N x (defScope st) f cdv A outer s H E).nox (defBody st) t ∧ t { nx := fun _ H' => Q .non H', rt := Q } (start N vs) H) : Callee P w K mg base x (k + 1) ps sp := by
  obtain ⟨f, fd, F, m, b⟩ := D.ex
  obtain ⟨oc, od, kV, doc, pm, an, cdv, ct, osl, rfl, lk, hcd⟩ := id F.ex
  refine ⟨f, _, fn_of lk hcd S len fun A outer s H vs Q E hr h => ?_, m, F.kp, b, oc, od, osl, lk⟩
  obtain ⟨t, h1, h2⟩ := hbody f cdv A outer s H vs Q E hr m ⟨_, oc, od, osl, lk, rfl⟩ h
  exact ⟨t, h1.nox, h2⟩
/-- a list that is handed in may be taken as one that stays -/
theorem fn_ice {k : Nat} {f : Addr} {fd : FuncData} {x : Str} {sp sp' : Sp} (F : FnOk P w K mg base CX0 k f fd [x] sp) (len : ∀ vs H Q E, sp' vs H Q E → vs.length = 1)
    (h : ∀ vs H Q E, sp' vs H Q E → ∃ (a : Addr) (xs : List V), vs = [.ref a] ∧ SqL K H a xs ∧ ∀ H1, (∀ b, b ≠ a → H1 b = H b) → ((∃ o, H1 a = some (.frz o (.lst xs))) ∨ SqL K (fun _ => none) a xs) → sp vs H1 Q E) : FnOk P w K mg base CX0 k f fd [x] sp' := by
  refine ⟨len, fun A outer s H args us vs Q E hr e0 hb hv hs => ?_⟩
  obtain ⟨a, xs, rfl, hS, g⟩ := h vs H Q E hs
  rcases hS with (hS | ⟨o, hS⟩) | hS
  · obtain ⟨hl, its, n, r, ho⟩ := e0.hok a _ hS
    have ne : ∀ b u, H b = some u → (∀ ys, u ≠ .lst ys) → b ≠ a := fun b u e n z => by
      rw [z, hS] at e
      exact n _ (Option.some.inj e).symm
    have e1 : Env0 P w K mg base A outer s (upd H a (.frz { cls := .type "list", data := .seq its.toArray n } (.lst xs))) := by
      refine ⟨e0.frames, e0.mod, fun b o q => ⟨(e0.bs b o q).1, ?_⟩, e0.bsz, e0.funs, fun b hb => ?_, fun b o q => ?_, e0.bare⟩
      · rw [upd_ne fun z => by rw [z] at q; have := (e0.bs a o q).2; rw [hS] at this; cases this]
        exact (e0.bs b o q).2
      · rw [upd_ne fun z => by rw [z] at hb; have := e0.frf a hb; rw [hS] at this; cases this]
        exact e0.frf b hb
      · by_cases hba : b = a
        · rw [hba] at q ⊢
          rw [upd_same] at q
          cases q
          exact ⟨ho, hl, its, n, r, ho⟩
        · rw [upd_ne hba] at q
          exact (e0.hok b o q).stay (fun _ _ _ z => z) (fun c z => by rw [upd_ne (ne c _ z fun _ y => nomatch y)]; exact z) fun c ys z => by rw [upd_ne (ne c _ z fun _ y => nomatch y)]; exact z
    refine codeAny_mono (F.run A outer s _ args us _ Q E hr e1 hb hv (g _ (fun b hb => upd_ne hb) (.inl ⟨_, upd_same⟩))) fun r s' hq => ?_
    cases r with
    | error e => exact (show False from hq).elim
    | ok fl =>
      cases fl with
      | next => exact False.elim hq
      | brk => exact False.elim hq
      | cont => exact False.elim hq
      | ret u =>
        obtain ⟨v, H', os, bare, un, hok, r', q⟩ := hq
        have nn : ∀ b, H b = none → b ≠ a := fun b e z => by rw [z, hS] at e; cases e
        exact ⟨v, H', os, bare, ⟨fun b o e n => un.keep b o e (by rw [upd_ne (nn b n)]; exact n), fun b o e n => un.slot b o e (by rw [upd_ne (nn b n)]; exact n), fun b o e n => un.free b o e (by rw [upd_ne (nn b n)]; exact n), un.there, fun b ys e => un.tups b ys (by rw [upd_ne (ne b _ e fun _ y => nomatch y)]; exact e), fun b o z e => un.frzs b o z (by rw [upd_ne (ne b _ e fun _ y => nomatch y)]; exact e), fun b ys e => un.tbls b ys (by rw [upd_ne (ne b _ e fun _ y => nomatch y)]; exact e)⟩, hok, r', q⟩
  · exact F.run A outer s H args us _ Q E hr e0 hb hv (g H (fun _ _ => rfl) (.inl ⟨o, hS⟩))
  · exact F.run A outer s H args us _ Q E hr e0 hb hv (g H (fun _ _ => rfl) (.inr (.inr hS)))
end
end Hw
namespace Hw
open PySem PySem.Spec PyProof.Rows L2 LamX NdefX
section
variable {K : PySem.W.Frag} {M : List Addr} {H H1 H2 : Hp}
theorem sqT_wo (i : Ice M H) {a : Addr} {xs : List V} (h : SqT K H a xs) : SqT K (Wo M H) a xs := by
  rcases h with (h | ⟨o, h⟩) | h
  · exact .inl (.inl ((wo_ne (i.ne h fun _ _ z => nomatch z)).trans h))
  · refine .inl (.inr ⟨o, (wo_ne fun z => ?_).trans h⟩)
    obtain ⟨ob, e⟩ := i a z
    rw [h] at e
    cases e
  · exact .inr h
mutual
theorem rp_wo (i : Ice M H) : ∀ {d : PyData} {v : V}, Rp K H v d → Rp K (Wo M H) v d
  | .none, _, h => by cases h; exact .non
  | .bool b, _, h => by cases h; exact .bl b
  | .int i, _, h => by cases h; exact .int i
  | .str x, _, h => by cases h; exact .str x
  | .tuple ds, _, h => by
    cases h with
    | tup hs ha => exact .tup (sqT_wo i hs) (rps_wo i ha)
  | .list _, _, h => by cases h
  | .dict _, _, h => by cases h
theorem rps_wo (i : Ice M H) : ∀ {ds : List PyData} {vs : List V}, Rps K H vs ds → Rps K (Wo M H) vs ds
  | [], _, h => by cases h; exact .nil
  | d :: ds, _, h => by
    cases h with
    | cons h1 h2 => exact .cons (rp_wo i h1) (rps_wo i h2)
end
/-- all but lists and notes stay -/
noncomputable def KeepE (H H1 : Hp) : Prop := ∀ b o, H b = some o → (∀ xs, o ≠ .lst xs) → (∀ ps, o ≠ .tbl ps) → H1 b = some o
theorem KeepE.refl : KeepE H H := fun _ _ h _ _ => h
theorem KeepE.trans (a : KeepE H H1) (b : KeepE H1 H2) : KeepE H H2 := fun c o h n m => b c o (a c o h n m) n m
theorem ke_ext (e : ExtN H H1) : KeepE H H1 := fun b o h _ m => e b o h m
theorem ke_0 (k : Keep [] H H1) : KeepE H H1 := fun b o h _ _ => k b o h (by simp)
theorem ke_1 {p : Addr} {xs : List V} (k : Keep [p] H H1) (h : H p = some (.lst xs)) : KeepE H H1 := fun b o e n _ => k b o e fun z => by
  rw [List.mem_singleton.mp z, h] at e
  exact n xs (Option.some.inj e).symm
theorem KeepE.ts (k : KeepE H H1) : Tst H H1 := ⟨(fun a xs h => k a _ h (fun _ z => nomatch z) (fun _ z => nomatch z)), (fun a o u h => k a _ h (fun _ z => nomatch z) (fun _ z => nomatch z))⟩
theorem KeepE.lam {q : Str} {params : Arguments} {body : Expr} {scope : Scope} {cl : List (Str × Addr)} {f : Addr} (k : KeepE H H1) (v : LamV q params body scope cl f H) : LamV q params body scope cl f H1 := by
  obtain ⟨pm, ctv, c', h1, h2⟩ := v
  exact ⟨pm, ctv, c', k _ _ h1 (fun _ z => nomatch z) (fun _ z => nomatch z), k _ _ h2 (fun _ z => by unfold CodeO at z; cases z) codeO_ne⟩
theorem tabs_0 {T : List (Addr × Str)} (t : Tabs T H) (k : Keep [] H H1) : Tabs T H1 := t.ext fun b o h => k b o h (by simp)
theorem tabs_1 {T : List (Addr × Str)} {p : Addr} {xs : List V} (t : Tabs T H) (k : Keep [p] H H1) (h : H p = some (.lst xs)) : Tabs T H1 := fun z hz => by
  obtain ⟨ps, h1, h2, h3⟩ := t z hz
  refine ⟨ps, k _ _ h1 fun y => ?_, h2, fun pos cv hc => ?_⟩
  · rw [List.mem_singleton.mp y, h] at h1
    cases h1
  · obtain ⟨c, e1, e2⟩ := h3 pos cv hc
    exact ⟨c, e1, ke_1 k h _ _ e2 (fun _ z => by unfold CodeO at z; cases z) codeO_ne⟩
theorem r_lamE {T : List (Addr × Str)} {q : Str} {params : Arguments} {body : Expr} {scope : Scope} {cells : List (Str × Addr)} {σ : L2.St} {Q : VK} (hT : Tabs T H) (h : ∀ f H1, ExtN H H1 → Tabs T H1 → H f = none → (∀ b, H1 b = none → H b = none) → LamV q params body scope (cloFrom cells scope.names []) f H1 → Q (.ref f) H1) : tLamE T q params body scope cells σ H Q := ⟨hT, h⟩
end
end Hw
namespace Hw
open PySem PySem.Spec PyProof.Rows L2 LamX NdefX
section
variable {H Ha Hb : Hp}
theorem ext_1 {p : Addr} (x : ExtN H Ha) (k : Keep [p] Ha Hb) (n : H p = none) : ExtN H Hb := fun b o h m => k b o (x b o h m) fun z => by
  rw [List.mem_singleton.mp z, n] at h
  cases h
theorem ext_0 (x : ExtN H Ha) (k : Keep [] Ha Hb) : ExtN H Hb := fun b o h m => k b o (x b o h m) (by simp)
theorem ice_lam {q : Str} {params : Arguments} {body : Expr} {scope : Scope} {cl : List (Str × Addr)} {f : Addr} {Hl : Hp} (_ : LamV q params body scope cl f Hl) {sc : Scope} {cells : List (Str × Addr)} {N : List Str} {σ : L2.St} {Hc : Hp}
    (h : ∀ (scope : Scope) (fr : List Str) (js : List Nat), NScope fr [] fr scope → ndefB sc scope fr = true → js.map (fun j => N[j]?) = fr.map some → IceC (cloFrom cells scope.names []) fr (js.map (slotAt σ)) Hc) (fr : List Str) (js : List Nat)
    (h1 : NScope fr [] fr scope) (h2 : ndefB sc scope fr = true) (h3 : js.map (fun j => N[j]?) = fr.map some) : IceC (cloFrom cells scope.names []) fr (js.map (slotAt σ)) Hc := h scope fr js h1 h2 h3
end
end Hw
namespace Hw
open PySem PySem.Spec PyProof.Rows L2 LamX NdefX
noncomputable def spLawT (K : PySem.W.Frag) (cs : List (Addr × Addr)) : Sp := fun vs H Q _ => ∃ (a : Addr) (ns : List Int), vs = [.ref a] ∧ (∀ p ∈ cs, H p.2 = some (.tbl #[])) ∧ SqL K H a (ns.map V.int) ∧ ∀ H', Q (.bl true) H'
theorem walkT {l : PySem.W.OpenLaw} {q : Program} {loose : List Str} {XP : (Str → Option Value) → Heap → Prop} {d : DefRec} {K : Params → PySem.W.Frag} {as : List Addr} {e : ∀ P, as = (K P).map (·.1)} {ts : List Addr} (hn : l.most = some 63) (hdf : d.params.defaults = [])
    (F : ∀ (w : World) (mg : Str → Option Value) (fa : Addr) (h : Heap), (K w.params).In h → h.Ns mainGlobals mg → mg d.name = some (.ref fa) →
      ∃ (fd : FuncData) (cs : List (Addr × Addr)), (∀ p ∈ cs, p.2 ∈ ts) ∧ (∀ p ∈ cs, (K w.params).lookup p.2 = none) ∧ (∀ p ∈ cs, PySem.W.codeHdIn (K w.params) p.1 p.2 = true) ∧ (∀ (s : Shared) (u : Value), BindsTo s fd ⟨[u], []⟩ [("_law_script", u)]) ∧
        ∀ base : Heap, (K w.params).In base → base.Ns mainGlobals mg → (∀ p ∈ cs, TabB base mg p.1 p.2) → FnOk l.prog w (K w.params) mg base CX0 130 fa fd ["_law_script"] (spLawT (K w.params) cs)) :
    PySem.W.WalkO q loose XP (PySem.W.kmHook K as e ts).says l.row.toRowW d [] (fun f vs => PySem.call f vs) :=
  LamX.walk_ofTs (n := 63) (k := 130) (x := "_law_script") (CX := fun _ => CX0) hn (by decide) hdf ⟨rfl, by decide, by decide⟩ (fun w h Y => PySem.W.km_in_of Y)
    (fun w mg fa h Y KX G hmg => by
      obtain ⟨fd, cs, c1, c2, c3, hb, hF⟩ := F w mg fa h KX G hmg
      exact ⟨fd, cs, spLawT (K w.params) cs, fun p hp => PySem.W.km_tabs_of Y _ (c1 p hp), c2, fun p hp => PySem.W.codeHd_of_K KX (c3 p hp), hb, fun H a ns _ _ hT hS => ⟨a, ns, rfl, hT, hS, fun _ => rfl⟩, hF⟩)
    fun _ _ _ _ _ z => z
/-- the notes, as a list of their own -/
theorem tabAt_mk {K : PySem.W.Frag} {mg : Str → Option Value} {base : Heap} {x : Str} {T : List (Addr × Str)} {f c Pt : Addr} {fd : FuncData} {oc : Value} {od : Option Addr} {osl : Array (Option Value)} (m : mg x = some (.ref f)) (l : K.lookup f = some ⟨oc, od, .func fd, osl⟩) (hc : fd.code = .ref c) (TB : TabB base mg c Pt) (hm : (Pt, lamQ x) ∈ T) (hu : ∀ p ∈ T, p.1 = Pt → p.2 = lamQ x) : TabAt K mg base x T := ⟨fun f' fd' oc' od' osl' m' l' => by
  rw [m] at m'
  cases m'
  rw [l] at l'
  cases l'
  exact ⟨c, Pt, hc, TB, hm, hu⟩⟩
theorem tabs_nil {T : List (Addr × Str)} {H : Hp} (h : ∀ p ∈ T, H p.1 = some (.tbl #[])) : Tabs T H := fun p hp => TabS.nil (h p hp)
end Hw
namespace Hw
open PySem PySem.Spec PyProof.Rows L2
inductive Th where
  | num (n : Nat) | sum (a b : Th) | cell (t : Th) | own (k : Nat) | par (k : Nat)
mutual
inductive St where
  | set (p t : Th) | say (t : Th) | ite (t : Th) (a b : Sts) | call (w : Nat) (ts : List Th)
inductive Sts where
  | nil | cons (s : St) (r : Sts)
end
noncomputable def Sts.app : Sts → Sts → Sts
  | .nil, r => r
  | .cons s q, r => .cons s (q.app r)
structure Wk where
  params : Nat
  owns : Nat
  body : Sts
noncomputable def Th.enc : Th → PyData
  | .num n => .tuple [.str "num", .int (n : Int)]
  | .sum a b => .tuple [.str "sum", a.enc, b.enc]
  | .cell t => .tuple [.str "cell", t.enc]
  | .own k => .tuple [.str "own", .int (k : Int)]
  | .par k => .tuple [.str "par", .int (k : Int)]
mutual
noncomputable def St.enc : St → PyData
  | .set p t => .tuple [.str "set", p.enc, t.enc]
  | .say t => .tuple [.str "say", t.enc]
  | .ite t a b => .tuple [.str "if", t.enc, .tuple a.encs, .tuple b.encs]
  | .call w ts => .tuple [.str "call", .int (w : Int), .tuple (ts.map Th.enc)]
noncomputable def Sts.encs : Sts → List PyData
  | .nil => []
  | .cons s r => s.enc :: r.encs
end
noncomputable def Wk.enc (w : Wk) : PyData := .tuple [.int (w.params : Int), .int (w.owns : Int), .tuple w.body.encs]
noncomputable def encP (P : List Wk) : PyData := .tuple (P.map Wk.enc)
noncomputable def Th.word : Th → Str
  | .num _ => "num"
  | .sum _ _ => "sum"
  | .cell _ => "cell"
  | .own _ => "own"
  | .par _ => "par"
theorem Th.head {K : PySem.W.Frag} {H : Hp} {v : V} : ∀ {t : Th}, Rp K H v t.enc → ∃ a r, v = .ref a ∧ SqT K H a (.str t.word :: r)
  | .num n, h => by
    obtain ⟨a, xs, rfl, ha, hx⟩ := h.tup_inv
    obtain ⟨v0, r0, rfl, g0, gr⟩ := hx.inv
    cases g0.str_inv
    exact ⟨a, r0, rfl, ha⟩
  | .sum x y, h => by
    obtain ⟨a, xs, rfl, ha, hx⟩ := h.tup_inv
    obtain ⟨v0, r0, rfl, g0, gr⟩ := hx.inv
    cases g0.str_inv
    exact ⟨a, r0, rfl, ha⟩
  | .cell x, h => by
    obtain ⟨a, xs, rfl, ha, hx⟩ := h.tup_inv
    obtain ⟨v0, r0, rfl, g0, gr⟩ := hx.inv
    cases g0.str_inv
    exact ⟨a, r0, rfl, ha⟩
  | .own n, h => by
    obtain ⟨a, xs, rfl, ha, hx⟩ := h.tup_inv
    obtain ⟨v0, r0, rfl, g0, gr⟩ := hx.inv
    cases g0.str_inv
    exact ⟨a, r0, rfl, ha⟩
  | .par n, h => by
    obtain ⟨a, xs, rfl, ha, hx⟩ := h.tup_inv
    obtain ⟨v0, r0, rfl, g0, gr⟩ := hx.inv
    cases g0.str_inv
    exact ⟨a, r0, rfl, ha⟩
section
variable {K : PySem.W.Frag} {H : Hp} {v : V}
theorem Th.inv_num {n : Nat} (h : Rp K H v (Th.num n).enc) : ∃ a, v = .ref a ∧ SqT K H a [.str "num", .int (n : Int)] := by
  obtain ⟨a, xs, rfl, ha, hx⟩ := h.tup_inv
  obtain ⟨v0, r0, rfl, g0, gr⟩ := hx.inv
  obtain ⟨v1, r1, rfl, g1, gr1⟩ := gr.inv
  cases gr1.inv0
  cases g0.str_inv
  cases g1.int_inv
  exact ⟨a, rfl, ha⟩
theorem Th.inv_own {n : Nat} (h : Rp K H v (Th.own n).enc) : ∃ a, v = .ref a ∧ SqT K H a [.str "own", .int (n : Int)] := by
  obtain ⟨a, xs, rfl, ha, hx⟩ := h.tup_inv
  obtain ⟨v0, r0, rfl, g0, gr⟩ := hx.inv
  obtain ⟨v1, r1, rfl, g1, gr1⟩ := gr.inv
  cases gr1.inv0
  cases g0.str_inv
  cases g1.int_inv
  exact ⟨a, rfl, ha⟩
theorem Th.inv_par {n : Nat} (h : Rp K H v (Th.par n).enc) : ∃ a, v = .ref a ∧ SqT K H a [.str "par", .int (n : Int)] := by
  obtain ⟨a, xs, rfl, ha, hx⟩ := h.tup_inv
  obtain ⟨v0, r0, rfl, g0, gr⟩ := hx.inv
  obtain ⟨v1, r1, rfl, g1, gr1⟩ := gr.inv
  cases gr1.inv0
  cases g0.str_inv
  cases g1.int_inv
  exact ⟨a, rfl, ha⟩
theorem Th.inv_cell {t : Th} (h : Rp K H v (Th.cell t).enc) : ∃ a u, v = .ref a ∧ SqT K H a [.str "cell", u] ∧ Rp K H u t.enc := by
  obtain ⟨a, xs, rfl, ha, hx⟩ := h.tup_inv
  obtain ⟨v0, r0, rfl, g0, gr⟩ := hx.inv
  obtain ⟨v1, r1, rfl, g1, gr1⟩ := gr.inv
  cases gr1.inv0
  cases g0.str_inv
  exact ⟨a, _, rfl, ha, g1⟩
theorem Th.inv_sum {t u : Th} (h : Rp K H v (Th.sum t u).enc) : ∃ a x y, v = .ref a ∧ SqT K H a [.str "sum", x, y] ∧ Rp K H x t.enc ∧ Rp K H y u.enc := by
  obtain ⟨a, xs, rfl, ha, hx⟩ := h.tup_inv
  obtain ⟨v0, r0, rfl, g0, gr⟩ := hx.inv
  obtain ⟨v1, r1, rfl, g1, gr1⟩ := gr.inv
  obtain ⟨v2, r2, rfl, g2, gr2⟩ := gr1.inv
  cases gr2.inv0
  cases g0.str_inv
  exact ⟨a, _, _, rfl, ha, g1, g2⟩
end
theorem atI_zero {x : V} {r : List V} : atI (x :: r) 0 = some x := atI_nat (j := 0) rfl
theorem Sts.encs_app : ∀ a b : Sts, (a.app b).encs = a.encs ++ b.encs
  | .nil, b => rfl
  | .cons s r, b => by
    show s.enc :: (r.app b).encs = s.enc :: (r.encs ++ b.encs)
    rw [Sts.encs_app r b]
noncomputable def Sts.take : Nat → Sts → Sts
  | 0, _ => .nil
  | _ + 1, .nil => .nil
  | n + 1, .cons s r => .cons s (r.take n)
theorem Sts.encs_take : ∀ (n : Nat) (a : Sts), (a.take n).encs = a.encs.take n
  | 0, _ => by rw [List.take_zero]; rfl
  | _ + 1, .nil => rfl
  | n + 1, .cons s r => by
    show s.enc :: (r.take n).encs = s.enc :: (r.encs.take n)
    rw [Sts.encs_take n r]
noncomputable def Sts.len : Sts → Nat
  | .nil => 0
  | .cons _ r => r.len + 1
theorem Sts.encs_len : ∀ a : Sts, a.encs.length = a.len
  | .nil => rfl
  | .cons s r => by
    show r.encs.length + 1 = r.len + 1
    rw [Sts.encs_len r]
noncomputable def Th.ok (p o : Nat) : Nat → Th → Prop
  | _, .num n => n < 3
  | _, .own k => k < o
  | _, .par k => k < p
  | 0, .cell _ => False
  | 0, .sum _ _ => False
  | d + 1, .cell t => Th.ok p o d t
  | d + 1, .sum a b => Th.ok p o d a ∧ Th.ok p o d b
theorem Th.ok.mono {p o : Nat} : ∀ {t : Th} {d e : Nat}, Th.ok p o d t → d ≤ e → Th.ok p o e t
  | .num _, 0, 0, h, _ => h
  | .num _, 0, _ + 1, h, _ => h
  | .num _, _ + 1, 0, h, _ => h
  | .num _, _ + 1, _ + 1, h, _ => h
  | .own _, 0, 0, h, _ => h
  | .own _, 0, _ + 1, h, _ => h
  | .own _, _ + 1, 0, h, _ => h
  | .own _, _ + 1, _ + 1, h, _ => h
  | .par _, 0, 0, h, _ => h
  | .par _, 0, _ + 1, h, _ => h
  | .par _, _ + 1, 0, h, _ => h
  | .par _, _ + 1, _ + 1, h, _ => h
  | .cell t, 0, _, h, _ => h.elim
  | .cell t, _ + 1, 0, _, g => by omega
  | .cell t, d + 1, e + 1, h, g => Th.ok.mono (t := t) (d := d) (e := e) h (by omega)
  | .sum a b, 0, _, h, _ => h.elim
  | .sum a b, _ + 1, 0, _, g => by omega
  | .sum a b, d + 1, e + 1, h, g => ⟨Th.ok.mono (t := a) (d := d) (e := e) h.1 (by omega), Th.ok.mono (t := b) (d := d) (e := e) h.2 (by omega)⟩
theorem Th.ok_num {p o d n : Nat} (h : n < 3) : Th.ok p o d (.num n) := by cases d <;> exact h
theorem Th.ok_own {p o d n : Nat} (h : n < o) : Th.ok p o d (.own n) := by cases d <;> exact h
theorem Th.ok_par {p o d n : Nat} (h : n < p) : Th.ok p o d (.par n) := by cases d <;> exact h
noncomputable def Th.isPlace : Th → Bool
  | .cell _ | .own _ | .par _ => true
  | _ => false
mutual
noncomputable def St.ok (sh : List (Nat × Nat)) (at_ : Nat) : Nat → St → Prop
  | _, .set p t => p.isPlace = true ∧ Th.ok (sh.getD at_ (0, 0)).1 (sh.getD at_ (0, 0)).2 4 p ∧ Th.ok (sh.getD at_ (0, 0)).1 (sh.getD at_ (0, 0)).2 4 t
  | _, .say t => Th.ok (sh.getD at_ (0, 0)).1 (sh.getD at_ (0, 0)).2 4 t
  | 0, .ite _ _ _ => False
  | d + 1, .ite t a b => Th.ok (sh.getD at_ (0, 0)).1 (sh.getD at_ (0, 0)).2 4 t ∧ Sts.ok sh at_ d a ∧ Sts.ok sh at_ d b
  | _, .call w ts => at_ < w ∧ w < sh.length ∧ ts.length = (sh.getD w (0, 0)).1 ∧ ∀ t ∈ ts, Th.ok (sh.getD at_ (0, 0)).1 (sh.getD at_ (0, 0)).2 4 t
noncomputable def Sts.ok (sh : List (Nat × Nat)) (at_ : Nat) : Nat → Sts → Prop
  | _, .nil => True
  | d, .cons s r => St.ok sh at_ d s ∧ Sts.ok sh at_ d r
end
theorem St.ok_set {sh : List (Nat × Nat)} {at_ d : Nat} {p t : Th} (h : p.isPlace = true) (h1 : Th.ok (sh.getD at_ (0, 0)).1 (sh.getD at_ (0, 0)).2 4 p) (h2 : Th.ok (sh.getD at_ (0, 0)).1 (sh.getD at_ (0, 0)).2 4 t) : St.ok sh at_ d (.set p t) := by
  cases d <;> (unfold St.ok; exact ⟨h, h1, h2⟩)
theorem St.ok_say {sh : List (Nat × Nat)} {at_ d : Nat} {t : Th} (h : Th.ok (sh.getD at_ (0, 0)).1 (sh.getD at_ (0, 0)).2 4 t) : St.ok sh at_ d (.say t) := by
  cases d <;> (unfold St.ok; exact h)
theorem St.ok_ite {sh : List (Nat × Nat)} {at_ d : Nat} {t : Th} {a b : Sts} (h : Th.ok (sh.getD at_ (0, 0)).1 (sh.getD at_ (0, 0)).2 4 t) (h1 : Sts.ok sh at_ d a) (h2 : Sts.ok sh at_ d b) : St.ok sh at_ (d + 1) (.ite t a b) := by
  unfold St.ok; exact ⟨h, h1, h2⟩
theorem St.ok_call {sh : List (Nat × Nat)} {at_ d w : Nat} {ts : List Th} (h : at_ < w) (h1 : w < sh.length) (h2 : ts.length = (sh.getD w (0, 0)).1) (h3 : ∀ t ∈ ts, Th.ok (sh.getD at_ (0, 0)).1 (sh.getD at_ (0, 0)).2 4 t) : St.ok sh at_ d (.call w ts) := by
  cases d <;> (unfold St.ok; exact ⟨h, h1, h2, h3⟩)
theorem getD_at {sh : List (Nat × Nat)} {i : Nat} (h : i < sh.length) : sh.getD i (0, 0) = sh[i] := by rw [List.getD_eq_getElem?_getD, List.getElem?_eq_getElem h]; rfl
mutual
noncomputable def St.many : St → Nat
  | .set _ _ => 1
  | .say _ => 1
  | .ite _ a b => 1 + a.many + b.many
  | .call _ _ => 1
noncomputable def Sts.many : Sts → Nat
  | .nil => 0
  | .cons s r => s.many + r.many
end
mutual
noncomputable def St.calls : St → Nat
  | .set _ _ => 0
  | .say _ => 0
  | .ite _ a b => a.calls + b.calls
  | .call _ _ => 1
noncomputable def Sts.calls : Sts → Nat
  | .nil => 0
  | .cons s r => s.calls + r.calls
end
theorem Sts.ok_app {sh : List (Nat × Nat)} {at_ : Nat} : ∀ {d : Nat} {a b : Sts}, Sts.ok sh at_ d a → Sts.ok sh at_ d b → Sts.ok sh at_ d (a.app b)
  | _, .nil, _, _, g => g
  | d, .cons s r, b, h, g => by
    unfold Sts.ok at h
    show Sts.ok sh at_ d (.cons s (r.app b))
    unfold Sts.ok
    exact ⟨h.1, Sts.ok_app h.2 g⟩
theorem Sts.ok_take {sh : List (Nat × Nat)} {at_ : Nat} : ∀ {d : Nat} (n : Nat) {a : Sts}, Sts.ok sh at_ d a → Sts.ok sh at_ d (a.take n)
  | _, 0, _, _ => by unfold Sts.take Sts.ok; trivial
  | _, _ + 1, .nil, _ => by unfold Sts.take Sts.ok; trivial
  | d, n + 1, .cons s r, h => by
    unfold Sts.ok at h
    show Sts.ok sh at_ d (.cons s (r.take n))
    unfold Sts.ok
    exact ⟨h.1, Sts.ok_take n h.2⟩
theorem Sts.many_app : ∀ a b : Sts, (a.app b).many = a.many + b.many
  | .nil, b => (Nat.zero_add _).symm
  | .cons s r, b => by
    show s.many + (r.app b).many = s.many + r.many + b.many
    rw [Sts.many_app r b]
    omega
theorem Sts.many_take : ∀ (n : Nat) (a : Sts), (a.take n).many ≤ a.many
  | 0, _ => Nat.zero_le _
  | _ + 1, .nil => Nat.zero_le _
  | n + 1, .cons s r => by
    show s.many + (r.take n).many ≤ s.many + r.many
    have := Sts.many_take n r
    omega
theorem Sts.calls_app : ∀ a b : Sts, (a.app b).calls = a.calls + b.calls
  | .nil, b => (Nat.zero_add _).symm
  | .cons s r, b => by
    show s.calls + (r.app b).calls = s.calls + r.calls + b.calls
    rw [Sts.calls_app r b]
    omega
theorem Sts.calls_take : ∀ (n : Nat) (a : Sts), (a.take n).calls ≤ a.calls
  | 0, _ => Nat.zero_le _
  | _ + 1, .nil => Nat.zero_le _
  | n + 1, .cons s r => by
    show s.calls + (r.take n).calls ≤ s.calls + r.calls
    have := Sts.calls_take n r
    omega
theorem Sts.len_le_many : ∀ a : Sts, a.len ≤ a.many
  | .nil => Nat.le_refl _
  | .cons s r => by
    show r.len + 1 ≤ s.many + r.many
    have := Sts.len_le_many r
    have : 1 ≤ s.many := by cases s <;> (unfold St.many; omega)
    omega
noncomputable def shapes (P : List Wk) : List (Nat × Nat) := P.map fun w => (w.params, w.owns)
/-- what the law's own drawing gives: a program; so many steps and calls at most in a work -/
structure Good (P : List Wk) (steps : Nat) : Prop where
  one : 1 ≤ P.length
  few : P.length ≤ 4
  first : ∀ w, P[0]? = some w → w.params = 0
  params : ∀ w ∈ P, w.params ≤ 3
  owns : ∀ w ∈ P, w.owns ≤ 20
  body : ∀ (i : Nat) (w : Wk), P[i]? = some w → Sts.ok (shapes P) i 2 w.body
  many : ∀ w ∈ P, w.body.many ≤ steps
  calls : ∀ w ∈ P, w.body.calls ≤ 4
end Hw
namespace Hw
open PySem PySem.Spec PyProof.Rows L2
section
variable {K : PySem.W.Frag}
section
variable {H : Hp} {v : V}
theorem St.inv_say {t : Th} (h : Rp K H v (St.say t).enc) : ∃ a u, v = .ref a ∧ SqT K H a [.str "say", u] ∧ Rp K H u t.enc := by
  obtain ⟨a, xs, rfl, ha, hx⟩ := h.tup_inv
  obtain ⟨v0, r0, rfl, g0, gr⟩ := hx.inv
  obtain ⟨v1, r1, rfl, g1, gr1⟩ := gr.inv
  cases gr1.inv0
  cases g0.str_inv
  exact ⟨a, _, rfl, ha, g1⟩
theorem St.inv_set {p t : Th} (h : Rp K H v (St.set p t).enc) : ∃ a u x, v = .ref a ∧ SqT K H a [.str "set", u, x] ∧ Rp K H u p.enc ∧ Rp K H x t.enc := by
  obtain ⟨a, xs, rfl, ha, hx⟩ := h.tup_inv
  obtain ⟨v0, r0, rfl, g0, gr⟩ := hx.inv
  obtain ⟨v1, r1, rfl, g1, gr1⟩ := gr.inv
  obtain ⟨v2, r2, rfl, g2, gr2⟩ := gr1.inv
  cases gr2.inv0
  cases g0.str_inv
  exact ⟨a, _, _, rfl, ha, g1, g2⟩
theorem St.inv_ite {t : Th} {b c : Sts} (h : Rp K H v (St.ite t b c).enc) : ∃ a u x y, v = .ref a ∧ SqT K H a [.str "if", u, x, y] ∧ Rp K H u t.enc ∧ Rp K H x (.tuple b.encs) ∧ Rp K H y (.tuple c.encs) := by
  obtain ⟨a, xs, rfl, ha, hx⟩ := h.tup_inv
  obtain ⟨v0, r0, rfl, g0, gr⟩ := hx.inv
  obtain ⟨v1, r1, rfl, g1, gr1⟩ := gr.inv
  obtain ⟨v2, r2, rfl, g2, gr2⟩ := gr1.inv
  obtain ⟨v3, r3, rfl, g3, gr3⟩ := gr2.inv
  cases gr3.inv0
  cases g0.str_inv
  exact ⟨a, _, _, _, rfl, ha, g1, g2, g3⟩
theorem St.inv_call {k : Nat} {ts : List Th} (h : Rp K H v (St.call k ts).enc) : ∃ a x, v = .ref a ∧ SqT K H a [.str "call", .int (k : Int), x] ∧ Rp K H x (.tuple (ts.map Th.enc)) := by
  obtain ⟨a, xs, rfl, ha, hx⟩ := h.tup_inv
  obtain ⟨v0, r0, rfl, g0, gr⟩ := hx.inv
  obtain ⟨v1, r1, rfl, g1, gr1⟩ := gr.inv
  obtain ⟨v2, r2, rfl, g2, gr2⟩ := gr1.inv
  cases gr2.inv0
  cases g0.str_inv
  cases g1.int_inv
  exact ⟨a, _, rfl, ha, g2⟩
theorem Wk.inv {k : Wk} (h : Rp K H v k.enc) : ∃ a x, v = .ref a ∧ SqT K H a [.int (k.params : Int), .int (k.owns : Int), x] ∧ Rp K H x (.tuple k.body.encs) := by
  obtain ⟨a, xs, rfl, ha, hx⟩ := h.tup_inv
  obtain ⟨v0, r0, rfl, g0, gr⟩ := hx.inv
  obtain ⟨v1, r1, rfl, g1, gr1⟩ := gr.inv
  obtain ⟨v2, r2, rfl, g2, gr2⟩ := gr1.inv
  cases gr2.inv0
  cases g0.int_inv
  cases g1.int_inv
  exact ⟨a, _, rfl, ha, g2⟩
end
noncomputable def Sts.drop : Nat → Sts → Sts
  | 0, b => b
  | _ + 1, .nil => .nil
  | n + 1, .cons _ r => r.drop n
theorem Sts.drop_get : ∀ {i : Nat} {b : Sts} {d : PyData}, b.encs[i]? = some d → ∃ st, d = st.enc ∧ b.drop i = .cons st (b.drop (i + 1))
  | _, .nil, _, e => by simp [Sts.encs] at e
  | 0, .cons s r, d, e => by
    have e' : (s.enc :: r.encs)[0]? = some d := e
    simp at e'
    refine ⟨s, e'.symm, ?_⟩
    show Sts.cons s r = .cons s ((Sts.cons s r).drop 1)
    congr 1
  | i + 1, .cons s r, d, e => by
    have e' : (s.enc :: r.encs)[i + 1]? = some d := e
    simp at e'
    obtain ⟨st, e1, e2⟩ := Sts.drop_get e'
    exact ⟨st, e1, e2⟩
end
noncomputable def Th.dep : Th → Nat
  | .num _ => 0
  | .own _ => 0
  | .par _ => 0
  | .cell t => t.dep + 1
  | .sum a b => max a.dep b.dep + 1
theorem Th.ok_dep {p o : Nat} : ∀ {t : Th} {d : Nat}, Th.ok p o d t → t.dep ≤ d
  | .num _, d, _ => Nat.zero_le _
  | .own _, d, _ => Nat.zero_le _
  | .par _, d, _ => Nat.zero_le _
  | .cell t, 0, h => h.elim
  | .cell t, d + 1, h => by
    have := Th.ok_dep (t := t) (d := d) h
    show t.dep + 1 ≤ d + 1
    omega
  | .sum a b, 0, h => h.elim
  | .sum a b, d + 1, h => by
    have := Th.ok_dep (t := a) (d := d) h.1
    have := Th.ok_dep (t := b) (d := d) h.2
    show max a.dep b.dep + 1 ≤ d + 1
    omega
mutual
noncomputable def St.thin : St → Prop
  | .set _ _ => True
  | .say _ => True
  | .ite _ a b => a.thin ∧ b.thin
  | .call _ ts => ∀ t ∈ ts, t.dep ≤ 3
noncomputable def Sts.thin : Sts → Prop
  | .nil => True
  | .cons s r => s.thin ∧ r.thin
end
noncomputable def St.okD (sh : List (Nat × Nat)) (i d : Nat) (s : St) : Prop := St.ok sh i d s ∧ s.thin
noncomputable def Sts.okD (sh : List (Nat × Nat)) (i d : Nat) (b : Sts) : Prop := Sts.ok sh i d b ∧ b.thin
theorem Sts.thin_app : ∀ {a b : Sts}, a.thin → b.thin → (a.app b).thin
  | .nil, b, _, g => g
  | .cons s r, b, h, g => by
    unfold Sts.thin at h
    show (Sts.cons s (r.app b)).thin
    unfold Sts.thin
    exact ⟨h.1, Sts.thin_app h.2 g⟩
theorem Sts.thin_take : ∀ (n : Nat) {a : Sts}, a.thin → (a.take n).thin
  | 0, _, _ => by unfold Sts.take Sts.thin; trivial
  | _ + 1, .nil, _ => by unfold Sts.take Sts.thin; trivial
  | n + 1, .cons s r, h => by
    unfold Sts.thin at h
    show (Sts.cons s (r.take n)).thin
    unfold Sts.thin
    exact ⟨h.1, Sts.thin_take n h.2⟩
theorem Sts.okD_nil {sh : List (Nat × Nat)} {i d : Nat} : Sts.okD sh i d .nil := ⟨by unfold Sts.ok; trivial, by unfold Sts.thin; trivial⟩
theorem Sts.okD_one {sh : List (Nat × Nat)} {i d : Nat} {s : St} (h : St.okD sh i d s) : Sts.okD sh i d (.cons s .nil) := ⟨by unfold Sts.ok; exact ⟨h.1, by unfold Sts.ok; trivial⟩, by unfold Sts.thin; exact ⟨h.2, by unfold Sts.thin; trivial⟩⟩
theorem Sts.okD_app {sh : List (Nat × Nat)} {i d : Nat} {a b : Sts} (h : Sts.okD sh i d a) (g : Sts.okD sh i d b) : Sts.okD sh i d (a.app b) := ⟨Sts.ok_app h.1 g.1, Sts.thin_app h.2 g.2⟩
theorem Sts.okD_take {sh : List (Nat × Nat)} {i d : Nat} (n : Nat) {a : Sts} (h : Sts.okD sh i d a) : Sts.okD sh i d (a.take n) := ⟨Sts.ok_take n h.1, Sts.thin_take n h.2⟩
structure Drawn (P : List Wk) (steps : Nat) : Prop extends Good P steps where
  thin : ∀ w ∈ P, w.body.thin
  tight : ∀ w ∈ P, w.owns ≤ 10
end Hw
namespace Hw
open PySem PySem.Spec PyProof.Rows L2
mutual
inductive Fr where
  | mk (owns : List Nat) (hs : Hds)
inductive Hd where
  | road (p : Nat) (ws : List Nat) | want (t : Th) (f : Fr)
inductive Hds where
  | nil | cons (h : Hd) (r : Hds)
end
noncomputable def Hds.get : Hds → Nat → Option Hd
  | .nil, _ => none
  | .cons h _, 0 => some h
  | .cons _ r, n + 1 => r.get n
noncomputable def Hds.of : List (Hd × Option Nat) → Hds
  | [] => .nil
  | (h, _) :: r => .cons h (Hds.of r)
/-- the number of a thing: at, the numbers by place; so much fuel -/
noncomputable def numF (at_ : List Nat) : Nat → Fr → Th → Option Nat
  | 0, _, _ => none
  | _ + 1, _, .num k => some k
  | n + 1, f, .sum a b => (numF at_ n f a).bind fun x => (numF at_ n f b).bind fun y => some ((x + y) % 3)
  | n + 1, f, .cell t => (numF at_ n f t).bind fun x => at_[x]?
  | _ + 1, .mk os _, .own k => os[k]?.bind fun p => at_[p]?
  | n + 1, .mk _ hs, .par k => match hs.get k with
    | some (.road p _) => at_[p]?
    | some (.want t f) => numF at_ n f t
    | none => none
/-- the place that a thing is (none: it is none), and the lent things on the road -/
noncomputable def roadF (at_ : List Nat) : Nat → Fr → Th → Option (Option (Nat × List Nat))
  | 0, _, _ => none
  | _ + 1, _, .num _ => some none
  | _ + 1, _, .sum _ _ => some none
  | n + 1, f, .cell t => (numF at_ n f t).map fun x => some (x, [])
  | _ + 1, .mk os _, .own k => os[k]?.map fun p => some (p, [])
  | n + 1, .mk _ hs, .par k => match hs.get k with
    | some (.road p ws) => some (some (p, ws))
    | some (.want t f) => roadF at_ n f t
    | none => none
structure LS where
  at_ : List Nat
  said : List Nat
  lent : List (Nat × Nat)
  many : Nat
  mixed : Bool
noncomputable def iter (g : LS → St → Option LS) : Sts → LS → Option LS
  | .nil, S => some S
  | .cons s r, S => (g S s).bind (iter g r)
end Hw
namespace Hw
open PySem PySem.Spec PyProof.Rows L2
mutual
noncomputable def Fr.wsLe (m : Nat) : Fr → Prop
  | .mk _ hs => hs.wsLe m
noncomputable def Hd.wsLe (m : Nat) : Hd → Prop
  | .road _ ws => ws.length ≤ m
  | .want _ f => f.wsLe m
noncomputable def Hds.wsLe (m : Nat) : Hds → Prop
  | .nil => True
  | .cons h r => h.wsLe m ∧ r.wsLe m
end
mutual
theorem Fr.wsLe.mono {m n : Nat} (l : m ≤ n) : ∀ {f : Fr}, f.wsLe m → f.wsLe n
  | .mk _ hs, h => by
    unfold Fr.wsLe at h ⊢
    exact Hds.wsLe.mono l h
theorem Hd.wsLe.mono {m n : Nat} (l : m ≤ n) : ∀ {d : Hd}, d.wsLe m → d.wsLe n
  | .road _ ws, h => by
    unfold Hd.wsLe at h ⊢
    exact Nat.le_trans h l
  | .want _ f, h => by
    unfold Hd.wsLe at h ⊢
    exact Fr.wsLe.mono l h
theorem Hds.wsLe.mono {m n : Nat} (l : m ≤ n) : ∀ {hs : Hds}, hs.wsLe m → hs.wsLe n
  | .nil, h => by unfold Hds.wsLe; trivial
  | .cons d r, h => by
    unfold Hds.wsLe at h ⊢
    exact ⟨Hd.wsLe.mono l h.1, Hds.wsLe.mono l h.2⟩
end
theorem Hds.wsLe.get {m : Nat} : ∀ {hs : Hds} {i : Nat} {d : Hd}, hs.wsLe m → hs.get i = some d → d.wsLe m
  | .nil, _, _, _, e => by unfold Hds.get at e; cases e
  | .cons d r, 0, d', h, e => by
    unfold Hds.wsLe at h
    unfold Hds.get at e
    cases e
    exact h.1
  | .cons d r, i + 1, d', h, e => by
    unfold Hds.wsLe at h
    unfold Hds.get at e
    exact Hds.wsLe.get h.2 e
structure Le (S S' : LS) : Prop where
  a : S.at_.length ≤ S'.at_.length
  s : S.said.length ≤ S'.said.length
  m : S.many ≤ S'.many
  l : S.lent.length ≤ S.many → S'.lent.length ≤ S'.many
theorem Le.refl {S : LS} : Le S S := ⟨Nat.le_refl _, Nat.le_refl _, Nat.le_refl _, id⟩
theorem Le.trans {S S1 S2 : LS} (x : Le S S1) (y : Le S1 S2) : Le S S2 := ⟨Nat.le_trans x.a y.a, Nat.le_trans x.s y.s, Nat.le_trans x.m y.m, fun h => y.l (x.l h)⟩
end Hw
namespace Hw
open PySem PySem.Spec PyProof.Rows L2
section
variable {K : PySem.W.Frag}
noncomputable def encW (W : List (List Str)) : PyData := .tuple (W.map fun ws => .tuple (ws.map PyData.str))
noncomputable def WaysOk (P : List Wk) (W : List (List Str)) (opts : List Str) : Prop := W.length = P.length ∧ ∀ (i : Nat) (w : Wk) (ws : List Str), P[i]? = some w → W[i]? = some ws → ws.length = w.params ∧ ∀ x ∈ ws, x ∈ opts
noncomputable def fourWays : List Str := ["copy", "place", "back", "want"]
noncomputable def ways4 : List Str := ["copy", "place", "back", "want"]
structure Run (K : PySem.W.Frag) (H : Hp) (P : List Wk) (W : List (List Str)) (vp vw : V) : Prop where
  p : Rp K H vp (encP P)
  w : Rp K H vw (encW W)
  o : ∀ w ∈ P, w.owns ≤ 1000
  k : ∀ ws ∈ W, ∀ x ∈ ws, x ∈ fourWays
  l : ∀ ws ∈ W, ws.length ≤ 1000
theorem Run.ts {H H1 : Hp} {P : List Wk} {W : List (List Str)} {vp vw : V} (r : Run K H P W vp vw) (t : Tst H H1) : Run K H1 P W vp vw := ⟨r.p.ts t, r.w.ts t, r.o, r.k, r.l⟩
end
end Hw
namespace Hw
open PySem PySem.Spec PyProof.Rows L2
noncomputable def rEqS (K : PySem.W.Frag) : R2 := fun x y H Q => rEqD K x y H Q ∨ ∃ (a : Addr) (xs : List V) (z : Str), x = .ref a ∧ y = .str z ∧ SqT K H a xs ∧ Q (.bl false) H
theorem opEqS {X : Cx} {K : PySem.W.Frag} (hu : X.A.units + 64 < cLine) (h : X.K = K := by rfl) : OpR X (compareOp .Eq) (rEqS K) := by
  subst h
  intro pins s σ H x y v u Q I rx ry h
  rcases h with h | ⟨a, xs, z, rfl, rfl, hT, q⟩
  · exact op_eqD hu pins s σ H x y v u Q I rx ry h
  · cases (show v = Value.ref a from rx)
    obtain ⟨t, rfl⟩ := ry
    obtain ⟨its, rv, p, _⟩ := I.tuple hT
    exact SeqAt.RcAt.tuple_str z t p (by omega) _ _ _ _ ⟨.bl false, H, I, rfl, q⟩
end Hw
namespace Hw
open PySem PySem.Spec PyProof.Rows L2
theorem meets_enum1 {v : Value} {o : Obj} {H : Heap → Prop} (B : Begins v o H) :
    Meets (Builtin.«enumerate.__new__» ⟨[.type "enumerate", v], []⟩) (fun _ R s => H s.heap ∧
      R (.ok (.ret (.ref (s.heap.push o).objs.size))) { s with heap := (s.heap.push o).push { cls := .type "enumerate", data := .fields #[.none, .bool false, .ref s.heap.objs.size, rawInt 0, .none, .none] } }) :=
  .of_wp fun prog w A R s h => by
    obtain ⟨hp, g, d, tk, os⟩ := s; obtain ⟨h1, h⟩ := h
    have hsub := sub_enumerate
    have q1 : ∀ {A' : Around} {E : Value → Shared → Prop} {Q : Value → Shared → Prop}, Q (.ref hp.objs.size) ⟨hp.push o, g, d, tk, os⟩ → wpAny (model prog w) A' (pyIter v) Q E ⟨hp, g, d, tk, os⟩ :=
      fun q => B.iter prog w _ _ ⟨hp, g, d, tk, os⟩ _ h1 q
    wp_walk using q1
    refine wpAny_stack_any fun st => wpAny_pure ?_
    split
    · rename_i c _ _ _ _ _
      cases (c == Value.type "enumerate")
      · wp_walk using q1
        exact ⟨_, rfl, h⟩
      · wp_walk using q1
        exact ⟨_, rfl, h⟩
    · wp_walk using q1
      exact ⟨_, rfl, h⟩
section
variable {prog : Program} {w : World} {A : Around} {E : Value → Shared → Prop} {s : Shared}
theorem enum_tuple {t : Addr} {items : Array Value} {Q : Value → Shared → Prop} (h1 : s.heap.IsTuple t items)
    (h : ∀ h', IsEnum h' (s.heap.objs.size + 1) s.heap.objs.size 0 .none → h'.IsTupleIter s.heap.objs.size t 0 → h'.objs.size = s.heap.objs.size + 2 →
      (∀ b o, s.heap.get? b = some o → h'.get? b = some o) → Q (.ref (s.heap.objs.size + 1)) { s with heap := h' }) :
    wpAny (model prog w) A (call (.type "enumerate") [.ref t]) Q E s := by
  have B := begins_tuple t items
  refine callType_new F.called_enumerate (by decide) (F.typeCall_enumerate_1 _) (F.newCall_enumerate_1 _) (fun obj => F.args_object_init_2 obj _) F.entry_enumerate_new (meets_enum1 B) ⟨h1, ?_⟩
  have hz : (s.heap.push { cls := .type "tuple_iterator", data := .fields #[.ref t, .int 0 0] }).objs.size = s.heap.objs.size + 1 := Heap.size_push ..
  show _ ∧ _
  rw [hz]
  have he : IsEnum ((s.heap.push { cls := .type "tuple_iterator", data := .fields #[.ref t, .int 0 0] }).push { cls := .type "enumerate", data := .fields #[.none, .bool false, .ref s.heap.objs.size, rawInt 0, .none, .none] }) (s.heap.objs.size + 1) s.heap.objs.size 0 .none := by
    have := Heap.get?_push_size (s.heap.push { cls := .type "tuple_iterator", data := .fields #[.ref t, .int 0 0] }) (o := { cls := .type "enumerate", data := .fields #[.none, .bool false, .ref s.heap.objs.size, rawInt 0, .none, .none] }) rfl
    rw [hz] at this; exact this
  refine ⟨⟨_, he, rfl⟩, h _ he ⟨_, Heap.get?_push_of_some _ (Heap.get?_push_size _ rfl), rfl, rfl⟩ (by rw [Heap.size_push, hz]) fun b o x => Heap.get?_push_of_some _ (Heap.get?_push_of_some _ x)⟩
end
/-- the tuple at a as it stands at each turn, each item in a new pair -/
noncomputable def IteT (K : PySem.W.Frag) (a : Addr) : It :=
  ⟨fun i H => ∃ (xs : List V) (x : V), SqT K H a xs ∧ xs[i]? = some x, fun i H v H' => ∃ T x, v = .ref T ∧ H T = none ∧ H' = upd H T (.tup [.int (i : Nat), x]) ∧ ∀ xs, SqT K H a xs → xs[i]? = some x, fun i H => ∃ xs : List V, SqT K H a xs ∧ xs.length = i⟩
theorem turn_enumT {P : Program} {w : World} {K : PySem.W.Frag} {elts : List Expr} {kk : Nat} {tpos : Pos} (a e it : Addr) :
    Turn P w K (.Tuple elts kk tpos) (IteT K a) [e, it] e (fun i h => (∃ old, IsEnum h e it ((i : Nat) : Int) old) ∧ h.IsTupleIter it a i ∧ e ≠ it ∧ e ≠ a ∧ a ≠ it) where
  mem := by simp
  obj := fun i h st b hb => by
    obtain ⟨⟨old, he⟩, ⟨o, ho, hc, hd⟩, _⟩ := st
    have e' : b = e ∨ b = it := by simpa using hb
    rcases e' with z | z
    · rw [z]; exact ⟨_, he, fun v q => nomatch q⟩
    · rw [z]; exact ⟨o, ho, fun v q => by rw [hd] at q; cases q⟩
  keep := fun i h h' st k => let ⟨⟨old, he⟩, hi, hne⟩ := st; ⟨⟨old, k e (by simp) _ he⟩, hi.at fun o q => k it (by simp) o q, hne⟩
  item := by
    intro X hP hw hK hc i pins s σ H E I hf st hg
    subst hP hw hK
    obtain ⟨⟨old, he⟩, hit, hne, hea, hai⟩ := st
    obtain ⟨xs, x, hq, hx⟩ := hg
    obtain ⟨its, rv, p, hz⟩ := I.tuple hq
    obtain ⟨u, hu, ru⟩ := rv.get hx
    have hel : e < s.heap.objs.size := Heap.lt_size he
    have hil : it < s.heap.objs.size := by obtain ⟨_, q, _⟩ := hit; exact Heap.lt_size q
    have hlt : i < its.length := (List.getElem?_eq_some_iff.mp hu).1
    have D := Draws.tuple (prog := X.prog) (w := X.w) (A := X.A.in1) (show X.A.in1.handled = none from I.ok.hd hc) it a hai its.toArray
    refine wpAny_pyNext_enum_itemD D he ⟨hit, p⟩ (by simpa using hlt) hne (by simp [hne, hea]) fun u' h' tk hu' ho hst hT hsz hk => ?_
    have eu : u' = u := by
      have q : its[i]? = some u' := by simpa using hu'
      rw [hu] at q
      exact (Option.some.inj q).symm
    subst eu
    refine ⟨_, rfl, wpAny_letOwnedTupleGo_enum (s := { s with heap := h', toks := tk + 1 }) ho fun h'' he' sb => ?_⟩
    have hT2 : h''.get? s.heap.objs.size = some { cls := .type "tuple", data := .seq #[.int i tk, u'] } := (sb.2 _ (Nat.ne_of_gt hel)).trans hT
    have new : ObjOk X.prog X.w (upd H s.heap.objs.size (.tup [.int (i : Nat), x])) h'' s.heap.objs.size (.tup [.int (i : Nat), x]) :=
      ⟨by show 2 ≤ sizeLine; decide, [.int i tk, u'], .cons ⟨_, rfl⟩ (.cons ru .nil), ⟨_, hT2, rfl, _, rfl⟩⟩
    have I1 : Inv X pins σ (upd H s.heap.objs.size (.tup [.int (i : Nat), x])) { s with heap := h'', toks := tk + 1 } :=
      I.turnedNew (ch := [e, it]) (fun b ob hb q => (sb.2 b (fun z => hb (by simp [z]))).trans (hk b ob (fun z => hb (by simp [z])) (fun z => hb (by simp [z])) q)) hf (Nat.le_refl _) new
    refine ⟨.ref s.heap.objs.size, _, I1, rfl, ⟨_, x, rfl, I.hok.fresh (Nat.le_refl _), rfl, fun ys hy => by rw [I.tuple_inj hy hq]; exact hx⟩, ⟨⟨u', ?_⟩, hst.1.at fun o q => (sb.2 it (Ne.symm hne)).trans q, hne, hea, hai⟩, fun b hb => ?_⟩
    · have e1 : ((i + 1 : Nat) : Int) = (i : Int) + 1 := by omega
      rw [e1]; exact he'
    · have hb' : b < s.heap.objs.size := by
        have e' : b = e ∨ b = it := by simpa using hb
        rcases e' with z | z
        · rw [z]; exact hel
        · rw [z]; exact hil
      rw [upd_ne (Nat.ne_of_lt hb')]
      exact (hf b hb).1
  done := by
    intro X hP hw hK hc i pins s σ H E I hf st hg
    subst hP hw hK
    obtain ⟨⟨old, he⟩, hit, hne, hea, hai⟩ := st
    obtain ⟨xs, hq, hx⟩ := hg
    obtain ⟨its, rv, p, hz⟩ := I.tuple hq
    obtain ⟨f0, f1, f2, f3, f4, f5⟩ := hf it (by simp)
    have hl := rv.length
    have D := Draws.tuple (prog := X.prog) (w := X.w) (A := X.A.in1) (show X.A.in1.handled = none from I.ok.hd hc) it a hai its.toArray
    have ei : i = its.toArray.size := by simp; omega
    exact wpAny_pyNext_enum_endD D he ⟨by rw [← ei]; exact hit, p⟩ fun h' eb => ⟨rfl, I.turned (t' := s.toks) (fun b o hb q => eb b o hb q) f0 f1 f3 f4 f5⟩
  self := fun A i s Q E st h => let ⟨⟨_, he⟩, _⟩ := st; wpAny_pyIter_enum he h
noncomputable def iEnumT (K : PySem.W.Frag) (ta : TA) : TI := fun σ H R => ta σ H fun vs H1 => ∃ a xs, vs = [.ref a] ∧ SqT K H1 a xs ∧ R (IteT K a) H1
theorem pi_enumT0 {X : Cx} {e : Expr} {ta : TA} {p pos tpos : Pos} {elts : List Expr} {kk : Nat} (hg : Gl X "enumerate") (hm : X.mg "enumerate" = none) (ha : PA X [e] ta) (hs : starEach [e] X.env = [(false, eval e X.env)] := by rfl) :
    PI X (.Tuple elts kk tpos) (.Call (.Name "enumerate" p) [e] [] pos) (iEnumT X.K ta) := by
  refine ⟨fun pins s σ H R I h => ?_⟩
  refine Call_ (ld_blt I hg hm boot_enumerate (PyProof.Rows.callWith_type1 (thn (ha.run pos pins s σ H _ I h) fun us s1 ⟨vs, H1, I1, r1, q1⟩ => ?_) hs rfl))
  obtain ⟨a, xs, ex, hq, q⟩ := q1
  subst ex
  cases r1 with
  | cons r rr =>
    cases rr
    cases r
    obtain ⟨its, rv, p', hz⟩ := I1.tuple hq
    refine enum_tuple p' fun h' he hit hsz hk => wpAny_pyIter_enum he ?_
    have I2 : Inv X pins σ H1 { s1 with heap := h' } := I1.kept (t' := s1.toks) hk
    have hal : a < s1.heap.objs.size := by obtain ⟨o, ho, _⟩ := p'; exact Heap.lt_size ho
    refine ⟨s1.heap.objs.size + 1, [s1.heap.objs.size + 1, s1.heap.objs.size], _, _, H1, rfl, I2, turn_enumT a (s1.heap.objs.size + 1) s1.heap.objs.size, ⟨⟨.none, he⟩, hit, Nat.succ_ne_self _, Nat.ne_of_gt (Nat.lt_succ_of_lt hal), Nat.ne_of_lt hal⟩, fun b hb => ?_, q⟩
    have e' : b = s1.heap.objs.size + 1 ∨ b = s1.heap.objs.size := by simpa using hb
    have hle : s1.heap.objs.size ≤ b := by
      rcases e' with z | z
      · rw [z]; exact Nat.le_add_right _ _
      · rw [z]; exact Nat.le_refl _
    exact I1.fpOk hle (I1.hok.fresh hle)
theorem pi_enumT {X : Cx} {K : PySem.W.Frag} {e : Expr} {ta : TA} {p pos tpos : Pos} {elts : List Expr} {kk : Nat} (hg : Gl X "enumerate") (hm : X.mg "enumerate" = none) (ha : PA X [e] ta) (h : X.K = K := by rfl) (hs : starEach [e] X.env = [(false, eval e X.env)] := by rfl) :
    PI X (.Tuple elts kk tpos) (.Call (.Name "enumerate" p) [e] [] pos) (iEnumT K ta) := h ▸ pi_enumT0 hg hm ha hs
end Hw
namespace Hw
open PySem PySem.Spec PyProof.Rows L2
/-- what a place is lent by -/
noncomputable def lentOf (lent : List (Nat × Nat)) (p : Nat) : List Nat := lent.filterMap fun q => if q.1 = p then some q.2 else none
noncomputable def Th.lit : Th → Prop
  | .num k => k < 3
  | .sum a b => a.lit ∧ b.lit
  | .cell t => t.lit
  | .own _ => True
  | .par _ => True
mutual
noncomputable def Fr.lit : Fr → Prop
  | .mk _ hs => hs.lit
noncomputable def Hd.lit : Hd → Prop
  | .road _ _ => True
  | .want t f => t.lit ∧ f.lit
noncomputable def Hds.lit : Hds → Prop
  | .nil => True
  | .cons h r => h.lit ∧ r.lit
end
theorem Hds.lit.get : ∀ {hs : Hds} {i : Nat} {d : Hd}, hs.lit → hs.get i = some d → d.lit
  | .nil, _, _, _, e => by unfold Hds.get at e; cases e
  | .cons d r, 0, d', h, e => by
    unfold Hds.lit at h
    unfold Hds.get at e
    cases e
    exact h.1
  | .cons d r, i + 1, d', h, e => by
    unfold Hds.lit at h
    unfold Hds.get at e
    exact Hds.lit.get h.2 e
noncomputable def Low (a : List Nat) : Prop := ∀ x ∈ a, x < 3
theorem Low.get {a : List Nat} {i x : Nat} (l : Low a) (e : a[i]? = some x) : x < 3 := l x (List.mem_of_getElem? e)
theorem Low.app {a b : List Nat} (l : Low a) (k : Low b) : Low (a ++ b) := fun x hx => (List.mem_append.mp hx).elim (l x) (k x)
theorem Low.one {v : Nat} (h : v < 3) : Low [v] := fun x hx => by cases List.mem_singleton.mp hx; exact h
theorem Low.set {a : List Nat} {i v : Nat} (l : Low a) (h : v < 3) : Low (a.set i v) := fun x hx => by
  rcases List.mem_or_eq_of_mem_set hx with hx | hx
  · exact l x hx
  · rw [hx]; exact h
end Hw
namespace Hw
open PySem PySem.Spec PyProof.Rows L2
/-- the list at a, the tuple at b, the list at c as they stand at each turn, the items in new triples -/
noncomputable def Itz3 (K : PySem.W.Frag) (a b c : Addr) : It :=
  ⟨fun i H => ∃ (xs ys zs : List V) (x y z : V), SqL K H a xs ∧ SqT K H b ys ∧ SqL K H c zs ∧ xs[i]? = some x ∧ ys[i]? = some y ∧ zs[i]? = some z,
    fun i H v H' => ∃ T x y z, v = .ref T ∧ H T = none ∧ H' = upd H T (.tup [x, y, z]) ∧ (∀ xs, SqL K H a xs → xs[i]? = some x) ∧ (∀ ys, SqT K H b ys → ys[i]? = some y) ∧ ∀ zs, SqL K H c zs → zs[i]? = some z,
    fun i H => ∃ xs ys zs : List V, SqL K H a xs ∧ SqT K H b ys ∧ SqL K H c zs ∧ xs.length = i ∧ ys.length = i ∧ zs.length = i⟩
noncomputable def iZip3 (K : PySem.W.Frag) (ta : TA) : TI := fun σ H R => ta σ H fun vs H1 => ∃ a b c xs ys zs, vs = [.ref a, .ref b, .ref c] ∧ SqL K H1 a xs ∧ SqT K H1 b ys ∧ SqL K H1 c zs ∧ R (Itz3 K a b c) H1
end Hw
namespace Hw
open PySem PySem.Spec PyProof.Rows L2
section
variable {K : PySem.W.Frag} {σ : L2.St} {H : Hp} {Q : VK} {QT : Bool → Hp → Prop} {ta tb tc te : TE} {t u : TT} {x y z v : V} {D : Ends} {ts tu : TS} {tl : TA}
noncomputable def OverE (K : PySem.W.Frag) (vs : List V) (H : Hp) (R : Addr → Prop) : Prop := ∃ a xs, vs = [.ref a] ∧ SqT K H a xs ∧ R a
theorem r_enumT {R : It → Hp → Prop} (h : tl σ H fun vs H1 => OverE K vs H1 fun a => R (IteT K a) H1) : iEnumT K tl σ H R := h
theorem r_overE {a : Addr} {xs : List V} {R : Addr → Prop} (h : SqT K H a xs) (q : R a) : OverE K [.ref a] H R := ⟨a, xs, rfl, h, q⟩
noncomputable def ZipA (K : PySem.W.Frag) (R : It → Hp → Prop) (vs : List V) (H1 : Hp) : Prop := ∃ a b xs ys, vs = [.ref a, .ref b] ∧ ((SqL K H1 a xs ∧ SqL K H1 b ys ∧ R (Itz K a b) H1) ∨ (SqT K H1 a xs ∧ SqT K H1 b ys ∧ R (RZ.ItzT K a b) H1))
theorem r_zipA {R : It → Hp → Prop} (h : tl σ H fun vs H1 => ZipA K R vs H1) : RZ.iZipA K tl σ H R := h
theorem r_zipT {R : It → Hp → Prop} {a b : Addr} {xs ys : List V} (h : SqT K H a xs) (h2 : SqT K H b ys) (q : R (RZ.ItzT K a b) H) : ZipA K R [.ref a, .ref b] H := ⟨a, b, xs, ys, rfl, .inr ⟨h, h2, q⟩⟩
noncomputable def OverZ3 (K : PySem.W.Frag) (vs : List V) (H : Hp) (R : Addr → Addr → Addr → Prop) : Prop := ∃ a b c xs ys zs, vs = [.ref a, .ref b, .ref c] ∧ SqL K H a xs ∧ SqT K H b ys ∧ SqL K H c zs ∧ R a b c
theorem r_zip3 {R : It → Hp → Prop} (h : tl σ H fun vs H1 => OverZ3 K vs H1 fun a b c => R (Itz3 K a b c) H1) : iZip3 K tl σ H R := h
theorem r_overZ3 {a b c : Addr} {xs ys zs : List V} {R : Addr → Addr → Addr → Prop} (h : SqL K H a xs) (h2 : SqT K H b ys) (h3 : SqL K H c zs) (q : R a b c) : OverZ3 K [.ref a, .ref b, .ref c] H R := ⟨a, b, c, xs, ys, zs, rfl, h, h2, h3, q⟩
theorem forE {a : Addr} {xs : List V} {g : TG} (Pv : Nat → L2.St → Hp → Prop) (h0 : Pv 0 σ H) (hG : ∀ i σ H, i ≤ xs.length → Pv i σ H → SqT K H a xs)
    (hs : ∀ i x T σ H H1, xs[i]? = some x → Pv i σ H → H T = none → H1 T = some (.tup [.int (i : Int), x]) → Keep [] H H1 → g (.ref T) σ H1 fun σ2 H2 => ts { D with nx := Pv (i + 1), ct := Pv (i + 1), bk := D.nx } σ2 H2)
    (hd : ∀ σ H, Pv xs.length σ H → D.nx σ H) : ForIt (IteT K a) g ts D σ H := by
  refine ⟨fun i m σ H => m = xs.length - i ∧ i ≤ xs.length ∧ Pv i σ H, ⟨xs.length, rfl, Nat.zero_le _, h0⟩, ?_⟩
  rintro i m σ H ⟨rfl, hi, p⟩
  have qx := hG i σ H hi p
  by_cases hlt : i < xs.length
  · have hx : xs[i]? = some xs[i] := List.getElem?_eq_getElem hlt
    refine .inr ⟨⟨xs, _, qx, hx⟩, Pv (i + 1), fun σ' H' p' => ⟨xs.length - (i + 1), by omega, rfl, hlt, p'⟩, fun v H' y => ?_⟩
    obtain ⟨T, x', rfl, hT, rfl, f1⟩ := y
    exact hs i x' T σ H _ (f1 xs qx) p hT upd_same (Keep.new hT)
  · have e : i = xs.length := by omega
    subst e
    exact .inl ⟨⟨xs, qx, rfl⟩, hd σ H p⟩
theorem forZT {a b : Addr} {xs ys : List V} {g : TG} (hl : xs.length = ys.length) (Pv : Nat → L2.St → Hp → Prop) (h0 : Pv 0 σ H) (hG : ∀ i σ H, Pv i σ H → SqT K H a xs ∧ SqT K H b ys)
    (hs : ∀ i x y T σ H H1, xs[i]? = some x → ys[i]? = some y → Pv i σ H → H T = none → H1 T = some (.tup [x, y]) → Keep [] H H1 → g (.ref T) σ H1 fun σ2 H2 => ts { D with nx := Pv (i + 1), ct := Pv (i + 1), bk := D.nx } σ2 H2)
    (hd : ∀ σ H, Pv xs.length σ H → D.nx σ H) : ForIt (RZ.ItzT K a b) g ts D σ H :=
  RZ.for_zipT hl Pv h0 hG (fun i x y T σ H hx hy p hT => hs i x y T σ H _ hx hy p hT upd_same (Keep.new hT)) hd
/-- an own class that is made: what its __init__ promises of the new object -/
structure Maker (P : Program) (w : World) (K : PySem.W.Frag) (mg : Str → Option Value) (base : Heap) (x : Str) (C : Addr) (k : Nat) (ps : List Str) (sp : Sp) : Prop where
  ex : ∃ (f : Addr) (fd : FuncData), L2.Mk K C f ∧ FnOk P w K mg base CX0 k f fd ps sp ∧ mg x = some (.ref C) ∧ Binds K fd ps []
/-- a class, as it stands -/
structure ClassAt (K : PySem.W.Frag) (mg : Str → Option Value) (x qual : Str) (C : Addr) (st : Stmt) (ps : List Str) : Prop where
  ex : ∃ (f : Addr) (fd : FuncData), L2.Mk K C f ∧ Fun K "__init__" qual st f fd ∧ mg x = some (.ref C) ∧ Binds K fd ps []
theorem ClassAt.ok {P : Program} {w : World} {mg : Str → Option Value} {base : Heap} {x qual : Str} {C : Addr} {st : Stmt} {N ps : List Str} {k : Nat} {sp : Sp} (D : ClassAt K mg x qual C st ps) (S : FnScope N ps (defScope st)) (len : ∀ vs H Q E, sp vs H Q E → vs.length = ps.length)
    (hbody : ∀ (f : Addr) (cdv : Value) (A : Around) (outer : List Env) (s : Shared) (H : Hp) (vs : List V) (Q : VK) (E : XK), Room k (A.deeper (envOfC qual (defScope st) s.heap.objs.size f cdv)) → sp vs H Q E →
      ∃ t, PSs (cxOf CX0 P w K mg base N qual (defScope st) f cdv A outer s H E).nox (defBody st) t ∧ t { nx := fun _ H' => Q .non H', rt := Q } (start N vs) H) : Maker P w K mg base x C (k + 1) ps sp := by
  obtain ⟨f, fd, M, F, m, b⟩ := D.ex
  exact ⟨f, fd, M, F.ok S len fun cdv A outer s H vs Q E hr h => hbody f cdv A outer s H vs Q E hr h, m, b⟩
/-- the new object is handed to its __init__ -/
noncomputable def Made (C : Addr) (sp : Sp) (vs : List V) (H : Hp) (Q : VK) : Prop := ∀ x dx, H x = none → H dx = none → dx ≠ x → sp (.ref x :: (vs ++ [])) (upd (upd H dx (.own x)) x (.ins C dx [])) (fun v H2 => v = .non ∧ Q (.ref x) H2) E0
theorem r_make {C : Addr} {sp : Sp} (h : tl σ H fun vs H1 => Made C sp vs H1 Q) : tMake C sp [] E0 tl σ H Q := h
theorem made {C : Addr} {sp : Sp} {vs : List V} (h : ∀ x dx H1, H x = none → H dx = none → dx ≠ x → H1 x = some (.ins C dx []) → (∃ o, H1 dx = some (.own o)) → Keep [] H H1 → sp (.ref x :: vs) H1 (fun v H2 => v = .non ∧ Q (.ref x) H2) E0) : Made C sp vs H Q := fun x dx hx hd n => by
  rw [List.append_nil]
  refine h x dx _ hx hd n upd_same ⟨x, by rw [upd_ne n]; exact upd_same⟩ fun a o e _ => ?_
  rw [upd_ne (ne_of_none e hx), upd_ne (ne_of_none e hd)]
  exact e
/-- what isinstance asks of the class of the instance -/
structure TyC (K : PySem.W.Frag) (C : Addr) : Prop where
  cl : Cls K C
  ha : PySem.W.findIn K (.ref C) "__class__" = some (some (.builtin "object.__class__"))
  hn : PySem.W.specialIn K (.builtin "object.__class__") "__get__" = some (some (.builtin "getset_descriptor.__get__"))
  htk : PySem.W.takesIn K (.builtin "object.__class__") = some true
  hm : PySem.W.mroIn K C (.type "object") = some true
theorem r_isiC {a C dx C2 : Addr} {fs : List (Str × V)} {b : Bool} (h : H a = some (.ins C dx fs)) (c : TyC K C) (e : PySem.W.kitOne K (.ref C) (.ref C2) = some b) (q : Q (.bl b) H) : rIsi K [.ref a, .ref C2] H Q :=
  ⟨.ref a, .ref C2, .ref C, .ref C2, b, rfl, .own C2, .base (.ins h c.cl c.ha c.hn c.htk c.hm), e, q⟩
theorem r_popM {r : V → List V → Hp → VK → Prop} (h : ta σ H fun x H1 => IsL K x H1 (r x [] H1 Q)) : tBM0 K "list" r ta σ H Q := h
theorem r_pop {l : Addr} {xs : List V} (h : H l = some (.lst (xs ++ [y]))) (q : ∀ H1, H1 l = some (.lst xs) → Keep [l] H H1 → Q y H1) : rPop (.ref l) [] H Q :=
  ⟨l, xs ++ [y], y, rfl, rfl, h, by simp, by rw [List.dropLast_concat]; exact q _ upd_same (Keep.put (List.mem_singleton.mpr rfl))⟩
noncomputable def TruL (K : PySem.W.Frag) (x : V) (H : Hp) (R : Bool → Prop) : Prop := ∃ k, TruV K x H k ∧ R k
noncomputable def tTru (K : PySem.W.Frag) (ta : TE) : TT := fun σ H QT => ta σ H fun x H' => TruL K x H' fun k => QT k H'
theorem r_tru (h : ta σ H fun x H' => TruL K x H' fun k => QT k H') : tTru K ta σ H QT := h
theorem r_truL {a : Addr} {xs : List V} {R : Bool → Prop} (h : SqL K H a xs) (q : R (!xs.isEmpty)) : TruL K (.ref a) H R := ⟨_, .inl ⟨xs, h, rfl⟩, q⟩
end
end Hw
namespace Hw
open PySem PySem.Spec PyProof.Rows L2
theorem lk_hit {f : Str} {v : V} {r : List (Str × V)} : ((f, v) :: r).lookup f = some v := by
  unfold List.lookup
  rw [show (f == f) = true from beq_self_eq_true f]
theorem lk_skip {f g : Str} {x : V} {r : List (Str × V)} (h : ¬ g = f) : ((f, x) :: r).lookup g = r.lookup g := by
  show (match g == f with | true => some x | false => r.lookup g) = _
  rw [show (g == f) = false from beq_eq_false_iff_ne.mpr h]
/-- a cell, a frame, a want, a run -/
noncomputable def cellF (n : Int) (l : Addr) : List (Str × V) := [("number", .int n), ("loans", .ref l)]
noncomputable def frameF (o h r : Addr) : List (Str × V) := [("owns", .ref o), ("handed", .ref h), ("roads", .ref r)]
noncomputable def wantF (t f : V) : List (Str × V) := [("thing", t), ("frame", f)]
noncomputable def runF (vp vw : V) (c s : Addr) (m : Int) (x : Bool) : List (Str × V) := [("program", vp), ("ways", vw), ("commons", .ref c), ("said", .ref s), ("lent", .int m), ("mixed", .bl x)]
section
variable {n m : Int} {l o h r c s : Addr} {t f vp vw : V} {x : Bool}
theorem cell_number : (cellF n l).lookup ("number" : Str) = some (.int n) := lk_hit
theorem cell_loans : (cellF n l).lookup ("loans" : Str) = some (.ref l) := (lk_skip (by decide +kernel)).trans lk_hit
theorem frame_owns : (frameF o h r).lookup ("owns" : Str) = some (.ref o) := lk_hit
theorem frame_handed : (frameF o h r).lookup ("handed" : Str) = some (.ref h) := (lk_skip (by decide +kernel)).trans lk_hit
theorem frame_roads : (frameF o h r).lookup ("roads" : Str) = some (.ref r) := (lk_skip (by decide +kernel)).trans ((lk_skip (by decide +kernel)).trans lk_hit)
theorem want_thing : (wantF t f).lookup ("thing" : Str) = some t := lk_hit
theorem want_frame : (wantF t f).lookup ("frame" : Str) = some f := (lk_skip (by decide +kernel)).trans lk_hit
theorem run_program : (runF vp vw c s m x).lookup ("program" : Str) = some vp := lk_hit
theorem run_ways : (runF vp vw c s m x).lookup ("ways" : Str) = some vw := (lk_skip (by decide +kernel)).trans lk_hit
theorem run_commons : (runF vp vw c s m x).lookup ("commons" : Str) = some (.ref c) := (lk_skip (by decide +kernel)).trans ((lk_skip (by decide +kernel)).trans lk_hit)
theorem run_said : (runF vp vw c s m x).lookup ("said" : Str) = some (.ref s) := (lk_skip (by decide +kernel)).trans ((lk_skip (by decide +kernel)).trans ((lk_skip (by decide +kernel)).trans lk_hit))
theorem run_lent : (runF vp vw c s m x).lookup ("lent" : Str) = some (.int m) := (lk_skip (by decide +kernel)).trans ((lk_skip (by decide +kernel)).trans ((lk_skip (by decide +kernel)).trans ((lk_skip (by decide +kernel)).trans lk_hit)))
theorem run_mixed : (runF vp vw c s m x).lookup ("mixed" : Str) = some (.bl x) := (lk_skip (by decide +kernel)).trans ((lk_skip (by decide +kernel)).trans ((lk_skip (by decide +kernel)).trans ((lk_skip (by decide +kernel)).trans ((lk_skip (by decide +kernel)).trans lk_hit))))
end
end Hw
namespace Hw
open PySem PySem.Spec PyProof.Rows L2
structure Kl where
  C : Addr
  F : Addr
  W : Addr
  R : Addr
structure Rn where
  r : Addr
  lc : Addr
  ls : Addr
  vp : V
  vw : V
noncomputable def flat (cs : List (Addr × Addr)) : List Addr := cs.flatMap fun c => [c.1, c.2]
theorem mem_flat1 {cs : List (Addr × Addr)} {i : Nat} {c : Addr × Addr} (h : cs[i]? = some c) : c.1 ∈ flat cs := List.mem_flatMap.mpr ⟨c, List.mem_of_getElem? h, by simp⟩
theorem mem_flat2 {cs : List (Addr × Addr)} {i : Nat} {c : Addr × Addr} (h : cs[i]? = some c) : c.2 ∈ flat cs := List.mem_flatMap.mpr ⟨c, List.mem_of_getElem? h, by simp⟩
theorem mem_flat {cs : List (Addr × Addr)} {x : Addr} (h : x ∈ flat cs) : ∃ (i : Nat) (c : Addr × Addr), cs[i]? = some c ∧ (x = c.1 ∨ x = c.2) := by
  obtain ⟨c, hc, hx⟩ := List.mem_flatMap.mp h
  obtain ⟨i, hi⟩ := List.mem_iff_getElem?.mp hc
  exact ⟨i, c, hi, by simpa using hx⟩
noncomputable def trk (R : Rn) (cs : List (Addr × Addr)) : List Addr := R.r :: R.ls :: flat cs
/-- the run: its numbers by the cells cs, which are lent as lo tells -/
structure PSt (K : PySem.W.Frag) (H : Hp) (kl : Kl) (R : Rn) (cs : List (Addr × Addr)) (S : LS) (lo : Nat → List Nat) : Prop where
  run : ∃ dx, H R.r = some (.ins kl.R dx (runF R.vp R.vw R.lc R.ls (S.many : Int) S.mixed))
  com : H R.lc = some (.lst ((cs.take 3).map fun c => V.ref c.1))
  sd : H R.ls = some (.lst (nums S.said))
  len : cs.length = S.at_.length
  cell : ∀ (i : Nat) (c : Addr × Addr), cs[i]? = some c → ∃ (dx : Addr) (n : Nat) (L : List Nat), S.at_[i]? = some n ∧ H c.1 = some (.ins kl.C dx (cellF (n : Int) c.2)) ∧ H c.2 = some (.lst (nums L)) ∧ lo i = L.map (· + 1)
  nd : (R.lc :: trk R cs).Nodup
  out : ∀ i, cs.length ≤ i → lo i = []
/-- as the law's run has it -/
noncomputable abbrev PS (K : PySem.W.Frag) (H : Hp) (kl : Kl) (R : Rn) (cs : List (Addr × Addr)) (S : LS) : Prop := PSt K H kl R cs S (lentOf S.lent)
section
variable {K : PySem.W.Frag} {H H1 : Hp} {kl : Kl} {R : Rn} {cs : List (Addr × Addr)} {S : LS} {lo : Nat → List Nat}
theorem PSt.lcM (g : PSt K H kl R cs S lo) : R.lc ∉ trk R cs := (List.nodup_cons.mp g.nd).1
theorem PSt.nd' (g : PSt K H kl R cs S lo) : (trk R cs).Nodup := (List.nodup_cons.mp g.nd).2
theorem PSt.rs (g : PSt K H kl R cs S lo) : R.r ≠ R.ls := fun z => (List.nodup_cons.mp g.nd').1 (by rw [z]; exact List.mem_cons_self)
theorem PSt.rf (g : PSt K H kl R cs S lo) : R.r ∉ flat cs := fun z => (List.nodup_cons.mp g.nd').1 (List.mem_cons_of_mem _ z)
theorem PSt.sf (g : PSt K H kl R cs S lo) : R.ls ∉ flat cs := (List.nodup_cons.mp (List.nodup_cons.mp g.nd').2).1
theorem PSt.lo_ (g : PSt K H kl R cs S lo) : Lo H (trk R cs) := fun x hx => by
  rcases List.mem_cons.mp hx with rfl | hx
  · obtain ⟨dx, e⟩ := g.run
    exact .inr (.inr ⟨_, _, _, e⟩)
  rcases List.mem_cons.mp hx with rfl | hx
  · exact .inl ⟨_, g.sd⟩
  obtain ⟨i, c, hc, hx⟩ := mem_flat hx
  obtain ⟨dx, n, L, _, h1, h2, _⟩ := g.cell i c hc
  rcases hx with rfl | rfl
  · exact .inr (.inr ⟨_, _, _, h1⟩)
  · exact .inl ⟨_, h2⟩
theorem PSt.al (g : PSt K H kl R cs S lo) : ∀ x ∈ trk R cs, H x ≠ none := fun x hx => by
  rcases g.lo_ x hx with ⟨_, h⟩ | ⟨_, h⟩ | ⟨_, _, _, h⟩ <;> (rw [h]; exact fun z => nomatch z)
theorem PSt.ts (g : PSt K H kl R cs S lo) (k : Keep (trk R cs) H H1) : Tst H H1 := k.ts g.lo_
theorem k0 {M : List Addr} (k : Keep [] H H1) : Keep M H H1 := k.mono fun _ z => nomatch z
theorem PSt.keep0 (g : PSt K H kl R cs S lo) (k : Keep [] H H1) : PSt K H1 kl R cs S lo := by
  refine ⟨?_, k _ _ g.com (by simp), k _ _ g.sd (by simp), g.len, fun i c hc => ?_, g.nd, g.out⟩
  · obtain ⟨dx, e⟩ := g.run
    exact ⟨dx, k _ _ e (by simp)⟩
  · obtain ⟨dx, n, L, h1, h2, h3, h4⟩ := g.cell i c hc
    exact ⟨dx, n, L, h1, k _ _ h2 (by simp), k _ _ h3 (by simp), h4⟩
theorem PSt.all (g : PSt K H kl R cs S lo) : ∀ x ∈ R.lc :: trk R cs, H x ≠ none := fun x hx => by
  rcases List.mem_cons.mp hx with rfl | hx
  · rw [g.com]; exact fun z => nomatch z
  · exact g.al x hx
/-- the run's own fields were changed -/
theorem PSt.fields {dx : Addr} {m : Nat} {b : Bool} (g : PSt K H kl R cs S lo) (k : Keep [R.r] H H1) (h : H1 R.r = some (.ins kl.R dx (runF R.vp R.vw R.lc R.ls (m : Int) b))) : PSt K H1 kl R cs { S with many := m, mixed := b } lo := by
  have nr : ∀ x, x ∈ flat cs → x ∉ [R.r] := fun x hx z => by
    cases List.mem_singleton.mp z
    exact g.rf hx
  refine ⟨⟨dx, h⟩, k _ _ g.com fun z => ?_, k _ _ g.sd fun z => ?_, g.len, fun i c hc => ?_, g.nd, g.out⟩
  · have := List.mem_singleton.mp z
    exact g.lcM (by rw [this]; exact List.mem_cons_self)
  · exact g.rs (List.mem_singleton.mp z).symm
  · obtain ⟨dx, n, L, h1, h2, h3, h4⟩ := g.cell i c hc
    exact ⟨dx, n, L, h1, k _ _ h2 (nr _ (mem_flat1 hc)), k _ _ h3 (nr _ (mem_flat2 hc)), h4⟩
/-- what was said -/
theorem PSt.say {l : List Nat} (g : PSt K H kl R cs S lo) (k : Keep [R.ls] H H1) (h : H1 R.ls = some (.lst (nums l))) : PSt K H1 kl R cs { S with said := l } lo := by
  have nr : ∀ x, x ∈ flat cs → x ∉ [R.ls] := fun x hx z => by
    cases List.mem_singleton.mp z
    exact g.sf hx
  obtain ⟨dx, e⟩ := g.run
  refine ⟨⟨dx, k _ _ e fun z => g.rs (List.mem_singleton.mp z)⟩, k _ _ g.com fun z => ?_, h, g.len, fun i c hc => ?_, g.nd, g.out⟩
  · have := List.mem_singleton.mp z
    exact g.lcM (by rw [this]; exact List.mem_cons_of_mem _ List.mem_cons_self)
  · obtain ⟨dx, n, L, h1, h2, h3, h4⟩ := g.cell i c hc
    exact ⟨dx, n, L, h1, k _ _ h2 (nr _ (mem_flat1 hc)), k _ _ h3 (nr _ (mem_flat2 hc)), h4⟩
end
section
variable (K : PySem.W.Frag) (H : Hp) (kl : Kl) (M : List Addr) (cs : List (Addr × Addr))
mutual
noncomputable def PFr : Fr → V → Prop
  | .mk os hs => fun v => ∃ (a dx o h d : Addr) (zs xs ys : List V), v = .ref a ∧ H a = some (.ins kl.F dx (frameF o h d)) ∧ a ∉ M ∧ H o = some (.lst zs) ∧ o ∉ M ∧ (∀ (k p : Nat), os[k]? = some p → ∃ c, cs[p]? = some c ∧ zs[k]? = some (.ref c.1)) ∧
    H h = some (.lst xs) ∧ h ∉ M ∧ H d = some (.lst ys) ∧ d ∉ M ∧ PHds hs xs ys
noncomputable def PHd : Hd → V → V → Prop
  | .road p ws => fun x y => ∃ (c : Addr × Addr) (t : Addr) (L : List Nat), cs[p]? = some c ∧ x = .ref c.1 ∧ y = .ref t ∧ SqT K H t (nums L) ∧ ws = L.map (· + 1)
  | .want t f => fun x _ => ∃ (a dx : Addr) (vt vf : V), x = .ref a ∧ H a = some (.ins kl.W dx (wantF vt vf)) ∧ a ∉ M ∧ Rp K H vt t.enc ∧ PFr f vf
noncomputable def PHds : Hds → List V → List V → Prop
  | .nil => fun xs ys => xs = [] ∧ ys = []
  | .cons h r => fun xs ys => ∃ x xr y yr, xs = x :: xr ∧ ys = y :: yr ∧ PHd h x y ∧ PHds r xr yr
end
end
section
variable {K : PySem.W.Frag} {H H1 : Hp} {kl : Kl} {M M' : List Addr} {cs cs' : List (Addr × Addr)}
/-- what stands and isn't tracked stays so -/
theorem stays {a : Addr} {o : HO} (k : Keep M H H1) (n : ∀ x ∈ M', x ∈ M ∨ H x = none) (h : H a = some o) (m : a ∉ M) : H1 a = some o ∧ a ∉ M' := ⟨k _ _ h m, fun z => by
  rcases n a z with q | q
  · exact m q
  · rw [q] at h; cases h⟩
mutual
theorem PFr.go (k : Keep M H H1) (t : Tst H H1) (n : ∀ x ∈ M', x ∈ M ∨ H x = none) (e : ∀ (p : Nat) c, cs[p]? = some c → cs'[p]? = some c) : ∀ {f : Fr} {v : V}, PFr K H kl M cs f v → PFr K H1 kl M' cs' f v
  | .mk os hs, v, g => by
    unfold PFr at g ⊢
    obtain ⟨a, dx, o, h, d, zs, xs, ys, rfl, h1, m1, h2, m2, h3, h4, m4, h5, m5, h6⟩ := g
    obtain ⟨q1, r1⟩ := stays k n h1 m1
    obtain ⟨q2, r2⟩ := stays k n h2 m2
    obtain ⟨q4, r4⟩ := stays k n h4 m4
    obtain ⟨q5, r5⟩ := stays k n h5 m5
    exact ⟨a, dx, o, h, d, zs, xs, ys, rfl, q1, r1, q2, r2, fun i p hp => by
      obtain ⟨c, e1, e2⟩ := h3 i p hp
      exact ⟨c, e _ _ e1, e2⟩, q4, r4, q5, r5, PHds.go k t n e h6⟩
theorem PHd.go (k : Keep M H H1) (t : Tst H H1) (n : ∀ x ∈ M', x ∈ M ∨ H x = none) (e : ∀ (p : Nat) c, cs[p]? = some c → cs'[p]? = some c) : ∀ {d : Hd} {x y : V}, PHd K H kl M cs d x y → PHd K H1 kl M' cs' d x y
  | .road p ws, x, y, g => by
    unfold PHd at g ⊢
    obtain ⟨c, tp, L, h1, rfl, rfl, h2, h3⟩ := g
    exact ⟨c, tp, L, e _ _ h1, rfl, rfl, t.sqT h2, h3⟩
  | .want u f, x, y, g => by
    unfold PHd at g ⊢
    obtain ⟨a, dx, vt, vf, rfl, h1, m1, h2, h3⟩ := g
    obtain ⟨q1, r1⟩ := stays k n h1 m1
    exact ⟨a, dx, vt, vf, rfl, q1, r1, h2.ts t, PFr.go k t n e h3⟩
theorem PHds.go (k : Keep M H H1) (t : Tst H H1) (n : ∀ x ∈ M', x ∈ M ∨ H x = none) (e : ∀ (p : Nat) c, cs[p]? = some c → cs'[p]? = some c) : ∀ {hs : Hds} {xs ys : List V}, PHds K H kl M cs hs xs ys → PHds K H1 kl M' cs' hs xs ys
  | .nil, xs, ys, g => by
    unfold PHds at g ⊢
    exact g
  | .cons d r, xs, ys, g => by
    unfold PHds at g ⊢
    obtain ⟨x, xr, y, yr, rfl, rfl, h1, h2⟩ := g
    exact ⟨x, xr, y, yr, rfl, rfl, PHd.go k t n e h1, PHds.go k t n e h2⟩
end
theorem PFr.keep {f : Fr} {v : V} (k : Keep M H H1) (t : Tst H H1) (g : PFr K H kl M cs f v) : PFr K H1 kl M cs f v := g.go k t (fun _ h => .inl h) fun _ _ h => h
theorem PFr.keep0 {f : Fr} {v : V} (k : Keep [] H H1) (g : PFr K H kl M cs f v) : PFr K H1 kl M cs f v := g.keep (k0 k) (k.ts fun _ z => nomatch z)
theorem PHds.get : ∀ {hs : Hds} {xs ys : List V} {i : Nat} {d : Hd}, PHds K H kl M cs hs xs ys → hs.get i = some d → ∃ x y, xs[i]? = some x ∧ ys[i]? = some y ∧ PHd K H kl M cs d x y
  | .nil, _, _, _, _, _, e => by unfold Hds.get at e; cases e
  | .cons d r, xs, ys, 0, d', h, e => by
    unfold PHds at h
    obtain ⟨x, xr, y, yr, rfl, rfl, h1, h2⟩ := h
    unfold Hds.get at e
    cases e
    exact ⟨x, y, rfl, rfl, h1⟩
  | .cons d r, xs, ys, i + 1, d', h, e => by
    unfold PHds at h
    obtain ⟨x, xr, y, yr, rfl, rfl, h1, h2⟩ := h
    unfold Hds.get at e
    obtain ⟨u, v, e1, e2, e3⟩ := PHds.get h2 e
    exact ⟨u, v, by simpa using e1, by simpa using e2, e3⟩
/-- handed one by one -/
theorem PHds.of {hs : List (Hd × Option Nat)} : ∀ {xs ys : List V}, xs.length = hs.length → ys.length = hs.length → (∀ (i : Nat) h b, hs[i]? = some (h, b) → ∃ x y, xs[i]? = some x ∧ ys[i]? = some y ∧ PHd K H kl M cs h x y) → PHds K H kl M cs (Hds.of hs) xs ys := by
  induction hs with
  | nil =>
    intro xs ys e1 e2 _
    unfold Hds.of PHds
    exact ⟨List.length_eq_zero_iff.mp e1, List.length_eq_zero_iff.mp e2⟩
  | cons hb r ih =>
    intro xs ys e1 e2 g
    obtain ⟨h, b⟩ := hb
    obtain ⟨x, y, ex, ey, q⟩ := g 0 h b rfl
    cases xs with
    | nil => cases ex
    | cons x' xr =>
      cases ys with
      | nil => cases ey
      | cons y' yr =>
        cases (show x' = x by simpa using ex)
        cases (show y' = y by simpa using ey)
        unfold Hds.of PHds
        refine ⟨_, xr, _, yr, rfl, rfl, q, ih (by simpa using e1) (by simpa using e2) fun i h b e => ?_⟩
        obtain ⟨x, y, ex, ey, q⟩ := g (i + 1) h b (by simpa using e)
        exact ⟨x, y, by simpa using ex, by simpa using ey, q⟩
end
end Hw
namespace Hw
open PySem PySem.Spec PyProof.Rows L2
noncomputable def rEqE (K : PySem.W.Frag) : R2 := fun x y H Q => ∃ p q xs, x = .ref p ∧ y = .ref q ∧ ((SqL K H p xs ∧ SqL K H q []) ∨ (SqT K H p xs ∧ SqT K H q [])) ∧ Q (.bl xs.isEmpty) H
noncomputable def rNeE (K : PySem.W.Frag) : R2 := fun x y H Q => ∃ p q xs, x = .ref p ∧ y = .ref q ∧ SqL K H p xs ∧ SqL K H q [] ∧ Q (.bl (!xs.isEmpty)) H
section
variable {X : Cx}
theorem op_eqE (hu : X.A.units < cLine) : OpR X (compareOp .Eq) (rEqE X.K) := by
  intro pins s σ H x y v u Q I rx ry h
  obtain ⟨p, q, xs, rfl, rfl, h, qq⟩ := h
  cases rx
  cases ry
  rcases h with ⟨h1, h2⟩ | ⟨h1, h2⟩
  · obtain ⟨its, rv, hl, _⟩ := I.list h1
    obtain ⟨its2, rv2, hl2, _⟩ := I.list h2
    cases rv2
    cases rv with
    | nil => exact SeqAt.eq_listAt (e := fun _ => true) hl.isList hl2.isList rfl hu (fun j h1 => by simp at h1) ⟨.bl _, H, I, rfl, qq⟩
    | cons r1 r2 => exact SeqAt.eq_list_lengthsAt hl.isList hl2.isList (by simp) hu ⟨.bl _, H, I, rfl, qq⟩
  · obtain ⟨its, rv, hl, _⟩ := I.tuple h1
    obtain ⟨its2, rv2, hl2, _⟩ := I.tuple h2
    cases rv2
    cases rv with
    | nil => exact SeqAt.eq_tupleAt (e := fun _ => true) hl hl2 hu (fun j h1 => by simp at h1) ⟨.bl _, H, I, rfl, qq⟩
    | cons r1 r2 => exact SeqAt.eq_tupleAt (e := fun _ => true) hl hl2 hu (fun j h1 h2 => by simp at h2) ⟨.bl _, H, I, by show Value.bool _ = Value.bool _; simp, qq⟩
theorem op_neE (hu : X.A.units < cLine) : OpR X (compareOp .NotEq) (rNeE X.K) := by
  intro pins s σ H x y v u Q I rx ry h
  obtain ⟨p, q, xs, rfl, rfl, h1, h2, qq⟩ := h
  cases rx
  cases ry
  obtain ⟨its, rv, hl, _⟩ := I.list h1
  obtain ⟨its2, rv2, hl2, _⟩ := I.list h2
  cases rv2
  cases rv with
  | nil => exact SeqAt.RcNeAt.lists (e := fun _ => true) hl.isList hl2.isList rfl hu (fun j h1 => by simp at h1) _ _ _ _ ⟨.bl _, H, I, rfl, qq⟩
  | cons r1 r2 => exact SeqAt.RcNeAt.lists_lengths hl.isList hl2.isList (by simp) hu _ _ _ _ ⟨.bl _, H, I, rfl, qq⟩
theorem opEqE {K : PySem.W.Frag} (hu : X.A.units < cLine) (h : X.K = K := by rfl) : OpR X (compareOp .Eq) (rEqE K) := h ▸ op_eqE hu
theorem opNeE {K : PySem.W.Frag} (hu : X.A.units < cLine) (h : X.K = K := by rfl) : OpR X (compareOp .NotEq) (rNeE K) := h ▸ op_neE hu
end
section
variable {K : PySem.W.Frag} {H : Hp} {Q : VK} {p q : Addr} {xs : List V}
theorem r_eqEL (h : SqL K H p xs) (h2 : SqL K H q []) (g : Q (.bl xs.isEmpty) H) : rEqE K (.ref p) (.ref q) H Q := ⟨p, q, xs, rfl, rfl, .inl ⟨h, h2⟩, g⟩
theorem r_eqET (h : SqT K H p xs) (h2 : SqT K H q []) (g : Q (.bl xs.isEmpty) H) : rEqE K (.ref p) (.ref q) H Q := ⟨p, q, xs, rfl, rfl, .inr ⟨h, h2⟩, g⟩
theorem r_neE (h : SqL K H p xs) (h2 : SqL K H q []) (g : Q (.bl (!xs.isEmpty)) H) : rNeE K (.ref p) (.ref q) H Q := ⟨p, q, xs, rfl, rfl, h, h2, g⟩
end
end Hw
namespace Hw
open PySem PySem.Spec PyProof.Rows L2
/-- what str(n) tells -/
noncomputable def nW (n : Nat) : Str := Str.ofString (toString ((n : Nat) : Int))
noncomputable def Th.words : Th → List Str
  | .num n => [nW n]
  | .own n => ["own", nW n]
  | .par n => ["par", nW n]
  | .cell t => "cell" :: t.words
  | .sum a b => "+" :: (a.words ++ b.words)
noncomputable def wordsOf (ts : List Th) : List Str := (ts.map Th.words).flatten
noncomputable abbrev opn : List Str := ["("]
noncomputable abbrev mid : List Str := [")", "("]
noncomputable abbrev cls : List Str := [")"]
noncomputable abbrev dot : List Str := ["."]
mutual
noncomputable def St.words : St → List Str
  | .set p t => "set" :: (p.words ++ t.words)
  | .say t => "say" :: t.words
  | .ite t a b => "if" :: (t.words ++ (opn ++ a.words ++ mid ++ b.words ++ cls))
  | .call w ts => [("call" : Str), nW w] ++ wordsOf ts ++ dot
noncomputable def Sts.words : Sts → List Str
  | .nil => []
  | .cons s r => s.words ++ r.words
end
noncomputable def Wk.words (w : Wk) : List Str := [nW w.params, nW w.owns] ++ w.body.words
noncomputable def Wk.line (w : Wk) : Str := Txt.join " " w.words
/-- all figures of a thing have at most two signs -/
noncomputable def Th.low : Th → Prop
  | .num n => n < 100
  | .own n => n < 100
  | .par n => n < 100
  | .cell t => t.low
  | .sum a b => a.low ∧ b.low
mutual
noncomputable def St.low : St → Prop
  | .set p t => p.low ∧ t.low
  | .say t => t.low
  | .ite t a b => t.low ∧ a.low ∧ b.low
  | .call w ts => w < 100 ∧ ∀ t ∈ ts, t.low
noncomputable def Sts.low : Sts → Prop
  | .nil => True
  | .cons s r => s.low ∧ r.low
end
end Hw
namespace Hw
open PySem PySem.Spec PyProof.Rows L2
/-- the tuples at a, b, c as they stand at each turn, the items in new triples -/
noncomputable def ItzT3 (K : PySem.W.Frag) (a b c : Addr) : It :=
  ⟨fun i H => ∃ (xs ys zs : List V) (x y z : V), SqT K H a xs ∧ SqT K H b ys ∧ SqT K H c zs ∧ xs[i]? = some x ∧ ys[i]? = some y ∧ zs[i]? = some z,
    fun i H v H' => ∃ T x y z, v = .ref T ∧ H T = none ∧ H' = upd H T (.tup [x, y, z]) ∧ (∀ xs, SqT K H a xs → xs[i]? = some x) ∧ (∀ ys, SqT K H b ys → ys[i]? = some y) ∧ ∀ zs, SqT K H c zs → zs[i]? = some z,
    fun i H => ∃ xs ys zs : List V, SqT K H a xs ∧ SqT K H b ys ∧ SqT K H c zs ∧ xs.length = i ∧ ys.length = i ∧ zs.length = i⟩
noncomputable def iZipT3 (K : PySem.W.Frag) (ta : TA) : TI := fun σ H R => ta σ H fun vs H1 => ∃ a b c xs ys zs, vs = [.ref a, .ref b, .ref c] ∧ SqT K H1 a xs ∧ SqT K H1 b ys ∧ SqT K H1 c zs ∧ R (ItzT3 K a b c) H1
end Hw
namespace Hw
open PySem PySem.Spec PyProof.Rows L2
section
variable {K : PySem.W.Frag} {σ : L2.St} {H : Hp} {Q : VK} {QT : Bool → Hp → Prop} {ta tb tc te : TE} {t u : TT} {x y z v : V} {D : Ends} {ts tu : TS} {tl : TA}
theorem flat_one {n : Nat} {v : V} : (List.replicate n [v]).flatten = List.replicate n v := by
  induction n with
  | zero => rfl
  | succ n ih => rw [List.replicate_succ, List.flatten_cons, ih]; rfl
/-- a list of one item, repeated -/
theorem r_rep1 {l : Addr} {n : Nat} {v : V} (h : H l = some (.lst [v])) (z : n ≤ 100000) (q : New (.lst (List.replicate n v)) 0 H Q) : rRep (.ref l) (.int (n : Int)) H Q := by
  refine ⟨l, n, [v], rfl, rfl, h, by omega, by omega, by rw [Int.toNat_natCast]; exact small (by show 1 * n ≤ _; omega), fun p hp => ?_⟩
  rw [Int.toNat_natCast, flat_one]
  exact q.2 p hp
noncomputable def RevOf (x : V) (S : Int → Prop) : Prop := ∃ n : Int, x = .int n ∧ (-(2 ^ 62) ≤ (0 : Int) ∧ (0 : Int) < 2 ^ 62 ∧ -(2 ^ 62) ≤ n ∧ n < 2 ^ 62 ∧ S n)
theorem r_revR {R : It → Hp → Prop} (h : ta σ H fun x H1 => RevOf x fun n => R (Itc (0 + (((n - 0).toNat : Nat) : Int) - 1) (-1) (n - 0).toNat) H1) : iRevR (tRg1 ta) σ H R := h
theorem r_revOf {m : Nat} {S : Int → Prop} (h : m ≤ 100000) (q : S m) : RevOf (.int (m : Int)) S := ⟨m, rfl, by omega, by omega, by omega, by omega, q⟩
noncomputable def OverZT3 (K : PySem.W.Frag) (vs : List V) (H : Hp) (R : Addr → Addr → Addr → Prop) : Prop := ∃ a b c xs ys zs, vs = [.ref a, .ref b, .ref c] ∧ SqT K H a xs ∧ SqT K H b ys ∧ SqT K H c zs ∧ R a b c
theorem r_zipT3 {R : It → Hp → Prop} (h : tl σ H fun vs H1 => OverZT3 K vs H1 fun a b c => R (ItzT3 K a b c) H1) : iZipT3 K tl σ H R := h
theorem r_overZT3 {a b c : Addr} {xs ys zs : List V} {R : Addr → Addr → Addr → Prop} (h : SqT K H a xs) (h2 : SqT K H b ys) (h3 : SqT K H c zs) (q : R a b c) : OverZT3 K [.ref a, .ref b, .ref c] H R := ⟨a, b, c, xs, ys, zs, rfl, h, h2, h3, q⟩
end
section
noncomputable def rNeg : V → Hp → VK → Prop := fun x H Q => ∃ i, x = .int i ∧ Q (.int (-i)) H
theorem un_minus {X : Cx} : UnR X (unaryOp .USub) rNeg := un_neg
theorem r_un {r : V → Hp → VK → Prop} {ta : TE} {σ : L2.St} {H : Hp} {Q : VK} (h : ta σ H fun x H1 => r x H1 Q) : tUn r ta σ H Q := h
theorem r_neg {i : Int} {H : Hp} {Q : VK} (q : Q (.int (-i)) H) : rNeg (.int i) H Q := ⟨i, rfl, q⟩
end
end Hw
namespace Hw
open PySem PySem.Spec PyProof.Rows L2
theorem Keep.loseN {M M' : List Addr} {H H1 : Hp} (k : Keep M' H H1) (h : ∀ x ∈ M', x ∈ M ∨ H x = none) : Keep M H H1 := fun a o e n => k a o e fun z => (h a z).elim n fun q => by rw [q] at e; cases e
theorem cutV_tail {x : V} {xs : List V} : cutV (x :: xs) (some 1) none = xs := by
  unfold cutV HT.sIx
  simp
noncomputable def rStrI : List V → Hp → VK → Prop := fun xs H Q => ∃ i, xs = [.int i] ∧ i.natAbs.log2 < 1920 ∧ Q (.str (toString i)) H
theorem cStr {X : Cx} : CallR X (.type "str") rStrI := call_str_int
noncomputable def rLenS : List V → Hp → VK → Prop := fun xs H Q => ∃ z, xs = [.str z] ∧ z.length ≤ sizeLine ∧ Q (.int z.length) H
noncomputable def rJoin (K : PySem.W.Frag) : V → List V → Hp → VK → Prop := fun x xs H Q => ∃ a p, ∃ ys : List Str, x = .str a ∧ xs = [.ref p] ∧ (SqL K H p (ys.map V.str) ∨ SqT K H p (ys.map V.str)) ∧ (ys.map (·.length)).sum + ys.length * a.length ≤ 16777216 ∧ Q (.str (Txt.join a ys)) H
noncomputable def IsS (x : V) (R : Prop) : Prop := (∃ a, x = .str a) ∧ R
section
variable {X : Cx} {K : PySem.W.Frag} {o e : Expr} {to te : TE} {apos pos : Pos}
theorem peJoin (ho : PE X o to) (he : PE X e te) (h : X.K = K := by rfl) (hs : starEach [e] X.env = [(false, eval e X.env)] := by rfl) (hb : attributeBase o "join" X.env (eval o X.env) = eval o X.env := by rfl) (hl : (apos.endLine == pos.line) = true := by rfl) : PE X (.Call (.Attribute o "join" apos) [e] [] pos) (tM1 (rJoin K) to te) := h ▸ pe_join ho he hs hb hl
variable {w : World} {d : Addr} {es : Array DictEntry} {n : Nat}
end
section
variable {K : PySem.W.Frag} {σ : L2.St} {H : Hp} {Q : VK} {QT : Bool → Hp → Prop} {ta tb tc te to : TE} {t u : TT} {x y z v : V} {D : Ends} {ts tu : TS} {tl : TA}
theorem r_str {n : Nat} (h : n ≤ 1000000) (q : Q (.str (nW n)) H) : rStrI [.int (n : Int)] H Q := by
  refine ⟨(n : Int), rfl, ?_, q⟩
  have : ((n : Int)).natAbs = n := Int.natAbs_natCast n
  rw [this]
  by_cases z : n = 0
  · subst z
    decide
  · exact Nat.lt_of_lt_of_le ((Nat.log2_lt z).mpr (Nat.lt_of_le_of_lt h (by decide : 1000000 < 2 ^ 20))) (by decide)
theorem r_lenS {z : Str} (h : z.length ≤ sizeLine) (q : Q (.int z.length) H) : rLenS [.str z] H Q := ⟨z, rfl, h, q⟩
theorem r_m1 {r : V → List V → Hp → VK → Prop} (h : to σ H fun x H1 => IsS x (te σ H1 fun y H2 => r x [y] H2 Q)) : tM1 r to te σ H Q := h
theorem r_isS {a : Str} {R : Prop} (h : R) : IsS (.str a) R := ⟨⟨a, rfl⟩, h⟩
theorem r_join {a : Str} {p : Addr} {ys : List Str} (h : SqL K H p (ys.map V.str) ∨ SqT K H p (ys.map V.str)) (z : (ys.map (·.length)).sum + ys.length * a.length ≤ 16777216) (q : Q (.str (Txt.join a ys)) H) : rJoin K (.str a) [.ref p] H Q := ⟨a, p, ys, rfl, rfl, h, z, q⟩
theorem r_inS {c : Nat} {z : Str} (q : Q (.bl (decide (c ∈ z.cps.toList))) H) : rInS (.str ⟨#[c]⟩) (.str z) H Q := ⟨c, z, rfl, rfl, q⟩
/-- what is walked: a list from its end -/
noncomputable def OverV (K : PySem.W.Frag) (v : V) (H : Hp) (R : It → Hp → Prop) : Prop := ∃ (a : Addr) (xs : List V), v = .ref a ∧ ((SqL K H a xs ∧ R (Itv K a xs.length) H) ∨ (SqT K H a xs ∧ R (RT.ItvT K a xs.length) H))
theorem r_revA {R : It → Hp → Prop} (h : te σ H fun v H1 => OverV K v H1 R) : RT.iRevA K te σ H R := h
theorem r_overV {a : Addr} {xs : List V} {R : It → Hp → Prop} (h : SqL K H a xs) (q : R (Itv K a xs.length) H) : OverV K (.ref a) H R := ⟨a, xs, rfl, .inl ⟨h, q⟩⟩
noncomputable def OverEL (K : PySem.W.Frag) (vs : List V) (H : Hp) (R : Addr → Prop) : Prop := ∃ a xs, vs = [.ref a] ∧ SqL K H a xs ∧ R a
theorem r_enumL {R : It → Hp → Prop} (h : tl σ H fun vs H1 => OverEL K vs H1 fun a => R (Ite K a) H1) : iEnum K tl σ H R := h
theorem r_overEL {a : Addr} {xs : List V} {R : Addr → Prop} (h : SqL K H a xs) (q : R a) : OverEL K [.ref a] H R := ⟨a, xs, rfl, h, q⟩
/-- what is spread -/
noncomputable def Spread (K : PySem.W.Frag) (x : V) (H : Hp) (R : List V → Prop) : Prop := ∃ p xs, x = V.ref p ∧ (SqT K H p xs ∨ SqL K H p xs) ∧ R xs
theorem r_star {QL : List V → Hp → Prop} (h : te σ H fun x H1 => Spread K x H1 fun xs => tl σ H1 fun ys H2 => QL (xs ++ ys) H2) : StX.tStar K te tl σ H QL := h
theorem r_spread {p : Addr} {xs : List V} {R : List V → Prop} (h : SqL K H p xs) (q : R xs) : Spread K (.ref p) H R := ⟨p, xs, rfl, .inr h, q⟩
end
end Hw
namespace Hw
open PySem PySem.Spec PyProof.Rows L2 TL
/-- small shapes: few params, few cells, few works -/
structure Sm (sh : List (Nat × Nat)) : Prop where
  one : ∀ j, (sh.getD j (0, 0)).1 ≤ 3
  two : ∀ j, (sh.getD j (0, 0)).2 < 100
  len : sh.length < 100
theorem th_low {p o : Nat} (hp : p ≤ 100) (ho : o ≤ 100) : ∀ {t : Th} {d : Nat}, Th.ok p o d t → t.low
  | .num n, d, h => by cases d <;> exact Nat.lt_of_lt_of_le (show n < 3 from h) (by decide)
  | .own n, d, h => by cases d <;> exact Nat.lt_of_lt_of_le (show n < o from h) ho
  | .par n, d, h => by cases d <;> exact Nat.lt_of_lt_of_le (show n < p from h) hp
  | .cell t, 0, h => h.elim
  | .sum a b, 0, h => h.elim
  | .cell t, d + 1, h => th_low hp ho (t := t) (d := d) h
  | .sum a b, d + 1, h => ⟨th_low hp ho (t := a) (d := d) h.1, th_low hp ho (t := b) (d := d) h.2⟩
noncomputable def wB : Nat → Nat
  | 0 => 2
  | d + 1 => 2 * wB d + 1
theorem wB_two : ∀ d, 2 ≤ wB d
  | 0 => Nat.le_refl _
  | d + 1 => by have := wB_two d; show 2 ≤ 2 * wB d + 1; omega
theorem th_words {p o : Nat} : ∀ {t : Th} {d : Nat}, Th.ok p o d t → t.words.length ≤ wB d
  | .num n, d, h => by have := wB_two d; show 1 ≤ _; omega
  | .own n, d, h => wB_two d
  | .par n, d, h => wB_two d
  | .cell t, 0, h => h.elim
  | .sum a b, 0, h => h.elim
  | .cell t, d + 1, h => by
    have := th_words (t := t) (d := d) h
    show t.words.length + 1 ≤ 2 * wB d + 1
    omega
  | .sum a b, d + 1, h => by
    have := th_words (t := a) (d := d) h.1
    have := th_words (t := b) (d := d) h.2
    show (a.words ++ b.words).length + 1 ≤ 2 * wB d + 1
    rw [List.length_append]
    omega
theorem ths_words {p o : Nat} : ∀ {ts : List Th}, (∀ t ∈ ts, Th.ok p o 4 t) → (wordsOf ts).length ≤ 47 * ts.length
  | [], _ => Nat.le_refl _
  | t :: ts, h => by
    have a := th_words (h t List.mem_cons_self)
    have b := ths_words (ts := ts) fun u hu => h u (List.mem_cons_of_mem _ hu)
    show (t.words ++ wordsOf ts).length ≤ 47 * (ts.length + 1)
    have e : wB 4 = 47 := rfl
    rw [List.length_append]
    omega
mutual
theorem st_words {sh : List (Nat × Nat)} (sm : Sm sh) {i : Nat} : ∀ {s : St} {d : Nat}, St.ok sh i d s → s.words.length ≤ 150 * s.many
  | .set p t, d, h => by
    have h' : Th.ok (sh.getD i (0, 0)).1 (sh.getD i (0, 0)).2 4 p ∧ Th.ok (sh.getD i (0, 0)).1 (sh.getD i (0, 0)).2 4 t := by cases d <;> (unfold St.ok at h; exact h.2)
    have a := th_words h'.1
    have b := th_words h'.2
    have e : wB 4 = 47 := rfl
    unfold St.words St.many
    rw [List.length_cons, List.length_append]
    omega
  | .say t, d, h => by
    have h' : Th.ok (sh.getD i (0, 0)).1 (sh.getD i (0, 0)).2 4 t := by cases d <;> (unfold St.ok at h; exact h)
    have a := th_words h'
    have e : wB 4 = 47 := rfl
    unfold St.words St.many
    rw [List.length_cons]
    omega
  | .ite t a b, 0, h => by unfold St.ok at h; exact h.elim
  | .ite t a b, d + 1, h => by
    unfold St.ok at h
    have x := th_words h.1
    have y := sts_words sm h.2.1
    have z := sts_words sm h.2.2
    have e : wB 4 = 47 := rfl
    unfold St.words St.many
    simp only [List.length_cons, List.length_append, List.length_nil]
    omega
  | .call w ts, d, h => by
    have h' : ts.length = (sh.getD w (0, 0)).1 ∧ ∀ t ∈ ts, Th.ok (sh.getD i (0, 0)).1 (sh.getD i (0, 0)).2 4 t := by cases d <;> (unfold St.ok at h; exact h.2.2)
    have a := ths_words h'.2
    have b := sm.one w
    unfold St.words St.many
    simp only [List.length_cons, List.length_append, List.length_nil]
    omega
theorem sts_words {sh : List (Nat × Nat)} (sm : Sm sh) {i : Nat} : ∀ {b : Sts} {d : Nat}, Sts.ok sh i d b → b.words.length ≤ 150 * b.many
  | .nil, d, h => by unfold Sts.words Sts.many; exact Nat.le_refl _
  | .cons s r, d, h => by
    unfold Sts.ok at h
    have x := st_words sm h.1
    have y := sts_words sm h.2
    unfold Sts.words Sts.many
    rw [List.length_append]
    omega
end
mutual
theorem st_low {sh : List (Nat × Nat)} (sm : Sm sh) {i : Nat} : ∀ {s : St} {d : Nat}, St.ok sh i d s → s.low
  | .set p t, d, h => by
    have h' : Th.ok (sh.getD i (0, 0)).1 (sh.getD i (0, 0)).2 4 p ∧ Th.ok (sh.getD i (0, 0)).1 (sh.getD i (0, 0)).2 4 t := by cases d <;> (unfold St.ok at h; exact h.2)
    have a := sm.one i
    have b := sm.two i
    unfold St.low
    exact ⟨th_low (by omega) (by omega) h'.1, th_low (by omega) (by omega) h'.2⟩
  | .say t, d, h => by
    have h' : Th.ok (sh.getD i (0, 0)).1 (sh.getD i (0, 0)).2 4 t := by cases d <;> (unfold St.ok at h; exact h)
    have a := sm.one i
    have b := sm.two i
    unfold St.low
    exact th_low (by omega) (by omega) h'
  | .ite t a b, 0, h => by unfold St.ok at h; exact h.elim
  | .ite t a b, d + 1, h => by
    unfold St.ok at h
    have x := sm.one i
    have y := sm.two i
    unfold St.low
    exact ⟨th_low (by omega) (by omega) h.1, sts_low sm h.2.1, sts_low sm h.2.2⟩
  | .call w ts, d, h => by
    have h' : w < sh.length ∧ ts.length = (sh.getD w (0, 0)).1 ∧ ∀ t ∈ ts, Th.ok (sh.getD i (0, 0)).1 (sh.getD i (0, 0)).2 4 t := by cases d <;> (unfold St.ok at h; exact h.2)
    have x := sm.one i
    have y := sm.two i
    have z := sm.len
    unfold St.low
    exact ⟨by omega, fun t ht => th_low (by omega) (by omega) (h'.2.2 t ht)⟩
theorem sts_low {sh : List (Nat × Nat)} (sm : Sm sh) {i : Nat} : ∀ {b : Sts} {d : Nat}, Sts.ok sh i d b → b.low
  | .nil, d, h => by unfold Sts.low; trivial
  | .cons s r, d, h => by
    unfold Sts.ok at h
    unfold Sts.low
    exact ⟨st_low sm h.1, sts_low sm h.2⟩
end
/-- short, without blanks and ends of lines -/
noncomputable def Neat (w : Str) : Prop := w.length ≤ 4 ∧ ¬ 32 ∈ tl w ∧ ¬ 10 ∈ tl w
instance {w : Str} : Decidable (Neat w) := by unfold Neat; infer_instance
theorem neat_nW : ∀ n, n < 100 → Neat (nW n) := by decide +kernel
theorem th_neat : ∀ {t : Th}, t.low → ∀ w ∈ t.words, Neat w
  | .num n, h, w, hw => by cases List.mem_singleton.mp hw; exact neat_nW n h
  | .own n, h, w, hw => by
    rcases List.mem_cons.mp hw with rfl | hw
    · decide +kernel
    · cases List.mem_singleton.mp hw; exact neat_nW n h
  | .par n, h, w, hw => by
    rcases List.mem_cons.mp hw with rfl | hw
    · decide +kernel
    · cases List.mem_singleton.mp hw; exact neat_nW n h
  | .cell t, h, w, hw => by
    rcases List.mem_cons.mp hw with rfl | hw
    · decide +kernel
    · exact th_neat (t := t) h w hw
  | .sum a b, h, w, hw => by
    rcases List.mem_cons.mp hw with rfl | hw
    · decide +kernel
    · rcases List.mem_append.mp hw with hw | hw
      · exact th_neat (t := a) h.1 w hw
      · exact th_neat (t := b) h.2 w hw
theorem ths_neat : ∀ {ts : List Th}, (∀ t ∈ ts, t.low) → ∀ w ∈ wordsOf ts, Neat w
  | [], _, w, hw => by cases hw
  | t :: ts, h, w, hw => by
    rcases List.mem_append.mp (show w ∈ t.words ++ wordsOf ts from hw) with hw | hw
    · exact th_neat (h t List.mem_cons_self) w hw
    · exact ths_neat (ts := ts) (fun u hu => h u (List.mem_cons_of_mem _ hu)) w hw
theorem neat_opn : ∀ w ∈ opn, Neat w := by decide +kernel
theorem neat_mid : ∀ w ∈ mid, Neat w := by decide +kernel
theorem neat_cls : ∀ w ∈ cls, Neat w := by decide +kernel
mutual
theorem st_neat : ∀ {s : St}, s.low → ∀ w ∈ s.words, Neat w
  | .set p t, h, w, hw => by
    unfold St.low at h
    unfold St.words at hw
    rcases List.mem_cons.mp hw with rfl | hw
    · decide +kernel
    · rcases List.mem_append.mp hw with hw | hw
      · exact th_neat h.1 w hw
      · exact th_neat h.2 w hw
  | .say t, h, w, hw => by
    unfold St.low at h
    unfold St.words at hw
    rcases List.mem_cons.mp hw with rfl | hw
    · decide +kernel
    · exact th_neat h w hw
  | .ite t a b, h, w, hw => by
    unfold St.low at h
    unfold St.words at hw
    rcases List.mem_cons.mp hw with rfl | hw
    · decide +kernel
    · simp only [List.mem_append] at hw
      rcases hw with hw | ((((hw | hw) | hw) | hw) | hw)
      · exact th_neat h.1 w hw
      · exact neat_opn w hw
      · exact sts_neat h.2.1 w hw
      · exact neat_mid w hw
      · exact sts_neat h.2.2 w hw
      · exact neat_cls w hw
  | .call k ts, h, w, hw => by
    unfold St.low at h
    unfold St.words at hw
    simp only [List.mem_append, List.mem_cons, List.not_mem_nil, or_false] at hw
    rcases hw with ((rfl | rfl) | hw) | rfl
    · decide +kernel
    · exact neat_nW k h.1
    · exact ths_neat h.2 w hw
    · decide +kernel
theorem sts_neat : ∀ {b : Sts}, b.low → ∀ w ∈ b.words, Neat w
  | .nil, h, w, hw => by unfold Sts.words at hw; cases hw
  | .cons s r, h, w, hw => by
    unfold Sts.low at h
    unfold Sts.words at hw
    rcases List.mem_append.mp hw with hw | hw
    · exact st_neat h.1 w hw
    · exact sts_neat h.2 w hw
end
theorem sum_le {ys : List Str} {k : Nat} (h : ∀ w ∈ ys, w.length ≤ k) : (ys.map (·.length)).sum ≤ k * ys.length := by
  induction ys with
  | nil => exact Nat.zero_le _
  | cons y ys ih =>
    have a := ih fun w hw => h w (List.mem_cons_of_mem _ hw)
    have b := h y List.mem_cons_self
    rw [List.map_cons, List.sum_cons, List.length_cons, Nat.mul_succ]
    omega
theorem len_joinL {y : List Nat} : ∀ {ys : List (List Nat)}, (joinL y ys).length ≤ (ys.map List.length).sum + ys.length * y.length
  | [] => Nat.zero_le _
  | [p] => by show p.length ≤ p.length + 0 + 1 * y.length; omega
  | p :: q :: r => by
    have ih := len_joinL (y := y) (ys := q :: r)
    show (p ++ (y ++ joinL y (q :: r))).length ≤ _
    rw [List.length_append, List.length_append, List.map_cons, List.sum_cons, List.length_cons (as := q :: r), Nat.succ_mul]
    omega
theorem tl_len {x : Str} : (tl x).length = x.length := Array.length_toList
theorem join_len {y : Str} {ys : List Str} : (Txt.join y ys).length ≤ (ys.map (·.length)).sum + ys.length * y.length := by
  have h := len_joinL (y := tl y) (ys := ys.map tl)
  rw [join_eq, ← tl_len, tl_join]
  rw [List.map_map, List.length_map, tl_len] at h
  have e : (ys.map (List.length ∘ tl)) = ys.map (·.length) := List.map_congr_left fun x _ => tl_len
  rw [e] at h
  exact h
theorem wk_neat {w : Wk} (h1 : w.params < 100) (h2 : w.owns < 100) (h : w.body.low) : ∀ x ∈ w.words, Neat x := by
  intro x hx
  unfold Wk.words at hx
  simp only [List.mem_append, List.mem_cons, List.not_mem_nil, or_false] at hx
  rcases hx with (rfl | rfl) | hx
  · exact neat_nW _ h1
  · exact neat_nW _ h2
  · exact sts_neat h x hx
theorem line_len {w : Wk} (h : ∀ x ∈ w.words, Neat x) (l : w.words.length ≤ 15002) : (w.words.map (·.length)).sum + w.words.length * 1 ≤ 80000 ∧ w.line.length ≤ 80000 := by
  have a := sum_le (k := 4) fun x hx => (h x hx).1
  have b : w.line.length ≤ (w.words.map (·.length)).sum + w.words.length * 1 := join_len
  exact ⟨by omega, by omega⟩
theorem Sts.ok_drop {sh : List (Nat × Nat)} {i : Nat} : ∀ {b : Sts} {d j : Nat}, Sts.ok sh i d b → Sts.ok sh i d (b.drop j)
  | b, d, 0, h => by cases b <;> exact h
  | .nil, d, j + 1, h => by show Sts.ok sh i d .nil; unfold Sts.ok; trivial
  | .cons s r, d, j + 1, h => by
    unfold Sts.ok at h
    exact Sts.ok_drop (b := r) (j := j) h.2
theorem Sts.many_cut : ∀ (b : Sts) (j : Nat), (b.take j).many + (b.drop j).many = b.many
  | b, 0 => by
    have e : (b.take 0).many = 0 := by cases b <;> rfl
    have f : b.drop 0 = b := by cases b <;> rfl
    rw [e, f, Nat.zero_add]
  | .nil, j + 1 => rfl
  | .cons s r, j + 1 => by
    have := Sts.many_cut r j
    show s.many + (r.take j).many + (r.drop j).many = s.many + r.many
    omega
theorem Sts.take_all : ∀ (b : Sts), b.take b.len = b
  | .nil => rfl
  | .cons s r => by
    show Sts.cons s (r.take r.len) = _
    rw [Sts.take_all r]
end Hw
namespace Hw
open PySem PySem.Spec PyProof.Rows L2
mutual
noncomputable def St.lit : St → Prop
  | .set p t => p.lit ∧ t.lit
  | .say t => t.lit
  | .ite t a b => t.lit ∧ a.lit ∧ b.lit
  | .call _ ts => ∀ t ∈ ts, t.lit
noncomputable def Sts.lit : Sts → Prop
  | .nil => True
  | .cons s r => s.lit ∧ r.lit
end
theorem Th.ok_lit {p o : Nat} : ∀ {t : Th} {d : Nat}, t.ok p o d → t.lit
  | .num k, d, h => by
    unfold Th.lit
    cases d <;> exact h
  | .own k, d, h => by unfold Th.lit; trivial
  | .par k, d, h => by unfold Th.lit; trivial
  | .cell t, 0, h => h.elim
  | .cell t, d + 1, h => by
    unfold Th.lit
    exact Th.ok_lit (t := t) (d := d) h
  | .sum a b, 0, h => h.elim
  | .sum a b, d + 1, h => by
    unfold Th.lit
    exact ⟨Th.ok_lit (t := a) (d := d) h.1, Th.ok_lit (t := b) (d := d) h.2⟩
mutual
theorem St.ok_lit {sh : List (Nat × Nat)} {i : Nat} : ∀ {s : St} {d : Nat}, St.ok sh i d s → s.lit
  | .set p t, d, h => by
    unfold St.lit
    have h' : p.isPlace = true ∧ Th.ok (sh.getD i (0, 0)).1 (sh.getD i (0, 0)).2 4 p ∧ Th.ok (sh.getD i (0, 0)).1 (sh.getD i (0, 0)).2 4 t := by cases d <;> (unfold St.ok at h; exact h)
    exact ⟨Th.ok_lit h'.2.1, Th.ok_lit h'.2.2⟩
  | .say t, d, h => by
    unfold St.lit
    have h' : Th.ok (sh.getD i (0, 0)).1 (sh.getD i (0, 0)).2 4 t := by cases d <;> (unfold St.ok at h; exact h)
    exact Th.ok_lit h'
  | .ite t a b, 0, h => by
    unfold St.ok at h
    exact h.elim
  | .ite t a b, d + 1, h => by
    unfold St.ok at h
    unfold St.lit
    exact ⟨Th.ok_lit h.1, Sts.ok_lit h.2.1, Sts.ok_lit h.2.2⟩
  | .call k ts, d, h => by
    unfold St.lit
    intro t ht
    have h' : i < k ∧ k < sh.length ∧ ts.length = (sh.getD k (0, 0)).1 ∧ ∀ t ∈ ts, Th.ok (sh.getD i (0, 0)).1 (sh.getD i (0, 0)).2 4 t := by cases d <;> (unfold St.ok at h; exact h)
    exact Th.ok_lit (h'.2.2.2 t ht)
theorem Sts.ok_lit {sh : List (Nat × Nat)} {i : Nat} : ∀ {s : Sts} {d : Nat}, Sts.ok sh i d s → s.lit
  | .nil, d, h => by unfold Sts.lit; trivial
  | .cons s r, d, h => by
    unfold Sts.ok at h
    unfold Sts.lit
    exact ⟨St.ok_lit h.1, Sts.ok_lit h.2⟩
end
end Hw
namespace Hw
open PySem PySem.Spec PyProof.Rows L2
/-- how a work is made anew: its row of ways, its own cells, where holders begin; whether it holds -/
structure Mk where
  row : List Str
  owns : Nat
  held : Nat
  holds : Bool
noncomputable def Mk.way (m : Mk) (k : Nat) : Str := m.row.getD k ""
noncomputable def isNew (w : Str) : Bool := decide (w = "copy") || decide (w = "back")
noncomputable def kT (m : Mk) : Th → Th
  | .num n => .num n
  | .own k => .own k
  | .sum a b => .sum (kT m a) (kT m b)
  | .cell t => .cell (kT m t)
  | .par k => if isNew (m.way k) = true then .own (m.owns + k) else .par k
/-- what stands for what: M places of both runs, F holders of the second with what they keep -/
structure KS (M F : Nat → Nat → Prop) (a b : List Nat) : Prop where
  com : ∀ i, i < 3 → M i i
  inj : ∀ p q p' q', M p q → M p' q' → (p = p' ↔ q = q')
  val : ∀ p q, M p q → ∃ v, a[p]? = some v ∧ b[q]? = some v
  fro : ∀ h v, F h v → b[h]? = some v
  sep : ∀ h v p, F h v → ¬ M p h
section
variable (F : Nat → Nat → Prop)
mutual
/-- what is handed is the place q, at whatever time -/
noncomputable def ResH (q : Nat) : Hd → Prop
  | .road p _ => p = q
  | .want t g => ResT q t g
noncomputable def ResT (q : Nat) : Th → Fr → Prop
  | .own j, .mk os _ => os[j]? = some q
  | .cell (.num n), .mk _ _ => n = q
  | .cell (.own j), .mk os _ => ∃ h, os[j]? = some h ∧ F h q
  | .par j, .mk _ hs => ResHs q j hs
  | .num _, .mk _ _ => False
  | .sum _ _, .mk _ _ => False
  | .cell (.sum _ _), .mk _ _ => False
  | .cell (.cell _), .mk _ _ => False
  | .cell (.par _), .mk _ _ => False
noncomputable def ResHs (q : Nat) : Nat → Hds → Prop
  | _, .nil => False
  | 0, .cons d _ => ResH q d
  | j + 1, .cons _ r => ResHs q j r
end
end
noncomputable def numHd (b : List Nat) (n : Nat) : Hd → Option Nat
  | .road p _ => b[p]?
  | .want t g => numF b n g t
noncomputable def roadHd (b : List Nat) (n : Nat) : Hd → Option (Option (Nat × List Nat))
  | .road p ws => some (some (p, ws))
  | .want t g => roadF b n g t
theorem ResHs.get {F : Nat → Nat → Prop} {q : Nat} : ∀ {j : Nat} {hs : Hds}, ResHs F q j hs → ∃ d, hs.get j = some d ∧ ResH F q d
  | _, .nil, h => by unfold ResHs at h; exact h.elim
  | 0, .cons d r, h => by
    unfold ResHs at h
    exact ⟨d, rfl, h⟩
  | j + 1, .cons d r, h => by
    unfold ResHs at h
    obtain ⟨d', h1, h2⟩ := ResHs.get h
    exact ⟨d', h1, h2⟩
theorem ResHs.of {F : Nat → Nat → Prop} {q : Nat} : ∀ {j : Nat} {hs : Hds} {d : Hd}, hs.get j = some d → ResH F q d → ResHs F q j hs
  | _, .nil, d, e, _ => by unfold Hds.get at e; cases e
  | 0, .cons d r, d', e, h => by
    unfold Hds.get at e
    cases e
    unfold ResHs
    exact h
  | j + 1, .cons d r, d', e, h => by
    unfold Hds.get at e
    unfold ResHs
    exact ResHs.of e h
section
variable (M F : Nat → Nat → Prop) (info : Nat → Mk)
mutual
noncomputable def KFr : Nat → Fr → Fr → Prop
  | w, .mk os hs, g => ∃ os' hs', g = .mk os' hs' ∧ (∀ (k p : Nat), os[k]? = some p → ∃ q, os'[k]? = some q ∧ M p q) ∧ KHds w 0 os' hs hs'
noncomputable def KHds : Nat → Nat → List Nat → Hds → Hds → Prop
  | _, _, _, .nil, h' => h' = .nil
  | w, k, os', .cons d r, h' => ∃ d' r', h' = .cons d' r' ∧ KHd w k os' d d' ∧ KHds w (k + 1) os' r r'
noncomputable def KHd : Nat → Nat → List Nat → Hd → Hd → Prop
  | w, k, os', .road p _, d' => (isNew ((info w).way k) = true ∧ ∃ q, os'[(info w).owns + k]? = some q ∧ M p q) ∨ (isNew ((info w).way k) = false ∧ ∃ q, M p q ∧ ResH F q d')
  | w, k, _, .want t f, d' => isNew ((info w).way k) = false ∧ ∃ w2 g, d' = .want (kT (info w2) t) g ∧ KFr w2 f g
end
end
section
variable {M F M' F' : Nat → Nat → Prop} {info : Nat → Mk} {a b : List Nat}
mutual
theorem ResH.mono (hF : ∀ p q, F p q → F' p q) {q : Nat} : ∀ {d : Hd}, ResH F q d → ResH F' q d
  | .road p _, h => by unfold ResH at h ⊢; exact h
  | .want t g, h => by unfold ResH at h ⊢; exact ResT.mono hF h
theorem ResT.mono (hF : ∀ p q, F p q → F' p q) {q : Nat} : ∀ {t : Th} {g : Fr}, ResT F q t g → ResT F' q t g
  | .own j, .mk os _, h => by unfold ResT at h ⊢; exact h
  | .cell (.num n), .mk _ _, h => by unfold ResT at h ⊢; exact h
  | .cell (.own j), .mk os _, h => by
    unfold ResT at h ⊢
    obtain ⟨x, h1, h2⟩ := h
    exact ⟨x, h1, hF _ _ h2⟩
  | .par j, .mk _ hs, h => by unfold ResT at h ⊢; exact ResHs.mono hF h
  | .num _, .mk _ _, h => by unfold ResT at h; exact h.elim
  | .sum _ _, .mk _ _, h => by unfold ResT at h; exact h.elim
  | .cell (.sum _ _), .mk _ _, h => by unfold ResT at h; exact h.elim
  | .cell (.cell _), .mk _ _, h => by unfold ResT at h; exact h.elim
  | .cell (.par _), .mk _ _, h => by unfold ResT at h; exact h.elim
theorem ResHs.mono (hF : ∀ p q, F p q → F' p q) {q : Nat} : ∀ {j : Nat} {hs : Hds}, ResHs F q j hs → ResHs F' q j hs
  | _, .nil, h => by unfold ResHs at h; exact h.elim
  | 0, .cons d _, h => by unfold ResHs at h ⊢; exact ResH.mono hF h
  | j + 1, .cons _ r, h => by unfold ResHs at h ⊢; exact ResHs.mono hF h
end
mutual
theorem KFr.mono (hM : ∀ p q, M p q → M' p q) (hF : ∀ p q, F p q → F' p q) : ∀ {w : Nat} {f g : Fr}, KFr M F info w f g → KFr M' F' info w f g
  | w, .mk os hs, g, h => by
    unfold KFr at h ⊢
    obtain ⟨os', hs', e, h1, h2⟩ := h
    exact ⟨os', hs', e, fun k p ep => by
      obtain ⟨q, h3, h4⟩ := h1 k p ep
      exact ⟨q, h3, hM _ _ h4⟩, KHds.mono hM hF h2⟩
theorem KHds.mono (hM : ∀ p q, M p q → M' p q) (hF : ∀ p q, F p q → F' p q) : ∀ {w k : Nat} {os' : List Nat} {h h' : Hds}, KHds M F info w k os' h h' → KHds M' F' info w k os' h h'
  | _, _, _, .nil, h', e => by unfold KHds at e ⊢; exact e
  | w, k, os', .cons d r, h', e => by
    unfold KHds at e ⊢
    obtain ⟨d', r', e1, h1, h2⟩ := e
    exact ⟨d', r', e1, KHd.mono hM hF h1, KHds.mono hM hF h2⟩
theorem KHd.mono (hM : ∀ p q, M p q → M' p q) (hF : ∀ p q, F p q → F' p q) : ∀ {w k : Nat} {os' : List Nat} {d d' : Hd}, KHd M F info w k os' d d' → KHd M' F' info w k os' d d'
  | w, k, os', .road p _, d', e => by
    unfold KHd at e ⊢
    rcases e with ⟨e1, q, e2, e3⟩ | ⟨e1, q, e2, e3⟩
    · exact .inl ⟨e1, q, e2, hM _ _ e3⟩
    · exact .inr ⟨e1, q, hM _ _ e2, e3.mono hF⟩
  | w, k, _, .want t f, d', e => by
    unfold KHd at e ⊢
    obtain ⟨e1, w2, g, e2, e3⟩ := e
    exact ⟨e1, w2, g, e2, KFr.mono hM hF e3⟩
end
theorem KHds.get : ∀ {w i k : Nat} {os' : List Nat} {h h' : Hds} {d : Hd}, KHds M F info w i os' h h' → h.get k = some d → ∃ d', h'.get k = some d' ∧ KHd M F info w (i + k) os' d d'
  | w, i, k, os', .nil, h', d, _, e => by unfold Hds.get at e; cases e
  | w, i, 0, os', .cons d0 r, h', d, g, e => by
    unfold KHds at g
    unfold Hds.get at e
    cases e
    obtain ⟨d', r', rfl, h1, h2⟩ := g
    exact ⟨d', rfl, h1⟩
  | w, i, k + 1, os', .cons d0 r, h', d, g, e => by
    unfold KHds at g
    unfold Hds.get at e
    obtain ⟨d', r', rfl, h1, h2⟩ := g
    obtain ⟨d2, h3, h4⟩ := KHds.get h2 e
    rw [show i + 1 + k = i + (k + 1) by omega] at h4
    exact ⟨d2, h3, h4⟩
theorem KS.at_ (s : KS M F a b) {p q x y : Nat} (m : M p q) (e : a[p]? = some x) (e' : b[q]? = some y) : x = y := by
  obtain ⟨v, h1, h2⟩ := s.val p q m
  rw [h1] at e
  rw [h2] at e'
  cases e
  cases e'
  rfl
end
end Hw
namespace Hw
open PySem PySem.Spec PyProof.Rows L2
theorem kget_app {l r : List Nat} {i v : Nat} (h : l[i]? = some v) : (l ++ r)[i]? = some v := by
  rw [List.getElem?_append_left (List.getElem?_eq_some_iff.mp h).1]
  exact h
theorem kget_new {l : List Nat} {v : Nat} : (l ++ [v])[l.length]? = some v := by
  rw [List.getElem?_append_right (Nat.le_refl _), Nat.sub_self]
  rfl
theorem kget_lt {l : List Nat} {i v : Nat} (h : l[i]? = some v) : i < l.length := (List.getElem?_eq_some_iff.mp h).1
/-- the second list says what the first one says, and more -/
noncomputable def Pre (a b : List Nat) : Prop := ∀ i v : Nat, a[i]? = some v → b[i]? = some v
theorem Pre.refl {a : List Nat} : Pre a a := fun _ _ h => h
theorem Pre.trans {a b c : List Nat} (x : Pre a b) (y : Pre b c) : Pre a c := fun i v h => y i v (x i v h)
theorem Pre.app {a r : List Nat} : Pre a (a ++ r) := fun _ _ h => kget_app h
theorem Pre.len {a b : List Nat} (x : Pre a b) : a.length ≤ b.length := by
  by_cases c : a.length = 0
  · omega
  · have := kget_lt (x (a.length - 1) _ (List.getElem?_eq_getElem (by omega)))
    omega
section
variable (hb : Bool) (M F : Nat → Nat → Prop) (info : Nat → Mk)
/-- what the made param tells, until the first steps -/
noncomputable def Pend (B : List Nat) (d' : Hd) (v : Nat) : Prop := ∀ (B2 : List Nat) (n y : Nat), Pre B B2 → numHd B2 n d' = some y → y = v
/-- the made param is no place, or one that nobody asks -/
noncomputable def Harm (B : List Nat) (d' : Hd) : Prop := (∀ (B2 : List Nat) (n : Nat) r, roadHd B2 n d' = some r → r = none) ∨ (hb = false ∧ ∃ q ws, d' = .road q ws ∧ q < B.length ∧ (∀ p, ¬ M p q) ∧ ∀ v, ¬ F q v)
noncomputable def PRec (A B : List Nat) (w2 k lo : Nat) (d : Hd) (bo : Option Nat) (d' : Hd) : Prop :=
  (isNew ((info w2).way k) = true ∧ ∃ p ws v, d = .road p ws ∧ lo ≤ p ∧ p < A.length ∧ A[p]? = some v ∧ (∀ q, ¬ M p q) ∧ Pend B d' v ∧ ((info w2).way k ≠ "back" → bo = none) ∧ (∀ p0, bo = some p0 → ∃ q0, M p0 q0 ∧ ResH F q0 d') ∧ ((info w2).way k = "back" → bo = none → Harm hb M F B d')) ∨
  (isNew ((info w2).way k) = false ∧ bo = none ∧ ((∃ p ws q, d = .road p ws ∧ M p q ∧ ResH F q d') ∨ ∃ t f w3 g, d = .want t f ∧ d' = .want (kT (info w3) t) g ∧ KFr M F info w3 f g))
noncomputable def PRecs (A B : List Nat) (w2 : Nat) : Nat → Nat → List (Hd × Option Nat) → List (Hd × Option Nat) → Prop
  | _, _, [], r' => r' = []
  | k, lo, (d, bo) :: r, r' => ∃ d' s, r' = (d', none) :: s ∧ PRec hb M F info A B w2 k lo d bo d' ∧ ∃ lo', lo ≤ lo' ∧ (∀ p ws, d = .road p ws → isNew ((info w2).way k) = true → p < lo') ∧ PRecs A B w2 (k + 1) lo' r s
end
section
variable {hb : Bool} {M F M' : Nat → Nat → Prop} {info : Nat → Mk}
theorem Pend.mono {B B1 : List Nat} {d : Hd} {v : Nat} (h : Pend B d v) (p : Pre B B1) : Pend B1 d v := fun B2 n y p2 e => h B2 n y (p.trans p2) e
/-- more is handed -/
theorem PRec.mono {A A1 B B1 : List Nat} {w2 k lo : Nat} {d d' : Hd} {bo : Option Nat} (h : PRec hb M F info A B w2 k lo d bo d') (hM : ∀ p q, M p q → M' p q) (pa : Pre A A1) (pb : Pre B B1) (new : ∀ p q, M' p q → M p q ∨ (A.length ≤ p ∧ (hb = false → B.length ≤ q))) : PRec hb M' F info A1 B1 w2 k lo d bo d' := by
  rcases h with ⟨h1, p, ws, v, rfl, h2, h3, h4, h5, h6, h7, h8, h9⟩ | ⟨h1, h2, ⟨p, ws, q, rfl, h3, h4⟩ | ⟨t, f, w3, g, rfl, rfl, h3⟩⟩
  · refine .inl ⟨h1, p, ws, v, rfl, h2, Nat.lt_of_lt_of_le h3 pa.len, pa _ _ h4, fun q z => ?_, h6.mono pb, h7, fun p0 e => ?_, fun e1 e2 => ?_⟩
    · rcases new p q z with z | ⟨z, _⟩
      · exact h5 q z
      · omega
    · obtain ⟨q0, m0, r0⟩ := h8 p0 e
      exact ⟨q0, hM _ _ m0, r0⟩
    · rcases h9 e1 e2 with hh | ⟨hh, q, ws2, e3, lq, n1, n2⟩
      · exact .inl hh
      · refine .inr ⟨hh, q, ws2, e3, Nat.lt_of_lt_of_le lq pb.len, fun p2 z => ?_, n2⟩
        rcases new p2 q z with z | ⟨_, z⟩
        · exact n1 p2 z
        · have := z hh
          omega
  · exact .inr ⟨h1, h2, .inl ⟨p, ws, q, rfl, hM _ _ h3, h4⟩⟩
  · exact .inr ⟨h1, h2, .inr ⟨t, f, w3, g, rfl, rfl, h3.mono hM fun _ _ z => z⟩⟩
/-- a pair of new places -/
theorem KS.both {a b : List Nat} (s : KS M F a b) {v : Nat} : KS (fun p q => M p q ∨ (p = a.length ∧ q = b.length)) F (a ++ [v]) (b ++ [v]) := by
  have lt : ∀ p q, M p q → p < a.length ∧ q < b.length := fun p q m => by
    obtain ⟨v, e1, e2⟩ := s.val p q m
    exact ⟨kget_lt e1, kget_lt e2⟩
  refine ⟨fun i hi => .inl (s.com i hi), fun p q p' q' h h' => ?_, fun p q h => ?_, fun h v z => kget_app (s.fro h v z), fun h v p z m => ?_⟩
  · rcases h with h | ⟨rfl, rfl⟩ <;> rcases h' with h' | ⟨rfl, rfl⟩
    · exact s.inj p q p' q' h h'
    · have := lt p q h
      omega
    · have := lt p' q' h'
      omega
    · simp
  · rcases h with h | ⟨rfl, rfl⟩
    · obtain ⟨v, e1, e2⟩ := s.val p q h
      exact ⟨v, kget_app e1, kget_app e2⟩
    · exact ⟨v, kget_new, kget_new⟩
  · rcases m with m | ⟨_, m⟩
    · exact s.sep h v p z m
    · have := kget_lt (s.fro h v z)
      omega
end
end Hw
namespace Hw
open PySem PySem.Spec PyProof.Rows L2
section
variable {hb : Bool} {M F M' : Nat → Nat → Prop} {info : Nat → Mk}
/-- fewer pairs -/
theorem KS.less {a b : List Nat} (s : KS M' F a b) (h : ∀ p q, M p q → M' p q) (com : ∀ i, i < 3 → M i i) : KS M F a b :=
  ⟨com, fun p q p' q' h1 h2 => s.inj p q p' q' (h _ _ h1) (h _ _ h2), fun p q m => s.val p q (h _ _ m), s.fro, fun x v p z m => s.sep x v p z (h _ _ m)⟩
/-- own cells -/
theorem KS.many {a b : List Nat} (s : KS M F a b) : ∀ n, KS (fun p q => M p q ∨ ∃ i, i < n ∧ p = a.length + i ∧ q = b.length + i) F (a ++ List.replicate n 0) (b ++ List.replicate n 0)
  | 0 => by
    rw [List.replicate_zero, List.append_nil, List.append_nil]
    refine s.less (fun p q m => ?_) fun i hi => .inl (s.com i hi)
    rcases m with m | ⟨i, hi, _⟩
    · exact m
    · omega
  | n + 1 => by
    have h := (KS.many s n).both (v := 0)
    rw [List.append_assoc, List.append_assoc, ← List.replicate_succ'] at h
    refine h.less (fun p q m => ?_) fun i hi => .inl (s.com i hi)
    rcases m with m | ⟨i, hi, rfl, rfl⟩
    · exact .inl (.inl m)
    · by_cases c : i < n
      · exact .inl (.inr ⟨i, c, rfl, rfl⟩)
      · refine .inr ?_
        have : i = n := by omega
        subst this
        rw [List.length_append, List.length_append, List.length_replicate]
        exact ⟨rfl, rfl⟩
/-- what is left for the last steps -/
noncomputable def LRec (hb : Bool) (M F : Nat → Nat → Prop) (info : Nat → Mk) (B : List Nat) (w2 k : Nat) (bo : Option Nat) (d' : Hd) : Prop :=
  ((info w2).way k ≠ "back" → bo = none) ∧ (∀ p0, bo = some p0 → ∃ q0, M p0 q0 ∧ ResH F q0 d') ∧ ((info w2).way k = "back" → bo = none → Harm hb M F B d')
theorem LRec.mono {B : List Nat} {w2 k : Nat} {bo : Option Nat} {d' : Hd} (h : LRec hb M F info B w2 k bo d') (hM : ∀ p q, M p q → M' p q) (new : ∀ p q, M' p q → M p q ∨ B.length ≤ q) : LRec hb M' F info B w2 k bo d' := by
  refine ⟨h.1, fun p0 e => ?_, fun e1 e2 => ?_⟩
  · obtain ⟨q0, m, r⟩ := h.2.1 p0 e
    exact ⟨q0, hM _ _ m, r⟩
  · rcases h.2.2 e1 e2 with z | ⟨z, q, ws, e3, l, n1, n2⟩
    · exact .inl z
    · refine .inr ⟨z, q, ws, e3, l, fun p m => ?_, n2⟩
      rcases new p q m with m | m
      · exact n1 p m
      · omega
end
end Hw
namespace Hw
open PySem PySem.Spec PyProof.Rows L2
noncomputable def pw (x : Str) : Str := if x = "want" then "want" else "place"
section
variable {hb : Bool} {M F M' : Nat → Nat → Prop} {info : Nat → Mk}
theorem PRecs.none {A B : List Nat} {w2 : Nat} : ∀ {r r' : List (Hd × Option Nat)} {k lo : Nat}, PRecs hb M F info A B w2 k lo r r' → (∀ x ∈ r', x.2 = none) ∧ r'.length = r.length
  | [], r', k, lo, h => by
    unfold PRecs at h
    subst h
    exact ⟨fun x hx => (by cases hx), rfl⟩
  | (d, b) :: r, r', k, lo, h => by
    unfold PRecs at h
    obtain ⟨d', s, rfl, _, lo', _, _, h2⟩ := h
    obtain ⟨h3, h4⟩ := PRecs.none h2
    exact ⟨fun x hx => by
      rcases List.mem_cons.mp hx with rfl | hx
      · rfl
      · exact h3 x hx, by rw [List.length_cons, List.length_cons, h4]⟩
theorem PRecs.mono {A A1 B B1 : List Nat} {w2 : Nat} (hM : ∀ p q, M p q → M' p q) (pa : Pre A A1) (pb : Pre B B1) (new : ∀ p q, M' p q → M p q ∨ (A.length ≤ p ∧ (hb = false → B.length ≤ q))) : ∀ {r r' : List (Hd × Option Nat)} {k lo : Nat}, PRecs hb M F info A B w2 k lo r r' → PRecs hb M' F info A1 B1 w2 k lo r r'
  | [], r', k, lo, h => by unfold PRecs at h ⊢; exact h
  | (d, b) :: r, r', k, lo, h => by
    unfold PRecs at h ⊢
    obtain ⟨d', s, e, h1, lo', h2, h3, h4⟩ := h
    exact ⟨d', s, e, h1.mono hM pa pb new, lo', h2, h3, PRecs.mono hM pa pb new h4⟩
end
end Hw
namespace Hw
open PySem PySem.Spec PyProof.Rows L2
noncomputable def Th.isC : Th → Prop
  | .cell _ => True
  | _ => False
end Hw
namespace Hw
open PySem PySem.Spec PyProof.Rows L2
noncomputable def ww (_ : Str) : Str := "want"
end Hw
namespace Hw
open PySem PySem.Spec PyProof.Rows L2
noncomputable def most : List Nat → Nat
  | [] => 0
  | x :: r => max x (most r)
end Hw
namespace Hw
open PySem PySem.Spec PyProof.Rows L2
section
variable {K : PySem.W.Frag} {σ : L2.St} {H : Hp} {Q : VK} {te : TE}
theorem r_ext {l b : Addr} {xs zs : List V} (h : H l = some (.lst xs)) (g : H b = some (.lst zs)) (z : xs.length + zs.length ≤ sizeLine) (q : ∀ H1, H1 l = some (.lst (xs ++ zs)) → Keep [l] H H1 → Q .non H1) : rExtend (.ref l) [.ref b] H Q := ⟨l, b, xs, zs, rfl, rfl, h, g, z, q _ upd_same (Keep.put (List.mem_singleton.mpr rfl))⟩
theorem r_augN {i : Nat} {f : Int → Int → Int} {D : Ends} {k : Int} (h : σ[i]? = some (some (.int k))) (q : te σ H fun y H1 => ipI f (.int k) y H1 fun z H2 => D.nx (σ.set i (some z)) H2) : tAug i te (ipI f) D σ H := ⟨_, h, q⟩
theorem r_ipI {f : Int → Int → Int} {k j : Int} (q : Q (.int (f k j)) H) : ipI f (.int k) (.int j) H Q := ⟨k, j, rfl, rfl, q⟩
end
section
variable {X : Cx} {K : PySem.W.Frag}
theorem peExt {o e : Expr} {to te : TE} {apos cpos : Pos} (ho : PE X o to) (he : PE X e te) (h : X.K = K := by rfl)
    (h1 : attributeBase o "extend" X.env (eval o X.env) = eval o X.env := by rfl)
    (h2 : ((((backTo cpos (starEach (e :: []) X.env)).all fun x => !x.fst) && (backToKw cpos (keywordEach [] X.env)).all fun x => x.fst.isSome) && decide (((e :: []).length + ([] : List Keyword).length + if ([] : List Keyword).isEmpty = true then 0 else 1) < 30)) = true := by rfl)
    (h3 : (apos.endLine == cpos.line) = true := by rfl) (h4 : starEach (e :: []) X.env = (false, eval e X.env) :: starEach [] X.env := by rfl) (h5 : ((backTo cpos (starEach [] X.env)).any fun x => x.fst) = false := by rfl) :
    PE X (.Call (.Attribute o "extend" apos) [e] [] cpos) (tBM K "list" rExtend to (tCons te tNil)) := h ▸ pe_bm PySem.F.plainAttrs_list PySem.F.slot_list_extend PySem.F.type_list_extend mt_extend ho (pa_cons he pa_nil h4) h1 h2 h3 h4 h5
end
/-- a Making -/
noncomputable def makF (vw vr : V) (o h : Int) (b : Bool) : List (Str × V) := [("ways", vw), ("row", vr), ("owns", .int o), ("held", .int h), ("holds", .bl b)]
noncomputable def encRow (row : List Str) : PyData := .tuple (row.map PyData.str)
/-- a Making in the heap -/
noncomputable def MakAt (K : PySem.W.Frag) (H : Hp) (cM : Addr) (W : List (List Str)) (m : Mk) (v : V) : Prop := ∃ (a dx : Addr) (vw vr : V), v = .ref a ∧ H a = some (.ins cM dx (makF vw vr (m.owns : Int) (m.held : Int) m.holds)) ∧ Rp K H vw (encW W) ∧ Rp K H vr (encRow m.row)
end Hw
namespace Hw
open PySem PySem.Spec PyProof.Rows L2 TL
section
variable {H : Hp} {Q : VK} {σ : L2.St} {K : PySem.W.Frag}
theorem cutV_up {xs : List V} {k : Nat} : cutV xs none (some (k : Int)) = xs.take k := by
  show (xs.drop 0).take (HT.sIx xs.length xs.length (some (k : Int)) - 0) = _
  rw [HT.sIx_nat, List.drop_zero, Nat.sub_zero]
  by_cases h : k ≤ xs.length
  · rw [Nat.min_eq_left h]
  · rw [Nat.min_eq_right (by omega), List.take_of_length_le (Nat.le_refl _), List.take_of_length_le (by omega)]
theorem cutV_down {xs : List V} {k : Nat} : cutV xs (some (k : Int)) none = xs.drop k := by
  show (xs.drop (HT.sIx xs.length 0 (some (k : Int)))).take (xs.length - HT.sIx xs.length 0 (some (k : Int))) = _
  rw [HT.sIx_nat]
  by_cases h : k ≤ xs.length
  · rw [Nat.min_eq_left h, List.take_of_length_le (by rw [List.length_drop]; exact Nat.le_refl _)]
  · rw [Nat.min_eq_right (by omega), Nat.sub_self, List.take_zero, List.drop_eq_nil_of_le (by omega)]
end
end Hw
namespace Hw
open PySem PySem.Spec PyProof.Rows L2
mutual
noncomputable def Fr.okv (L : Nat) : Nat → Nat → Nat → Fr → Prop
  | p, o, d, .mk os hs => os.length = o ∧ (∀ x ∈ os, x < L) ∧ hs.okv L p d
noncomputable def Hd.okv (L : Nat) : Nat → Hd → Prop
  | _, .road q _ => q < L
  | d, .want t f => ∃ d' p o, d' < d ∧ t.ok p o 4 ∧ f.okv L p o d'
noncomputable def Hds.okv (L : Nat) : Nat → Nat → Hds → Prop
  | p, _, .nil => p = 0
  | p, d, .cons h r => ∃ p', p = p' + 1 ∧ h.okv L d ∧ r.okv L p' d
end
mutual
theorem Fr.okv.mono {L L' : Nat} (l : L ≤ L') : ∀ {f : Fr} {p o d d' : Nat}, d ≤ d' → f.okv L p o d → f.okv L' p o d'
  | .mk os hs, p, o, d, d', h, g => by
    unfold Fr.okv at g ⊢
    exact ⟨g.1, fun x hx => Nat.lt_of_lt_of_le (g.2.1 x hx) l, Hds.okv.mono l h g.2.2⟩
theorem Hd.okv.mono {L L' : Nat} (l : L ≤ L') : ∀ {h : Hd} {d d' : Nat}, d ≤ d' → h.okv L d → h.okv L' d'
  | .road q _, d, d', h, g => by
    unfold Hd.okv at g ⊢
    exact Nat.lt_of_lt_of_le g l
  | .want t f, d, d', h, g => by
    unfold Hd.okv at g ⊢
    obtain ⟨e, p, o, h1, h2, h3⟩ := g
    exact ⟨e, p, o, Nat.lt_of_lt_of_le h1 h, h2, Fr.okv.mono l (Nat.le_refl _) h3⟩
theorem Hds.okv.mono {L L' : Nat} (l : L ≤ L') : ∀ {hs : Hds} {p d d' : Nat}, d ≤ d' → hs.okv L p d → hs.okv L' p d'
  | .nil, p, d, d', h, g => by
    unfold Hds.okv at g ⊢
    exact g
  | .cons a r, p, d, d', h, g => by
    unfold Hds.okv at g ⊢
    obtain ⟨p', h1, h2, h3⟩ := g
    exact ⟨p', h1, Hd.okv.mono l h h2, Hds.okv.mono l h h3⟩
end
theorem Hds.okv.get {L : Nat} : ∀ {hs : Hds} {p d i : Nat}, hs.okv L p d → i < p → ∃ h, hs.get i = some h ∧ h.okv L d
  | .nil, p, d, i, g, hi => by
    unfold Hds.okv at g
    omega
  | .cons a r, p, d, 0, g, hi => by
    unfold Hds.okv at g
    obtain ⟨p', h1, h2, h3⟩ := g
    exact ⟨a, rfl, h2⟩
  | .cons a r, p, d, i + 1, g, hi => by
    unfold Hds.okv at g
    obtain ⟨p', h1, h2, h3⟩ := g
    obtain ⟨h, e1, e2⟩ := Hds.okv.get (i := i) h3 (by omega)
    exact ⟨h, e1, e2⟩
structure AtOk (a : List Nat) : Prop where
  l : 3 ≤ a.length
  v : ∀ x ∈ a, x < 3
theorem AtOk.get {a : List Nat} (g : AtOk a) {i : Nat} (h : i < a.length) : ∃ v, a[i]? = some v ∧ v < 3 := ⟨a[i], List.getElem?_eq_getElem h, g.v _ (List.getElem_mem h)⟩
theorem AtOk.app {a : List Nat} (g : AtOk a) {v : Nat} (h : v < 3) : AtOk (a ++ [v]) := ⟨by rw [List.length_append]; have := g.l; omega, fun x hx => by
  rcases List.mem_append.mp hx with hx | hx
  · exact g.v x hx
  · cases List.mem_singleton.mp hx
    exact h⟩
theorem AtOk.set {a : List Nat} (g : AtOk a) {i v : Nat} (h : v < 3) : AtOk (a.set i v) := ⟨by rw [List.length_set]; exact g.l, fun x hx => by
  rcases List.mem_or_eq_of_mem_set hx with hx | hx
  · exact g.v x hx
  · rw [hx]; exact h⟩
noncomputable def LS.size (S : LS) : Nat := S.at_.length + S.said.length + S.many
end Hw
namespace Hw
open PySem PySem.Spec PyProof.Rows L2
section
variable {K : PySem.W.Frag} {σ σ2 : L2.St} {H : Hp} {Q : VK} {te : TE}
/-- the inner for -/
noncomputable def InIt (E : Addr) (J1 : It) (g1 : TG) (tt1 : TT) (te : TE) (vs1 : List Nat) (σ2 : L2.St) (H4 : Hp) (Nx : Hp → Prop) : Prop := ∃ W1 : Nat → Nat → Hp → Prop, (∃ m, W1 0 m H4) ∧ ∀ j k H, W1 j k H →
  (J1.stop j H ∧ Nx H) ∨ (J1.go j H ∧ ∃ Nx1 : Hp → Prop, (∀ H', Nx1 H' → ∃ k', k' < k ∧ W1 (j + 1) k' H') ∧ ∀ x H', J1.yld j H x H' → g1 x (wipe σ2 vs1) H' fun σ3 H5 => wipe σ3 vs1 = wipe σ2 vs1 ∧ tt1 σ3 H5 fun b H6 =>
    if b = true then te σ3 H6 fun y H7 => ∃ acc, H7 E = some (.lst acc) ∧ acc.length < sizeLine ∧ Nx1 (upd H7 E (.lst (acc ++ [y]))) else Nx1 H6)
noncomputable def Lc2It (J : It) (g : TG) (tt : TT) (wi1 : TI) (g1 : TG) (tt1 : TT) (te : TE) (vs vs1 : List Nat) (σ : L2.St) (H1 : Hp) (Q : VK) : Prop := ∀ D, H1 D = none → ∃ W : Nat → Nat → Hp → Prop, (∃ m, W 0 m (upd H1 D (.lst []))) ∧ ∀ i m H, W i m H →
  (J.stop i H ∧ Q (.ref D) H) ∨ (J.go i H ∧ ∃ Nx : Hp → Prop, (∀ H', Nx H' → ∃ m', m' < m ∧ W (i + 1) m' H') ∧ ∀ x H', J.yld i H x H' → g x (wipe σ vs) H' fun σ2 H2 => wipe σ2 vs = wipe σ vs ∧ tt σ2 H2 fun b H3 =>
    if b = true then wi1 σ2 H3 fun J1 H4 => InIt D J1 g1 tt1 te vs1 σ2 H4 Nx else Nx H3)
theorem r_lc2 {wi wi1 : TI} {g g1 : TG} {tt tt1 : TT} {vs vs1 : List Nat} (h : wi σ H fun J H1 => Lc2It J g tt wi1 g1 tt1 te vs vs1 σ H1 Q) : tLc2 wi g tt wi1 g1 tt1 te vs vs1 σ H Q := h
end
end Hw
namespace Hw
open PySem PySem.Spec PyProof.Rows L2
section
noncomputable def top (i : Nat) : Stmt := PySem.Challenge.pw_handways_k01_programs_and_ways_refused.main.body.getD i (.Pass ⟨0, 0, 0, 0⟩)
local macro_rules | `(tactic| walk_at "sz") => `(tactic| first | exact Nat.le_of_ble_eq_true rfl | exact small (by first | omega | (simp; done) | (simp; omega)))
local macro_rules | `(tactic| walk_at "szT") => `(tactic| first | exact Nat.lt_of_lt_of_le (Nat.lt_succ_self _) (Nat.le_of_ble_eq_true rfl) | exact smallT (by first | omega | (simp; done) | (simp; omega)))
local macro_rules | `(tactic| walk_at "cond") => `(tactic| first | decide | omega | (dsimp only; omega) | exact ⟨by omega, by omega⟩ | exact .inr ⟨by decide, by decide⟩)
local macro_rules | `(tactic| walk_at "sq") => `(tactic| first | assumption | exact SqL.of (by assumption) | exact SqT.of (by assumption))
local macro_rules | `(tactic| walk_at "ty") => `(tactic| first | (with_reducible assumption) | exact .base (.int _) | exact .base (.str _) | exact .base (.bl _) | exact .base .non | exact tyT (by walk_at "sq") | exact tyL (by walk_at "sq"))
local macro_rules | `(tactic| walk_at "rd") => `(tactic| repeat (first
  | ((with_reducible apply r_var); exact rfl)
  | ((with_reducible apply r_cons))
  | ((with_reducible apply r_c))
  | ((with_reducible apply r_op))
  | ((with_reducible apply r_nil))
  | ((with_reducible apply r_bl))
  | ((with_reducible apply r_seq))
  | ((with_reducible apply r_test))
  | ((with_reducible apply r_if))
  | ((with_reducible apply r_ixT); (walk_at "sq"); first | exact rfl | assumption)
  | ((with_reducible apply r_name))
  | ((with_reducible apply r_call))
  | ((fail_if_success (first | (with_reducible apply stopAsk) | (with_reducible intro _) | (with_reducible apply stopEx) | (with_reducible apply stopFor) | (with_reducible apply stopLc) | (with_reducible apply stopAnd) | (with_reducible apply stopOr))); first
    | ((with_reducible apply ite_t); (first | (with_reducible exact nRN) | (with_reducible exact nIN) | (with_reducible exact dNN) | decide +kernel))
    | ((with_reducible apply ite_f); (first | (with_reducible exact dRN) | (with_reducible exact dIN) | (with_reducible exact nNN) | decide +kernel))
    | ((with_reducible apply r_next))
    | ((with_reducible apply r_eq); exact rfl)
    | ((with_reducible apply new); (walk_at "sz"))
    | ((with_reducible apply r_ret))
    | ((with_reducible apply r_asg))
    | ((with_reducible apply r_cb))
    | ((with_reducible apply r_tup))
    | ((with_reducible apply r_B))
    | ((with_reducible apply r_I0))
    | ((with_reducible apply r_drop))
    | ((with_reducible apply r_isi); (walk_at "ty"); (decide +kernel))
    | ((with_reducible apply r_ixL); (walk_at "sq"); first | exact rfl | assumption)
    | ((with_reducible apply r_fld))
    | ((with_reducible apply r_fld1); assumption; assumption; assumption; (first | exact rfl | assumption))
    | ((with_reducible apply r_gcons))
    | ((with_reducible apply r_lst))
    | ((with_reducible apply r_not))
    | ((with_reducible apply r_for))
    | ((with_reducible apply r_isL); (walk_at "sq"))
    | ((with_reducible apply r_append))
    | ((with_reducible apply r_dgetS); assumption; (walk_at "dk"))
    | ((with_reducible apply r_app); assumption; (walk_at "szT"))
    | ((with_reducible apply r_dget))
    | ((with_reducible apply r_in); (first | exact .inl (by walk_at "sq") | exact .inr (by walk_at "sq")); exact rfl; (first | exact nums_flat | exact rfl))
    | ((with_reducible apply r_notN))
    | ((with_reducible apply r_ifE))
    | ((with_reducible apply r_sfld))
    | ((with_reducible apply r_sfld1); assumption; assumption; assumption; exact (by decide))
    | ((with_reducible apply r_lc))
    | ((with_reducible apply r_iTup))
    | ((with_reducible apply r_gtup); (walk_at "sq"); rfl)
    | ((with_reducible apply r_gnil))
    | ((with_reducible apply r_lenT); (walk_at "sq"))
    | ((with_reducible apply r_overT); (walk_at "sq"))
    | ((with_reducible apply r_I); (walk_at "cond"))
    | ((with_reducible apply acc); assumption; (walk_at "szT"))
    | ((with_reducible apply r_ne); exact rfl)
    | ((with_reducible apply r_tupL); (walk_at "sq"))
    | ((with_reducible apply r_isN))
    | ((with_reducible apply r_iRng1))
    | ((with_reducible apply r_rng); (first | decide | omega | (simp; omega)); (first | decide | omega | (simp; omega)))
    | ((with_reducible apply r_lenL); (walk_at "sq"))
    | ((with_reducible apply r_ixA); (first | exact .inl (by walk_at "sq") | exact .inr (by walk_at "sq")); first | exact rfl | assumption)
    | ((with_reducible apply r_isiT2); assumption; (walk_at "ty"); (decide +kernel); (decide +kernel))
    | ((with_reducible apply r_retN))
    | ((with_reducible apply r_int))
    | ((with_reducible apply r_intB))
    | ((with_reducible apply r_notV))
    | ((with_reducible apply r_andV))
    | ((with_reducible apply r_orV))
    | ((with_reducible apply r_chain))
    | ((with_reducible apply turn))
    | ((with_reducible apply r_iList))
    | ((with_reducible apply r_overL); (walk_at "sq"))
    | ((with_reducible apply r_sub))
    | ((with_reducible apply r_setL); assumption; exact rfl)
    | ((with_reducible apply r_par))
    | ((with_reducible apply r_par2))
    | ((with_reducible apply r_sl))
    | ((with_reducible apply r_part))
    | ((with_reducible apply r_part1))
    | ((with_reducible apply r_noPart))
    | ((with_reducible apply r_slL); (walk_at "sq"))
    | ((with_reducible apply r_slA); (walk_at "sq"))
    | ((with_reducible apply r_tupT); (walk_at "sq"))
    | ((with_reducible apply r_lstL); (walk_at "sq"))
    | ((with_reducible apply r_lstT); (walk_at "sq"))
    | ((with_reducible apply r_dput))
    | ((with_reducible apply r_dputS); assumption; (walk_at "szT"))
    | ((with_reducible apply r_disp))
    | ((with_reducible apply r_pnil))
    | ((with_reducible apply r_pcons)))))
section
variable {P : Program} {w : World} {K : PySem.W.Frag} {mg : Str → Option Value} {base : Heap}
/-- the script: locked, or written -/
noncomputable def Scr (K : PySem.W.Frag) (H : Hp) (a : Addr) (ns : List Int) : Prop := (∃ o, H a = some (.frz o (.lst (ns.map V.int)))) ∨ ((fun _ => none : Hp) a = none ∧ SqL K (fun _ => none) a (ns.map V.int))
theorem Scr.sq {H : Hp} {a : Addr} {ns : List Int} (h : Scr K H a ns) : SqL K H a (ns.map V.int) := by
  rcases h with ⟨o, h⟩ | ⟨_, h⟩
  · exact .inl (.inr ⟨o, h⟩)
  · rcases h with (h | ⟨o, h⟩) | h
    · cases h
    · cases h
    · exact .inr h
theorem Scr.ts {H H1 : Hp} {a : Addr} {ns : List Int} (h : Scr K H a ns) (t : Tst H H1) : Scr K H1 a ns := by
  rcases h with ⟨o, h⟩ | h
  · exact .inl ⟨o, t.2 _ _ _ h⟩
  · exact .inr h
noncomputable def Row (K : PySem.W.Frag) (H : Hp) (r : Addr) : Prop := ∃ (scr : Addr) (ns : List Int) (i m d : Int), H r = some (.lst [.ref scr, .int i, .int m, .int d]) ∧ Scr K H scr ns ∧ 0 ≤ i
theorem Row.keep {M : List Addr} {H H1 : Hp} {r : Addr} (h : Row K H r) (k : Keep M H H1) (n : r ∉ M) (t : Tst H H1) : Row K H1 r := by
  obtain ⟨scr, ns, i, m, d, hR, hS, i0⟩ := h
  exact ⟨scr, ns, i, m, d, k _ _ hR n, hS.ts t, i0⟩
theorem keep_ts0 {H H1 : Hp} (k : Keep [] H H1) : Tst H H1 := k.ts fun _ z => nomatch z
theorem Row.keep0 {H H1 : Hp} {r : Addr} (h : Row K H r) (k : Keep [] H H1) : Row K H1 r := h.keep k (by simp) (keep_ts0 k)
theorem Row.lo {H : Hp} {r : Addr} (h : Row K H r) : Lo H [r] := fun a ha => by
  obtain ⟨scr, ns, i, m, d, hR, hS, i0⟩ := h
  cases List.mem_singleton.mp ha
  exact .inl ⟨_, hR⟩
theorem Row.ts {H H1 : Hp} {r : Addr} (h : Row K H r) (k : Keep [r] H H1) : Tst H H1 := k.ts h.lo
theorem Row.ne {H : Hp} {r : Addr} (h : Row K H r) : H r ≠ none := by
  obtain ⟨scr, ns, i, m, d, hR, _⟩ := h
  rw [hR]
  exact fun z => nomatch z
noncomputable def spTaken (K : PySem.W.Frag) : Sp := fun vs H Q _ => ∃ (r : Addr) (many : Int), vs = [.ref r, .int many] ∧ 0 < many ∧ many ≤ 1000000 ∧ Row K H r ∧
  ∀ (v : Int) (H' : Hp), 0 ≤ v → v < many → Keep [r] H H' → Row K H' r → Q (.int v) H'
noncomputable abbrev sL_taken : Stmt := top 88
noncomputable abbrev nL_taken : List Str := ["_law_row", "_law_many", "_law_found", "_law_cell"]
noncomputable abbrev pL_taken : List Str := ["_law_row", "_law_many"]
theorem scL_taken : FnScope nL_taken pL_taken (defScope sL_taken) := ⟨rfl, rfl, rfl, by decide +kernel, rfl, by decide +kernel, by decide +kernel⟩
theorem okTaken (D : DefAt K mg "_law_taken" sL_taken pL_taken) (T : Blt mg) : Callee P w K mg base "_law_taken" 1 pL_taken (spTaken K) := by
  refine D.ok scL_taken (fun vs H Q E h => ?_) (fun f cdv A outer s H vs Q E hr h => ?_)
  · obtain ⟨r, many, rfl, _⟩ := h
    rfl
  obtain ⟨r, many, rfl, m0, m1, ⟨scr, ns, i, m, d, hR, hC, i0⟩, q⟩ := h
  have hS := hC.sq
  have lo : ∀ {H0 : Hp} {xs : List V}, H0 r = some (.lst xs) → Lo H0 [r] := fun e a ha => by
    cases List.mem_singleton.mp ha
    exact .inl ⟨_, e⟩
  refine ⟨_, (pss_cons (ps_if (pt_cmpR op_gt (pe_ix (ixL (K := K)) (pv 0) pe_int (fun _ _ => rfl)) pe_int (nomark _)) (pss_cons (ps_set (i := 2) scL_taken.nd rfl (Or.inl rfl) (pe_op op_mod (pe_ix (ixL (K := K)) (pv 0) pe_int (fun _ _ => rfl)) (pv 1)))
  (pss_cons (ps_asg (pe_op op_fdiv (pe_ix (ixL (K := K)) (pv 0) pe_int (fun _ _ => rfl)) (pv 1)) (pg_sub (pv 0) pe_int set_list))
  (pss_one (ps_ret (pv 2))))) pss_nil)
  (pss_cons (ps_asg (pe_op op_add (pe_ix (ixL (K := K)) (pv 0) pe_int (fun _ _ => rfl)) pe_int) (pg_sub (pv 0) pe_int set_list))
  (pss_cons (ps_if (pt_cmpR op_gt (pe_ix (ixL (K := K)) (pv 0) pe_int (fun _ _ => rfl)) (pe_callB (cLen (K := K)) (by rfl) T.len PySem.boot_len (pa_cons (pe_ix (ixL (K := K)) (pv 0) pe_int (fun _ _ => rfl)) pa_nil)) (nomark _)) (pss_cons (ps_asg (pe_op op_mod (pe_op op_add (pe_op op_mul (pe_ix (ixL (K := K)) (pv 0) pe_int (fun _ _ => rfl)) pe_int) pe_int) pe_int) (pg_sub (pv 0) pe_int set_list))
  (pss_one (ps_ret (pe_op op_mod (pe_op op_fdiv (pe_ix (ixL (K := K)) (pv 0) pe_int (fun _ _ => rfl)) pe_int) (pv 1))))) pss_nil)
  (pss_cons (ps_set (i := 3) scL_taken.nd rfl (Or.inl rfl) (pe_ix (ixL (K := K)) (pe_ix (ixL (K := K)) (pv 0) pe_int (fun _ _ => rfl)) (pe_op op_sub (pe_ix (ixL (K := K)) (pv 0) pe_int (fun _ _ => rfl)) pe_int) (fun _ _ => rfl)))
  (pss_cons (ps_asg (pe_op op_mod (pe_op op_add (pe_op op_add (pe_op op_mul (pe_ix (ixL (K := K)) (pv 0) pe_int (fun _ _ => rfl)) pe_int) (pv 3)) pe_int) pe_int) (pg_sub (pv 0) pe_int set_list))
  (pss_cons (ps_if (pt_cmpR op_ge (pv 3) (pe_op op_pow pe_int pe_int) (nomark _)) (pss_one (ps_asg (pe_op op_fdiv (pv 3) (pv 1)) (pg_sub (pv 0) pe_int set_list))) pss_nil)
  (pss_one (ps_ret (pe_op op_mod (pv 3) (pv 1)))))))))), ?_⟩
  walk_at "rd"
  refine ite2 (fun c => ?_) (fun c => ?_)
  · walk_at "rd"
    intro H1 h1 k1
    walk_at "rd"
    exact q _ _ (Int.emod_nonneg _ (by omega)) (Int.emod_lt_of_pos _ m0) k1 ⟨scr, ns, i, m, _, h1, hC.ts (k1.ts (lo hR)), i0⟩
  · walk_at "rd"
    intro H1 h1 k1
    have hC1 := hC.ts (k1.ts (lo hR))
    have hS1 := hC1.sq
    walk_at "rd"
    refine ite2 (fun c2 => ?_) (fun c2 => ?_)
    · walk_at "rd"
      intro H2 h2 k2
      walk_at "rd"
      exact q _ _ (Int.emod_nonneg _ (by omega)) (Int.emod_lt_of_pos _ m0) (k1.trans k2) ⟨scr, ns, i + 1, _, d, h2, hC1.ts (k2.ts (lo h1)), by omega⟩
    · have c3 : ¬ ((ns.map V.int).length : Int) < i + 1 := of_decide_eq_false (Bool.eq_false_iff.mpr c2)
      rw [List.length_map] at c3
      have e3 : atI (ns.map V.int) (i + 1 - 1) = some (V.int (ns.getD i.toNat 0)) := by
        have e4 : i + 1 - 1 = ((i.toNat : Nat) : Int) := by omega
        rw [e4]
        refine atI_nat ?_
        rw [List.getElem?_map, List.getElem?_eq_getElem (by omega), List.getD_eq_getElem?_getD, List.getElem?_eq_getElem (by omega)]
        rfl
      walk_at "rd"
      intro H2 h2 k2
      have hC2 := hC1.ts (k2.ts (lo h1))
      have hS2 := hC2.sq
      walk_at "rd"
      refine ite2 (fun c4 => ?_) (fun c4 => ?_)
      · walk_at "rd"
        intro H3 h3 k3
        walk_at "rd"
        exact q _ _ (Int.emod_nonneg _ (by omega)) (Int.emod_lt_of_pos _ m0) (k1.trans (k2.trans k3)) ⟨scr, ns, i + 1, _, _, h3, hC2.ts (k3.ts (lo h2)), by omega⟩
      · walk_at "rd"
        exact q _ _ (Int.emod_nonneg _ (by omega)) (Int.emod_lt_of_pos _ m0) (k1.trans k2) ⟨scr, ns, i + 1, _, _, h2, hC2, by omega⟩
end
end
local macro_rules | `(tactic| walk_at "sz") => `(tactic| first | exact Nat.le_of_ble_eq_true rfl | exact small (by first | omega | (simp; done) | (simp; omega)))
local macro_rules | `(tactic| walk_at "szT") => `(tactic| first | exact Nat.lt_of_lt_of_le (Nat.lt_succ_self _) (Nat.le_of_ble_eq_true rfl) | exact smallT (by first | omega | (simp; done) | (simp; omega)))
local macro_rules | `(tactic| walk_at "cond") => `(tactic| first | decide | omega | (dsimp only; omega) | exact ⟨by omega, by omega⟩ | exact .inr ⟨by decide, by decide⟩)
local macro_rules | `(tactic| walk_at "sq") => `(tactic| first | assumption | exact SqL.of (by assumption) | exact SqT.of (by assumption))
local macro_rules | `(tactic| walk_at "ty") => `(tactic| first | (with_reducible assumption) | exact .base (.int _) | exact .base (.str _) | exact .base (.bl _) | exact .base .non | exact tyT (by walk_at "sq") | exact tyL (by walk_at "sq"))
local macro_rules | `(tactic| walk_at "rd") => `(tactic| repeat (first
  | ((with_reducible apply r_var); exact rfl)
  | ((with_reducible apply r_cons))
  | ((with_reducible apply r_c))
  | ((with_reducible apply r_op))
  | ((with_reducible apply r_nil))
  | ((with_reducible apply r_bl))
  | ((with_reducible apply r_seq))
  | ((with_reducible apply r_test))
  | ((with_reducible apply r_if))
  | ((with_reducible apply r_ixT); (walk_at "sq"); first | exact rfl | assumption)
  | ((with_reducible apply r_name))
  | ((with_reducible apply r_call))
  | ((fail_if_success (first | (with_reducible apply stopAsk) | (with_reducible intro _) | (with_reducible apply stopEx) | (with_reducible apply stopFor) | (with_reducible apply stopLc) | (with_reducible apply stopAnd) | (with_reducible apply stopOr))); first
  | ((with_reducible apply ite_t); (first | (with_reducible exact nRN) | (with_reducible exact nIN) | (with_reducible exact dNN) | decide +kernel))
    | ((with_reducible apply ite_f); (first | (with_reducible exact dRN) | (with_reducible exact dIN) | (with_reducible exact nNN) | decide +kernel))
    | ((with_reducible apply r_next))
    | ((with_reducible apply r_eq); exact rfl)
    | ((with_reducible apply new); (walk_at "sz"))
    | ((with_reducible apply r_ret))
    | ((with_reducible apply r_asg))
    | ((with_reducible apply r_cb))
    | ((with_reducible apply r_tup))
    | ((with_reducible apply r_B))
    | ((with_reducible apply r_I0))
    | ((with_reducible apply r_drop))
    | ((with_reducible apply r_isi); (walk_at "ty"); (decide +kernel))
    | ((with_reducible apply r_ixL); (walk_at "sq"); first | exact rfl | assumption)
    | ((with_reducible apply r_fld))
    | ((with_reducible apply r_fld1); assumption; assumption; assumption; (first | exact rfl | assumption))
    | ((with_reducible apply r_fld1); assumption; assumption; assumption; (walk_at "lk"))
    | ((with_reducible apply r_gcons))
    | ((with_reducible apply r_lst))
    | ((with_reducible apply r_not))
    | ((with_reducible apply r_for))
    | ((with_reducible apply r_isL); (walk_at "sq"))
    | ((with_reducible apply r_append))
    | ((with_reducible apply r_dgetS); assumption; (walk_at "dk"))
    | ((with_reducible apply r_app); assumption; (walk_at "szT"))
    | ((with_reducible apply r_dget))
    | ((with_reducible apply r_in); (first | exact .inl (by walk_at "sq") | exact .inr (by walk_at "sq")); exact rfl; (first | exact nums_flat | exact rfl))
    | ((with_reducible apply r_notN))
    | ((with_reducible apply r_ifE))
    | ((with_reducible apply r_sfld))
    | ((with_reducible apply r_sfld1); assumption; assumption; assumption; exact (by decide))
    | ((with_reducible apply r_sfld1); assumption; assumption; assumption; exact Nat.le_of_ble_eq_true rfl)
    | ((with_reducible apply r_lc))
    | ((with_reducible apply r_iTup))
    | ((with_reducible apply r_gtup); (walk_at "sq"); rfl)
    | ((with_reducible apply r_gnil))
    | ((with_reducible apply r_lenT); (walk_at "sq"))
    | ((with_reducible apply r_overT); (walk_at "sq"))
    | ((with_reducible apply r_I); (walk_at "cond"))
    | ((with_reducible apply acc); assumption; (walk_at "szT"))
    | ((with_reducible apply r_ne); exact rfl)
    | ((with_reducible apply r_tupL); (walk_at "sq"))
    | ((with_reducible apply r_isN))
    | ((with_reducible apply r_iRng1))
    | ((with_reducible apply r_rng); (first | decide | omega | (simp; omega)); (first | decide | omega | (simp; omega)))
    | ((with_reducible apply r_lenL); (walk_at "sq"))
    | ((with_reducible apply r_ixA); (first | exact .inl (by walk_at "sq") | exact .inr (by walk_at "sq")); first | exact rfl | assumption)
    | ((with_reducible apply r_isiT2); assumption; (walk_at "ty"); (decide +kernel); (decide +kernel))
    | ((with_reducible apply r_retN))
    | ((with_reducible apply r_int))
    | ((with_reducible apply r_intB))
    | ((with_reducible apply r_notV))
    | ((with_reducible apply r_andV))
    | ((with_reducible apply r_orV))
    | ((with_reducible apply r_chain))
    | ((with_reducible apply turn))
    | ((with_reducible apply r_iList))
    | ((with_reducible apply r_overL); (walk_at "sq"))
    | ((with_reducible apply r_sub))
    | ((with_reducible apply r_setL); assumption; exact rfl)
    | ((with_reducible apply r_par))
    | ((with_reducible apply r_par2))
    | ((with_reducible apply r_sl))
    | ((with_reducible apply r_part))
    | ((with_reducible apply r_part1))
    | ((with_reducible apply r_noPart))
    | ((with_reducible apply r_slL); (walk_at "sq"))
    | ((with_reducible apply r_slA); (walk_at "sq"))
    | ((with_reducible apply r_tupT); (walk_at "sq"))
    | ((with_reducible apply r_lstL); (walk_at "sq"))
    | ((with_reducible apply r_lstT); (walk_at "sq"))
    | ((with_reducible apply r_dput))
    | ((with_reducible apply r_dputS); assumption; (walk_at "szT"))
    | ((with_reducible apply r_disp))
    | ((with_reducible apply r_pnil))
    | ((with_reducible apply r_pcons))
    | ((with_reducible apply r_enumT))
    | ((with_reducible apply r_overE); (walk_at "sq"))
    | ((with_reducible apply r_zipA))
    | ((with_reducible apply r_zipT); (walk_at "sq"); (walk_at "sq"))
    | ((with_reducible apply r_zip3))
    | ((with_reducible apply r_overZ3); (walk_at "sq"); (walk_at "sq"); (walk_at "sq"))
    | ((with_reducible apply r_make))
    | ((with_reducible apply r_isiC); assumption; assumption; assumption)
    | ((with_reducible apply r_popM))
    | ((with_reducible apply r_pop); assumption)
    | ((with_reducible apply r_tru))
    | ((with_reducible apply r_truL); (walk_at "sq"))
    | ((with_reducible apply r_str); (first | omega | assumption))
    | ((with_reducible apply r_lenS); (first | assumption | omega))
    | ((with_reducible apply r_m1))
    | ((with_reducible apply r_isS))
    | ((with_reducible apply r_un))
    | ((with_reducible apply r_neg))
    | ((with_reducible apply r_inS))
    | ((with_reducible apply r_star))
    | ((with_reducible apply r_spread); (walk_at "sq"))
    | ((with_reducible apply r_revA))
    | ((with_reducible apply r_overV); (walk_at "sq"))
    | ((with_reducible apply r_enumL))
    | ((with_reducible apply r_overEL); (walk_at "sq"))
    | ((with_reducible apply r_revR))
    | ((with_reducible apply r_revOf); (first | omega | decide))
    | ((with_reducible apply r_zipT3))
    | ((with_reducible apply r_overZT3); (walk_at "sq"); (walk_at "sq"); (walk_at "sq"))
    | ((with_reducible apply r_rep1); assumption; (first | omega | (simp; omega)))
    | ((with_reducible apply r_lc2)))))
section
section
variable {P : Program} {w : World} {K : PySem.W.Frag} {mg : Str → Option Value} {base : Heap}
noncomputable def spThing (K : PySem.W.Frag) (n : Nat) : Sp := fun vs H Q _ => ∃ (r sz : Addr) (p o : Nat) (wi : Int), vs = [.ref r, .ref sz, .int wi] ∧ Row K H r ∧ SqT K H sz [.int (p : Int), .int (o : Int)] ∧ p ≤ 100 ∧ o ≤ 100 ∧ 0 ≤ wi ∧ wi < n ∧
  ∀ (v : V) (t : Th) (H' : Hp), Rp K H' v t.enc → t.ok p o (wi.toNat + 1) → Keep [r] H H' → Row K H' r → Q v H'
noncomputable abbrev sL_thing : Stmt := top 89
noncomputable abbrev nL_thing : List Str := ["_law_row", "_law_sizes", "_law_within", "_law_way"]
noncomputable abbrev pL_thing : List Str := ["_law_row", "_law_sizes", "_law_within"]
theorem scL_thing : FnScope nL_thing pL_thing (defScope sL_thing) := ⟨rfl, rfl, rfl, by decide +kernel, rfl, by decide +kernel, by decide +kernel⟩
noncomputable abbrev sL_place : Stmt := top 90
noncomputable abbrev nL_place : List Str := ["_law_row", "_law_sizes", "_law_within", "_law_thing_here"]
noncomputable abbrev pL_place : List Str := ["_law_row", "_law_sizes", "_law_within"]
theorem scL_place : FnScope nL_place pL_place (defScope sL_place) := ⟨rfl, rfl, rfl, by decide +kernel, rfl, by decide +kernel, by decide +kernel⟩
theorem okThing (D : DefAt K mg "_law_thing" sL_thing pL_thing) (T : Blt mg) (C_law_taken : Callee P w K mg base "_law_taken" 1 pL_taken (spTaken K)) : ∀ n : Nat, Callee P w K mg base "_law_thing" (n + 2) pL_thing (spThing K n)
  | 0 => D.none fun vs H Q E h => by
    obtain ⟨r, sz, p, o, wi, rfl, _, _, _, _, h1, h2, _⟩ := h
    omega
  | n + 1 => by
    have C_law_thing := okThing D T C_law_taken n
    refine D.ok scL_thing (fun vs H Q E h => ?_) (fun f cdv A outer s H vs Q E hr h => ?_)
    · obtain ⟨r, sz, p, o, wi, rfl, _⟩ := h
      rfl
    obtain ⟨r, sz, p, o, wi, rfl, hR, hsz, p1, o1, w0, w1, q⟩ := h
    have e1 : atI ([.int 5, .int 8] : List V) (if decide (0 < wi) = true then 1 else 0) = some (.int (if 0 < wi then 8 else 5)) := by
      by_cases h : 0 < wi
      · simp only [h, decide_true, if_true]; rfl
      · simp only [h, decide_false, if_false]; rfl
    refine ⟨_, (pss_cons (ps_set (i := 3) scL_thing.nd rfl (Or.inl rfl) (pcall C_law_taken (hr.mono (by first | exact Nat.le_of_ble_eq_true rfl | omega)) rfl (pa_cons (pv 0) (pa_cons (pe_ix (ixL (K := K)) (pe_lst (pa_cons pe_int (pa_cons pe_int pa_nil))) (pe_callTy c_int (by rfl) T.int (by decide +kernel) (pa_cons (pe_cmpR op_gt (pv 2) pe_int (nomark _)) pa_nil)) (fun _ _ => rfl)) pa_nil))))
  (pss_cons (ps_if (PW.pt (pw_and (pt_cmpR op_lt (pv 3) pe_int (nomark _)) (pw_and1 (pt_cmpR op_gt (pe_ix (ixT (K := K)) (pv 1) pe_int (fun _ _ => rfl)) pe_int (nomark _))))) (pss_one (ps_ret (pe_tup (pa_cons pe_str (pa_cons (pcall C_law_taken (hr.mono (by first | exact Nat.le_of_ble_eq_true rfl | omega)) rfl (pa_cons (pv 0) (pa_cons (pe_ix (ixT (K := K)) (pv 1) pe_int (fun _ _ => rfl)) pa_nil))) pa_nil))))) pss_nil)
  (pss_cons (ps_if (PW.pt (pw_and (pt_cmpR op_eq (pv 3) pe_int (nomark _)) (pw_and1 (pt_cmpR op_gt (pe_ix (ixT (K := K)) (pv 1) pe_int (fun _ _ => rfl)) pe_int (nomark _))))) (pss_one (ps_ret (pe_tup (pa_cons pe_str (pa_cons (pcall C_law_taken (hr.mono (by first | exact Nat.le_of_ble_eq_true rfl | omega)) rfl (pa_cons (pv 0) (pa_cons (pe_ix (ixT (K := K)) (pv 1) pe_int (fun _ _ => rfl)) pa_nil))) pa_nil))))) pss_nil)
  (pss_cons (ps_if (pt_cmpR op_gt (pv 3) pe_int (nomark _)) (pss_one (ps_ret (pe_tup (pa_cons pe_str (pa_cons (pcall C_law_thing (hr.mono (by first | exact Nat.le_of_ble_eq_true rfl | omega)) rfl (pa_cons (pv 0) (pa_cons (pv 1) (pa_cons (pe_op op_sub (pv 2) pe_int) pa_nil)))) (pa_cons (pcall C_law_thing (hr.mono (by first | exact Nat.le_of_ble_eq_true rfl | omega)) rfl (pa_cons (pv 0) (pa_cons (pv 1) (pa_cons (pe_op op_sub (pv 2) pe_int) pa_nil)))) pa_nil)))))) pss_nil)
  (pss_cons (ps_if (pt_cmpR op_gt (pv 3) pe_int (nomark _)) (pss_one (ps_ret (pe_tup (pa_cons pe_str (pa_cons (pe_ifExp (pt_cmpR op_gt (pv 2) pe_int (nomark _)) (pcall C_law_thing (hr.mono (by first | exact Nat.le_of_ble_eq_true rfl | omega)) rfl (pa_cons (pv 0) (pa_cons (pv 1) (pa_cons (pe_op op_sub (pv 2) pe_int) pa_nil)))) (pe_tup (pa_cons pe_str (pa_cons (pcall C_law_taken (hr.mono (by first | exact Nat.le_of_ble_eq_true rfl | omega)) rfl (pa_cons (pv 0) (pa_cons pe_int pa_nil))) pa_nil)))) pa_nil))))) pss_nil)
  (pss_one (ps_ret (pe_tup (pa_cons pe_str (pa_cons (pcall C_law_taken (hr.mono (by first | exact Nat.le_of_ble_eq_true rfl | omega)) rfl (pa_cons (pv 0) (pa_cons pe_int pa_nil))) pa_nil)))))))))), ?_⟩
    walk_at "rd"
    intro pl H1 n1 h1 k1
    walk_at "rd"
    refine ask ⟨r, _, rfl, by split <;> decide, by split <;> decide, hR.keep0 k1, fun v1 H2 v0 v1' k2 R2 => ?_⟩
    have kk2 : Keep [r] H H2 := (k1.mono (by simp)).trans k2
    have hs2 := (hR.ts kk2).sqT hsz
    walk_at "rd"
    refine r_andP (a := decide (v1 < 2)) (b := decide (0 < (p : Int))) (fun R hr => by walk_at "rd"; exact hr) (fun _ R hr => by walk_at "rd"; exact hr) ?_
    refine ite2 (fun c => ?_) (fun c => ?_)
    · -- a param
      rw [Bool.and_eq_true, decide_eq_true_eq, decide_eq_true_eq] at c
      walk_at "rd"
      refine ask ⟨r, _, rfl, c.2, by omega, R2, fun v3 H3 v30 v31 k3 R3 => ?_⟩
      obtain ⟨m, rfl⟩ : ∃ m : Nat, v3 = m := ⟨v3.toNat, by omega⟩
      walk_at "rd"
      intro pa H4 n4 h4 k4
      exact q _ (.par m) _ (.tup (SqT.of h4) (.cons (.str _) (.cons (.int _) .nil))) (Th.ok_par (by omega)) ((kk2.trans k3).trans (k4.mono (by simp))) (R3.keep0 k4)
    walk_at "rd"
    refine r_andP (a := decide (V.int v1 = V.int 2)) (b := decide (0 < (o : Int))) (fun R hr => by walk_at "rd"; exact hr) (fun _ R hr => by walk_at "rd"; exact hr) ?_
    refine ite2 (fun c2 => ?_) (fun c2 => ?_)
    · -- an own cell
      rw [Bool.and_eq_true, decide_eq_true_eq, decide_eq_true_eq] at c2
      walk_at "rd"
      refine ask ⟨r, _, rfl, c2.2, by omega, R2, fun v3 H3 v30 v31 k3 R3 => ?_⟩
      obtain ⟨m, rfl⟩ : ∃ m : Nat, v3 = m := ⟨v3.toNat, by omega⟩
      walk_at "rd"
      intro pa H4 n4 h4 k4
      exact q _ (.own m) _ (.tup (SqT.of h4) (.cons (.str _) (.cons (.int _) .nil))) (Th.ok_own (by omega)) ((kk2.trans k3).trans (k4.mono (by simp))) (R3.keep0 k4)
    walk_at "rd"
    refine ite2 (fun c3 => ?_) (fun c3 => ?_)
    · -- a sum
      have c3' := of_decide_eq_true c3
      have hw : 0 < wi := by
        by_cases h : 0 < wi
        · exact h
        · rw [if_neg h] at v1'; omega
      have eD : wi.toNat + 1 = ((wi - 1).toNat + 1) + 1 := by omega
      walk_at "rd"
      refine ask ⟨r, sz, p, o, _, rfl, R2, hs2, p1, o1, by omega, by omega, fun va ta H3 ra oa k3 R3 => ?_⟩
      have hs3 := (R2.ts k3).sqT hs2
      walk_at "rd"
      refine ask ⟨r, sz, p, o, _, rfl, R3, hs3, p1, o1, by omega, by omega, fun vb tb H4 rb ob k4 R4 => ?_⟩
      walk_at "rd"
      intro pa H5 n5 h5 k5
      have ra5 := (ra.ts (R3.ts k4)).ts (keep_ts0 k5)
      refine q _ (.sum ta tb) _ (.tup (SqT.of h5) (.cons (.str _) (.cons ra5 (.cons (rb.ts (keep_ts0 k5)) .nil)))) ?_ (((kk2.trans k3).trans k4).trans (k5.mono (by simp))) (R4.keep0 k5)
      rw [eD]
      exact ⟨oa, ob⟩
    walk_at "rd"
    refine ite2 (fun c4 => ?_) (fun c4 => ?_)
    · -- a common cell
      walk_at "rd"
      refine ite2 (fun hw => ?_) (fun hw => ?_)
      · have hw := of_decide_eq_true hw
        have eD : wi.toNat + 1 = ((wi - 1).toNat + 1) + 1 := by omega
        walk_at "rd"
        refine ask ⟨r, sz, p, o, _, rfl, R2, hs2, p1, o1, by omega, by omega, fun va ta H3 ra oa k3 R3 => ?_⟩
        walk_at "rd"
        intro pa H5 n5 h5 k5
        refine q _ (.cell ta) _ (.tup (SqT.of h5) (.cons (.str _) (.cons (ra.ts (keep_ts0 k5)) .nil))) ?_ ((kk2.trans k3).trans (k5.mono (by simp))) (R3.keep0 k5)
        rw [eD]
        exact oa
      · walk_at "rd"
        refine ask ⟨r, _, rfl, by decide, by decide, R2, fun v3 H3 v30 v31 k3 R3 => ?_⟩
        obtain ⟨m, rfl⟩ : ∃ m : Nat, v3 = m := ⟨v3.toNat, by omega⟩
        walk_at "rd"
        intro pa H4 n4 h4 k4
        walk_at "rd"
        intro pb H5 n5 h5 k5
        exact q _ (.cell (.num m)) _ (.tup (SqT.of h5) (.cons (.str _) (.cons (.tup (SqT.of (k5 _ _ h4 (by simp))) (.cons (.str _) (.cons (.int _) .nil))) .nil))) (show Th.ok p o _ (.num m) from Th.ok_num (by omega))
          (((kk2.trans k3).trans (k4.mono (by simp))).trans (k5.mono (by simp))) ((R3.keep0 k4).keep0 k5)
    · walk_at "rd"
      refine ask ⟨r, _, rfl, by decide, by decide, R2, fun v3 H3 v30 v31 k3 R3 => ?_⟩
      obtain ⟨m, rfl⟩ : ∃ m : Nat, v3 = m := ⟨v3.toNat, by omega⟩
      walk_at "rd"
      intro pa H4 n4 h4 k4
      exact q _ (.num m) _ (.tup (SqT.of h4) (.cons (.str _) (.cons (.int _) .nil))) (Th.ok_num (by omega)) ((kk2.trans k3).trans (k4.mono (by simp))) (R3.keep0 k4)
noncomputable def spPlace (K : PySem.W.Frag) : Sp := fun vs H Q _ => ∃ (r sz : Addr) (p o : Nat) (wi : Int), vs = [.ref r, .ref sz, .int wi] ∧ Row K H r ∧ SqT K H sz [.int (p : Int), .int (o : Int)] ∧ p ≤ 100 ∧ o ≤ 100 ∧ 0 ≤ wi ∧ wi < 3 ∧
  ∀ (v : V) (t : Th) (H' : Hp), Rp K H' v t.enc → t.isPlace = true → t.ok p o (wi.toNat + 2) → Keep [r] H H' → Row K H' r → Q v H'
theorem okPlace (D : DefAt K mg "_law_place" sL_place pL_place) (T : Blt mg) (C_law_thing : Callee P w K mg base "_law_thing" 5 pL_thing (spThing K 3)) : Callee P w K mg base "_law_place" 6 pL_place (spPlace K) := by
  refine D.ok scL_place (fun vs H Q E h => ?_) (fun f cdv A outer s H vs Q E hr h => ?_)
  · obtain ⟨r, sz, p, o, wi, rfl, _⟩ := h
    rfl
  obtain ⟨r, sz, p, o, wi, rfl, hR, hsz, p1, o1, w0, w1, q⟩ := h
  refine ⟨_, (pss_cons (ps_set (i := 3) scL_place.nd rfl (Or.inl rfl) (pcall C_law_thing (hr.mono (by first | exact Nat.le_of_ble_eq_true rfl | omega)) rfl (pa_cons (pv 0) (pa_cons (pv 1) (pa_cons (pv 2) pa_nil)))))
  (pss_one (ps_ret (pe_ifExp (pt_cmpR (opIn (K := K)) (pe_ix (ixT (K := K)) (pv 3) pe_int (fun _ _ => rfl)) (pe_tup (pa_cons pe_str (pa_cons pe_str (pa_cons pe_str pa_nil)))) (by with_unfolding_all rfl)) (pv 3) (pe_tup (pa_cons pe_str (pa_cons (pv 3) pa_nil))))))), ?_⟩
  walk_at "rd"
  refine ask ⟨r, sz, p, o, _, rfl, hR, hsz, p1, o1, by omega, by omega, fun va ta H1 ra oa k1 R1 => ?_⟩
  obtain ⟨a, xs, rfl, ha⟩ := Th.head ra
  have e0 := atI_zero (x := .str ta.word) (r := xs)
  walk_at "rd"
  intro pl H2 n2 h2 k2
  have ha2 := (keep_ts0 k2).sqT ha
  have ra2 := ra.ts (keep_ts0 k2)
  have eD : wi.toNat + 2 = (wi.toNat + 1) + 1 := rfl
  have kk2 : Keep [r] H H2 := k1.trans (k2.mono (by simp))
  have R2 := R1.keep0 k2
  have fin : ∀ pa H3, H2 pa = none → H3 pa = some (.tup [.str "cell", .ref a]) → Keep [] H2 H3 → Q (.ref pa) H3 := fun pa H3 n3 h3 k3 => by
    refine q _ (.cell ta) _ (.tup (SqT.of h3) (.cons (.str _) (.cons (ra2.ts (keep_ts0 k3)) .nil))) rfl ?_ (kk2.trans (k3.mono (by simp))) (R2.keep0 k3)
    rw [eD]
    exact oa
  cases ta with
  | num n => dsimp only [Th.word]; walk_at "rd"; exact fin
  | sum x y => dsimp only [Th.word]; walk_at "rd"; exact fin
  | cell x => dsimp only [Th.word]; walk_at "rd"; exact q _ _ _ ra2 rfl (oa.mono (by omega)) kk2 R2
  | own n => dsimp only [Th.word]; walk_at "rd"; exact q _ _ _ ra2 rfl (oa.mono (by omega)) kk2 R2
  | par n => dsimp only [Th.word]; walk_at "rd"; exact q _ _ _ ra2 rfl (oa.mono (by omega)) kk2 R2
end
end
section
section
variable {P : Program} {w : World} {K : PySem.W.Frag} {mg : Str → Option Value} {base : Heap}
/-- params and own cells of all works, a list of tuples -/
noncomputable def Shp (K : PySem.W.Frag) (H : Hp) (a : Addr) (sh : List (Nat × Nat)) : Prop := ∃ vs : List V, H a = some (.lst vs) ∧ vs.length = sh.length ∧ ∀ (i : Nat) (q : Nat × Nat), sh[i]? = some q → ∃ t : Addr, vs[i]? = some (V.ref t) ∧ SqT K H t [.int (q.1 : Int), .int (q.2 : Int)]
structure GS (K : PySem.W.Frag) (H : Hp) (r lf sa : Addr) (sh : List (Nat × Nat)) (a c : Nat) : Prop where
  row : Row K H r
  left : H lf = some (.lst [.int (a : Int), .int (c : Int)])
  shp : Shp K H sa sh
  n1 : lf ≠ r
  n2 : sa ≠ r
  n3 : sa ≠ lf
  few : sh.length ≤ 4
  small : ∀ q ∈ sh, q.1 ≤ 3 ∧ q.2 ≤ 10
theorem Shp.keep {H H1 : Hp} {a : Addr} {sh : List (Nat × Nat)} {M : List Addr} (h : Shp K H a sh) (k : Keep M H H1) (n : a ∉ M) (t : Tst H H1) : Shp K H1 a sh := by
  obtain ⟨vs, h1, h2, h3⟩ := h
  refine ⟨vs, k _ _ h1 n, h2, fun i q e => ?_⟩
  obtain ⟨u, e1, e2⟩ := h3 i q e
  exact ⟨u, e1, t.sqT e2⟩
theorem GS.lo {H : Hp} {r lf sa : Addr} {sh : List (Nat × Nat)} {a c : Nat} (g : GS K H r lf sa sh a c) : Lo H [r, lf] := fun x hx => by
  rcases List.mem_cons.mp hx with rfl | hx
  · exact g.row.lo _ (List.mem_singleton.mpr rfl)
  · cases List.mem_singleton.mp hx
    exact .inl ⟨_, g.left⟩
theorem GS.ts {H H1 : Hp} {r lf sa : Addr} {sh : List (Nat × Nat)} {a c : Nat} (g : GS K H r lf sa sh a c) (k : Keep [r, lf] H H1) : Tst H H1 := k.ts g.lo
/-- the row was drawn from -/
theorem GS.drew {H H1 : Hp} {r lf sa : Addr} {sh : List (Nat × Nat)} {a c : Nat} (g : GS K H r lf sa sh a c) (k : Keep [r] H H1) (R : Row K H1 r) : GS K H1 r lf sa sh a c :=
  ⟨R, k _ _ g.left (by simpa using g.n1), g.shp.keep k (by simpa using g.n2) (g.row.ts k), g.n1, g.n2, g.n3, g.few, g.small⟩
theorem GS.keep0 {H H1 : Hp} {r lf sa : Addr} {sh : List (Nat × Nat)} {a c : Nat} (g : GS K H r lf sa sh a c) (k : Keep [] H H1) : GS K H1 r lf sa sh a c :=
  ⟨g.row.keep0 k, k _ _ g.left (by simp), g.shp.keep k (by simp) (keep_ts0 k), g.n1, g.n2, g.n3, g.few, g.small⟩
/-- another list was changed -/
theorem GS.other {H H1 : Hp} {r lf sa l : Addr} {sh : List (Nat × Nat)} {a c : Nat} {xs : List V} (g : GS K H r lf sa sh a c) (k : Keep [l] H H1) (h : H l = some (.lst xs)) (h1 : l ≠ r) (h2 : l ≠ lf) (h3 : l ≠ sa) : GS K H1 r lf sa sh a c := by
  have t : Tst H H1 := k.ts fun x hx => by cases List.mem_singleton.mp hx; exact .inl ⟨_, h⟩
  exact ⟨g.row.keep k (by simpa using Ne.symm h1) t, k _ _ g.left (by simpa using Ne.symm h2), g.shp.keep k (by simpa using Ne.symm h3) t, g.n1, g.n2, g.n3, g.few, g.small⟩
theorem GS.ne {H : Hp} {r lf sa l : Addr} {sh : List (Nat × Nat)} {a c : Nat} (g : GS K H r lf sa sh a c) (h : H l = none) : l ≠ r ∧ l ≠ lf ∧ l ≠ sa := by
  refine ⟨fun e => ?_, fun e => ?_, fun e => ?_⟩
  · exact g.row.ne (e ▸ h)
  · have := g.left
    rw [← e, h] at this
    cases this
  · obtain ⟨vs, h1, _⟩ := g.shp
    rw [← e, h] at h1
    cases h1
/-- the left count is changed -/
theorem GS.lefts {H H1 : Hp} {r lf sa : Addr} {sh : List (Nat × Nat)} {a c a1 c1 : Nat} (g : GS K H r lf sa sh a c) (k : Keep [lf] H H1) (h : H1 lf = some (.lst [.int (a1 : Int), .int (c1 : Int)])) : GS K H1 r lf sa sh a1 c1 := by
  have t : Tst H H1 := k.ts fun x hx => by cases List.mem_singleton.mp hx; exact .inl ⟨_, g.left⟩
  exact ⟨g.row.keep k (by simpa using Ne.symm g.n1) t, h, g.shp.keep k (by simpa using g.n3) t, g.n1, g.n2, g.n3, g.few, g.small⟩
noncomputable def spStep (K : PySem.W.Frag) (n : Nat) : Sp := fun vs H Q _ => ∃ (r sa lf : Addr) (sh : List (Nat × Nat)) (at_ a c : Nat) (wi : Int), vs = [.ref r, .ref sa, .int (at_ : Int), .ref lf, .int wi] ∧ GS K H r lf sa sh a c ∧ at_ < sh.length ∧ 0 ≤ wi ∧ wi < n ∧
  ∀ (v : V) (s : St) (H' : Hp) (a1 c1 : Nat), Rp K H' v s.enc → St.okD sh at_ wi.toNat s → s.many + a1 ≤ a + 1 → s.calls + c1 ≤ c → Keep [r, lf] H H' → GS K H' r lf sa sh a1 c1 → Q v H'
noncomputable def spBody (K : PySem.W.Frag) (n : Nat) : Sp := fun vs H Q _ => ∃ (r sa lf : Addr) (sh : List (Nat × Nat)) (at_ a c : Nat) (wi : Int), vs = [.ref r, .ref sa, .int (at_ : Int), .ref lf, .int wi] ∧ GS K H r lf sa sh a c ∧ at_ < sh.length ∧ 0 ≤ wi ∧ wi < n ∧
  ∀ (v : V) (b : Sts) (H' : Hp) (a1 c1 : Nat), Rp K H' v (.tuple b.encs) → Sts.okD sh at_ wi.toNat b → b.many + a1 ≤ a → b.calls + c1 ≤ c → Keep [r, lf] H H' → GS K H' r lf sa sh a1 c1 → Q v H'
noncomputable abbrev sL_step : Stmt := top 91
noncomputable abbrev nL_step : List Str := ["_law_row", "_law_shapes", "_law_at", "_law_left", "_law_within", "_law_sizes", "_law_way", "_law_work", "_law_things", "_law_k", "_law_thing_here", "_law_first"]
noncomputable abbrev pL_step : List Str := ["_law_row", "_law_shapes", "_law_at", "_law_left", "_law_within"]
theorem scL_step : FnScope nL_step pL_step (defScope sL_step) := ⟨rfl, rfl, rfl, by decide +kernel, rfl, by decide +kernel, by decide +kernel⟩
noncomputable abbrev sL_body : Stmt := top 92
noncomputable abbrev nL_body : List Str := ["_law_row", "_law_shapes", "_law_at", "_law_left", "_law_within", "_law_found", "_law_turn"]
noncomputable abbrev pL_body : List Str := ["_law_row", "_law_shapes", "_law_at", "_law_left", "_law_within"]
theorem scL_body : FnScope nL_body pL_body (defScope sL_body) := ⟨rfl, rfl, rfl, by decide +kernel, rfl, by decide +kernel, by decide +kernel⟩
theorem okStep {n : Nat} (D : DefAt K mg "_law_step" sL_step pL_step) (T : Blt mg) (C_law_taken : Callee P w K mg base "_law_taken" 1 pL_taken (spTaken K)) (C_law_thing : Callee P w K mg base "_law_thing" 5 pL_thing (spThing K 3))
    (C_law_place : Callee P w K mg base "_law_place" 6 pL_place (spPlace K)) (C_law_body : Callee P w K mg base "_law_body" (2 * n + 8) pL_body (spBody K n)) : Callee P w K mg base "_law_step" (2 * n + 9) pL_step (spStep K (n + 1)) := by
  refine D.ok scL_step (fun vs H Q E h => ?_) (fun f cdv A outer s H vs Q E hr h => ?_)
  · obtain ⟨r, sa, lf, sh, at_, a, c, wi, rfl, _⟩ := h
    rfl
  obtain ⟨r, sa, lf, sh, at_, a, c, wi, rfl, g, hat, w0, w1, q⟩ := h
  refine ⟨_, (pss_cons (ps_set (i := 5) scL_step.nd rfl (Or.inl rfl) (pe_ix (ixL (K := K)) (pv 1) (pv 2) (fun _ _ => rfl)))
  (pss_cons (ps_set (i := 6) scL_step.nd rfl (Or.inl rfl) (pcall C_law_taken (hr.mono (by first | exact Nat.le_of_ble_eq_true rfl | omega)) rfl (pa_cons (pv 0) (pa_cons pe_int pa_nil))))
  (pss_cons (ps_if (PW.pt (pw_and (pt_cmpR op_gt (pv 6) pe_int (nomark _)) (pw_and (pt_cmpR op_lt (pe_op op_add (pv 2) pe_int) (pe_callB (cLen (K := K)) (by rfl) T.len PySem.boot_len (pa_cons (pv 1) pa_nil)) (nomark _)) (pw_and1 (pt_cmpR op_gt (pe_ix (ixL (K := K)) (pv 3) pe_int (fun _ _ => rfl)) pe_int (nomark _)))))) (pss_cons (ps_asg (pe_op op_sub (pe_ix (ixL (K := K)) (pv 3) pe_int (fun _ _ => rfl)) pe_int) (pg_sub (pv 3) pe_int set_list))
  (pss_cons (ps_set (i := 7) scL_step.nd rfl (Or.inl rfl) (pe_op op_add (pe_op op_add (pv 2) pe_int) (pcall C_law_taken (hr.mono (by first | exact Nat.le_of_ble_eq_true rfl | omega)) rfl (pa_cons (pv 0) (pa_cons (pe_op op_sub (pe_op op_sub (pe_callB (cLen (K := K)) (by rfl) T.len PySem.boot_len (pa_cons (pv 1) pa_nil)) (pv 2)) pe_int) pa_nil)))))
  (pss_cons (ps_set (i := 8) scL_step.nd rfl (Or.inl rfl) (pe_lst pa_nil))
  (pss_cons (ps_for PassesOwn.never rfl (pi_range1 rfl T.range (pa_cons (pe_ix (ixT (K := K)) (pe_ix (ixL (K := K)) (pv 1) (pv 7) (fun _ _ => rfl)) pe_int (fun _ _ => rfl)) pa_nil)) (pg_name (i := 9) scL_step.nd rfl (Or.inl rfl))
   (pss_cons (ps_set (i := 10) scL_step.nd rfl (Or.inl rfl) (pcall C_law_thing (hr.mono (by first | exact Nat.le_of_ble_eq_true rfl | omega)) rfl (pa_cons (pv 0) (pa_cons (pv 5) (pa_cons pe_int pa_nil)))))
  (pss_one (ps_expr (peApp (K := K) (pv 8) (pe_ifExp (pt_cmpR op_eq (pcall C_law_taken (hr.mono (by first | exact Nat.le_of_ble_eq_true rfl | omega)) rfl (pa_cons (pv 0) (pa_cons pe_int pa_nil))) pe_int (nomark _)) (pv 10) (pcall C_law_place (hr.mono (by first | exact Nat.le_of_ble_eq_true rfl | omega)) rfl (pa_cons (pv 0) (pa_cons (pv 5) (pa_cons pe_int pa_nil))))))))))
  (pss_one (ps_ret (pe_tup (pa_cons pe_str (pa_cons (pv 7) (pa_cons (pe_callTy (cTuple (K := K)) (by rfl) T.tuple (by decide +kernel) (pa_cons (pv 8) pa_nil)) pa_nil)))))))))) pss_nil)
  (pss_cons (ps_if (PW.pt (pw_and (pt_cmpR op_eq (pv 6) pe_int (nomark _)) (pw_and1 (pt_cmpR op_gt (pv 4) pe_int (nomark _))))) (pss_cons (ps_set (i := 11) scL_step.nd rfl (Or.inl rfl) (pcall C_law_body (hr.mono (by first | exact Nat.le_of_ble_eq_true rfl | omega)) rfl (pa_cons (pv 0) (pa_cons (pv 1) (pa_cons (pv 2) (pa_cons (pv 3) (pa_cons (pe_op op_sub (pv 4) pe_int) pa_nil)))))))
  (pss_one (ps_ret (pe_tup (pa_cons pe_str (pa_cons (pcall C_law_thing (hr.mono (by first | exact Nat.le_of_ble_eq_true rfl | omega)) rfl (pa_cons (pv 0) (pa_cons (pv 5) (pa_cons pe_int pa_nil)))) (pa_cons (pv 11) (pa_cons (pcall C_law_body (hr.mono (by first | exact Nat.le_of_ble_eq_true rfl | omega)) rfl (pa_cons (pv 0) (pa_cons (pv 1) (pa_cons (pv 2) (pa_cons (pv 3) (pa_cons (pe_op op_sub (pv 4) pe_int) pa_nil)))))) pa_nil)))))))) pss_nil)
  (pss_cons (ps_if (pt_cmpR op_eq (pv 6) pe_int (nomark _)) (pss_one (ps_ret (pe_tup (pa_cons pe_str (pa_cons (pcall C_law_thing (hr.mono (by first | exact Nat.le_of_ble_eq_true rfl | omega)) rfl (pa_cons (pv 0) (pa_cons (pv 5) (pa_cons pe_int pa_nil)))) pa_nil))))) pss_nil)
  (pss_one (ps_ret (pe_tup (pa_cons pe_str (pa_cons (pcall C_law_place (hr.mono (by first | exact Nat.le_of_ble_eq_true rfl | omega)) rfl (pa_cons (pv 0) (pa_cons (pv 5) (pa_cons pe_int pa_nil)))) (pa_cons (pcall C_law_thing (hr.mono (by first | exact Nat.le_of_ble_eq_true rfl | omega)) rfl (pa_cons (pv 0) (pa_cons (pv 5) (pa_cons pe_int pa_nil)))) pa_nil))))))))))), ?_⟩
  obtain ⟨vs, hs, hl, hv⟩ := id g.shp
  obtain ⟨sz, ez, tz⟩ := hv at_ _ (List.getElem?_eq_getElem hat)
  have ez' := atI_nat ez
  have hsm := g.small _ (List.getElem_mem hat)
  have eq : sh.getD at_ (0, 0) = sh[at_] := by rw [List.getD_eq_getElem?_getD, List.getElem?_eq_getElem hat]; rfl
  walk_at "rd"
  refine ask ⟨r, _, rfl, by decide, by decide, g.row, fun v1 H1 v10 v11 k1 R1 => ?_⟩
  have g1 := g.drew k1 R1
  have tz1 := (g.row.ts k1).sqT tz
  have hs1 := k1 _ _ hs (by simpa using g.n2)
  have gl1 := g1.left
  have kk1 : Keep [r, lf] H H1 := k1.mono (by simp)
  walk_at "rd"
  refine r_andP (a := decide (6 < v1)) (b := decide ((at_ : Int) + 1 < (vs.length : Int)) && decide (0 < (c : Int))) (fun R hr => by walk_at "rd"; exact hr) (fun _ R hr => ?_) ?_
  · exact r_andP (a := decide ((at_ : Int) + 1 < (vs.length : Int))) (b := decide (0 < (c : Int))) (fun R hr => by walk_at "rd"; exact hr) (fun _ R hr => by walk_at "rd"; exact hr) hr
  refine ite2 (fun c1 => ?_) (fun c1 => ?_)
  · -- a call
    simp only [Bool.and_eq_true, decide_eq_true_eq] at c1
    obtain ⟨c1a, c1b, c1c⟩ := c1
    rw [hl] at c1b
    walk_at "rd"
    intro H2 h2 k2
    have e2 : ((c - 1 : Nat) : Int) = (c : Int) - 1 := by omega
    have g2 := g1.lefts (a1 := a) (c1 := c - 1) k2 (by rw [e2]; exact h2)
    have kk2 : Keep [r, lf] H H2 := kk1.trans (k2.mono (by simp))
    have hs2 := kk2 _ _ hs (by simp [g.n2, g.n3])
    walk_at "rd"
    refine ask ⟨r, _, rfl, by rw [hl]; omega, by rw [hl]; have := g.few; omega, g2.row, fun v3 H3 v30 v31 k3 R3 => ?_⟩
    rw [hl] at v31
    have g3 := g2.drew k3 R3
    have kk3 : Keep [r, lf] H H3 := kk2.trans (k3.mono (by simp))
    obtain ⟨m, rfl⟩ : ∃ m : Nat, v3 = m := ⟨v3.toNat, by omega⟩
    have hw : at_ + 1 + m < sh.length := by omega
    obtain ⟨tw, ew, tw'⟩ := hv (at_ + 1 + m) _ (List.getElem?_eq_getElem hw)
    have hsw := g.small _ (List.getElem_mem hw)
    have en : ((at_ + 1 + m : Nat) : Int) = (at_ : Int) + 1 + (m : Int) := by omega
    have ew' : atI vs ((at_ : Int) + 1 + (m : Int)) = some (V.ref tw) := by
      rw [← en]
      exact atI_nat ew
    walk_at "rd"
    intro l H4 n4 h4 k4
    have nl0 : H l = none := kk3.free (fun x hx => by
      rcases List.mem_cons.mp hx with rfl | hx
      · exact g3.row.ne
      · cases List.mem_singleton.mp hx
        rw [g3.left]
        exact fun z => nomatch z) n4
    obtain ⟨nl1, nl2, nl3⟩ := g.ne nl0
    have g4 := g3.keep0 k4
    have kk4 : Keep [r, lf] H H4 := kk3.by0 k4
    have hs4 := kk4 _ _ hs (by simp [g.n2, g.n3])
    have tw4 := (g.ts kk4).sqT tw'
    walk_at "rd"
    refine forR (fun i σ H' => ∃ (x y : Option V) (xs : List V) (ts : List Th), σ = [some (.ref r), some (.ref sa), some (.int at_), some (.ref lf), some (.int wi), some (.ref sz), some (.int v1), some (.int ((at_ : Int) + 1 + (m : Int))), some (.ref l), x, y, none] ∧
      GS K H' r lf sa sh a (c - 1) ∧ Keep [r, lf] H H' ∧ H' l = some (.lst xs) ∧ Rps K H' xs (ts.map Th.enc) ∧ ts.length = i ∧ ∀ t ∈ ts, Th.ok sh[at_].1 sh[at_].2 3 t) ⟨none, none, [], [], rfl, g4, kk4, h4, .nil, rfl, by simp⟩ (fun i σ H' hi hp => ?_) (fun σ H' hp => ?_)
    · obtain ⟨x, y, xs, ts, rfl, g5, kk5, h5, hx5, ei, ho5⟩ := hp
      have lx : xs.length = i := by rw [hx5.length, List.length_map, ei]
      have lb : xs.length ≤ 10 := by omega
      have tz5 := (g.ts kk5).sqT tz
      walk_at "rd"
      refine ask ⟨r, sz, sh[at_].1, sh[at_].2, 1, rfl, g5.row, tz5, by omega, by omega, by decide, by decide, fun va ta H6 ra oa k6 R6 => ?_⟩
      have h6 := k6 _ _ h5 (by simpa using nl1)
      have g6 := g5.drew k6 R6
      have kk6 : Keep [r, lf] H H6 := kk5.trans (k6.mono (by simp))
      walk_at "rd"
      refine ask ⟨r, _, rfl, by decide, by decide, R6, fun v7 H7 v70 v71 k7 R7 => ?_⟩
      have h7 := k7 _ _ h6 (by simpa using nl1)
      have g7 := g6.drew k7 R7
      have kk7 : Keep [r, lf] H H7 := kk6.trans (k7.mono (by simp))
      walk_at "rd"
      refine ite2 (fun c7 => ?_) (fun c7 => ?_)
      · walk_at "rd"
        intro H8 h8 k8
        have t8 : Tst H7 H8 := k8.ts fun x hx => by cases List.mem_singleton.mp hx; exact .inl ⟨_, h7⟩
        refine ⟨_, _, xs ++ [va], ts ++ [ta], rfl, g7.other k8 h7 nl1 nl2 nl3, kk7.fresh1 k8 nl0, h8, ?_, by rw [List.length_append, ei]; rfl, ?_⟩
        · rw [List.map_append]
          exact (((hx5.ts (g5.row.ts k6)).ts (g6.row.ts k7)).ts t8).append (.cons ((ra.ts (R6.ts k7)).ts t8) .nil)
        · intro t ht
          rcases List.mem_append.mp ht with ht | ht
          · exact ho5 t ht
          · cases List.mem_singleton.mp ht
            exact oa.mono (by decide)
      · have tz7 := (g.ts kk7).sqT tz
        walk_at "rd"
        refine ask ⟨r, sz, sh[at_].1, sh[at_].2, 1, rfl, R7, tz7, by omega, by omega, by decide, by decide, fun vb tb H8 rb pb ob k8 R8 => ?_⟩
        have h8 := k8 _ _ h7 (by simpa using nl1)
        have g8 := g7.drew k8 R8
        have kk8 : Keep [r, lf] H H8 := kk7.trans (k8.mono (by simp))
        walk_at "rd"
        intro H9 h9 k9
        have t9 : Tst H8 H9 := k9.ts fun x hx => by cases List.mem_singleton.mp hx; exact .inl ⟨_, h8⟩
        refine ⟨_, _, xs ++ [vb], ts ++ [tb], rfl, g8.other k9 h8 nl1 nl2 nl3, kk8.fresh1 k9 nl0, h9, ?_, by rw [List.length_append, ei]; rfl, ?_⟩
        · rw [List.map_append]
          exact ((((hx5.ts (g5.row.ts k6)).ts (g6.row.ts k7)).ts (g7.row.ts k8)).ts t9).append (.cons (rb.ts t9) .nil)
        · intro t ht
          rcases List.mem_append.mp ht with ht | ht
          · exact ho5 t ht
          · cases List.mem_singleton.mp ht
            exact ob.mono (by decide)
    · obtain ⟨x, y, xs, ts, rfl, g5, kk5, h5, hx5, ei, ho5⟩ := hp
      walk_at "rd"
      intro pt H6 n6 h6 k6
      walk_at "rd"
      intro pc H7 n7 h7 k7
      have r6 : Rp K H6 (.ref pt) (.tuple (ts.map Th.enc)) := .tup (SqT.of h6) (hx5.ts (keep_ts0 k6))
      refine q _ (.call (at_ + 1 + m) ts) _ a (c - 1) (.tup (SqT.of h7) (.cons (.str _) (.cons (by rw [en]; exact .int _) (.cons (r6.ts (keep_ts0 k7)) .nil)))) ⟨St.ok_call (by omega) hw (by rw [ei, getD_at hw]; exact Int.toNat_natCast _) (by rw [eq]; exact fun t ht => (ho5 t ht).mono (by omega)), by unfold St.thin; exact fun t ht => Th.ok_dep (ho5 t ht)⟩ (by unfold St.many; omega) (by unfold St.calls; omega)
        ((kk5.by0 k6).by0 k7) ((g5.keep0 k6).keep0 k7)
  walk_at "rd"
  refine r_andP (a := decide (V.int v1 = V.int 6)) (b := decide (0 < wi)) (fun R hr => by walk_at "rd"; exact hr) (fun _ R hr => by walk_at "rd"; exact hr) ?_
  refine ite2 (fun c2 => ?_) (fun c2 => ?_)
  · -- an if
    simp only [Bool.and_eq_true, decide_eq_true_eq] at c2
    obtain ⟨c2a, c2b⟩ := c2
    have eD : wi.toNat = (wi - 1).toNat + 1 := by omega
    walk_at "rd"
    refine ask ⟨r, sa, lf, sh, at_, a, c, _, rfl, g1, hat, by omega, by omega, fun vb b1 H2 a2 c2 rb ob mb cb k2 g2 => ?_⟩
    have kk2 : Keep [r, lf] H H2 := kk1.trans k2
    have tz2 := (g.ts kk2).sqT tz
    walk_at "rd"
    refine ask ⟨r, sz, sh[at_].1, sh[at_].2, 1, rfl, g2.row, tz2, by omega, by omega, by decide, by decide, fun va ta H3 ra oa k3 R3 => ?_⟩
    have g3 := g2.drew k3 R3
    walk_at "rd"
    refine ask ⟨r, sa, lf, sh, at_, a2, c2, _, rfl, g3, hat, by omega, by omega, fun vd b2 H4 a4 c4 rd od md cd k4 g4 => ?_⟩
    walk_at "rd"
    intro pc H5 n5 h5 k5
    have rb5 := ((rb.ts (g2.row.ts k3)).ts (g3.ts k4)).ts (keep_ts0 k5)
    have ra5 := (ra.ts (g3.ts k4)).ts (keep_ts0 k5)
    refine q _ (.ite ta b1 b2) _ a4 c4 (.tup (SqT.of h5) (.cons (.str _) (.cons ra5 (.cons rb5 (.cons (rd.ts (keep_ts0 k5)) .nil))))) ?_ (by unfold St.many; omega) (by unfold St.calls; omega)
      (((kk2.trans (k3.mono (by simp))).trans k4).by0 k5) (g4.keep0 k5)
    rw [eD]
    refine ⟨St.ok_ite ?_ ob.1 od.1, by unfold St.thin; exact ⟨ob.2, od.2⟩⟩
    rw [eq]
    exact oa.mono (by decide)
  walk_at "rd"
  refine ite2 (fun c3 => ?_) (fun c3 => ?_)
  · -- say
    walk_at "rd"
    refine ask ⟨r, sz, sh[at_].1, sh[at_].2, 2, rfl, R1, tz1, by omega, by omega, by decide, by decide, fun va ta H3 ra oa k3 R3 => ?_⟩
    walk_at "rd"
    intro pc H5 n5 h5 k5
    refine q _ (.say ta) _ a c (.tup (SqT.of h5) (.cons (.str _) (.cons (ra.ts (keep_ts0 k5)) .nil))) ⟨St.ok_say ?_, by unfold St.thin; trivial⟩ (by unfold St.many; omega) (by unfold St.calls; omega) ((kk1.trans (k3.mono (by simp))).by0 k5) ((g1.drew k3 R3).keep0 k5)
    rw [eq]
    exact oa.mono (by decide)
  · -- set
    walk_at "rd"
    refine ask ⟨r, sz, sh[at_].1, sh[at_].2, 1, rfl, R1, tz1, by omega, by omega, by decide, by decide, fun vb tb H2 rb pb ob k2 R2 => ?_⟩
    have tz2 := (R1.ts k2).sqT tz1
    walk_at "rd"
    refine ask ⟨r, sz, sh[at_].1, sh[at_].2, 2, rfl, R2, tz2, by omega, by omega, by decide, by decide, fun va ta H3 ra oa k3 R3 => ?_⟩
    walk_at "rd"
    intro pc H5 n5 h5 k5
    refine q _ (.set tb ta) _ a c (.tup (SqT.of h5) (.cons (.str _) (.cons ((rb.ts (R2.ts k3)).ts (keep_ts0 k5)) (.cons (ra.ts (keep_ts0 k5)) .nil)))) ⟨St.ok_set pb ?_ ?_, by unfold St.thin; trivial⟩ (by unfold St.many; omega) (by unfold St.calls; omega)
      (((kk1.trans (k2.mono (by simp))).trans (k3.mono (by simp))).by0 k5) (((g1.drew k2 R2).drew k3 R3).keep0 k5)
    · rw [eq]
      exact ob.mono (by decide)
    · rw [eq]
      exact oa.mono (by decide)
end
end
section
section
variable {P : Program} {w : World} {K : PySem.W.Frag} {mg : Str → Option Value} {base : Heap}
theorem GS.free {H H1 : Hp} {r lf sa l : Addr} {sh : List (Nat × Nat)} {a c : Nat} (g : GS K H1 r lf sa sh a c) (k : Keep [r, lf] H H1) (h : H1 l = none) : H l = none := k.free (fun x hx => by
  rcases List.mem_cons.mp hx with rfl | hx
  · exact g.row.ne
  · cases List.mem_singleton.mp hx
    rw [g.left]
    exact fun z => nomatch z) h
theorem okBody {n : Nat} (D : DefAt K mg "_law_body" sL_body pL_body) (T : Blt mg) (C_law_taken : Callee P w K mg base "_law_taken" 1 pL_taken (spTaken K)) (C_law_step : Callee P w K mg base "_law_step" (2 * n + 7) pL_step (spStep K n)) : Callee P w K mg base "_law_body" (2 * n + 8) pL_body (spBody K n) := by
  refine D.ok scL_body (fun vs H Q E h => ?_) (fun f cdv A outer s H vs Q E hr h => ?_)
  · obtain ⟨r, sa, lf, sh, at_, a, c, wi, rfl, _⟩ := h
    rfl
  obtain ⟨r, sa, lf, sh, at_, a, c, wi, rfl, g, hat, w0, w1, q⟩ := h
  refine ⟨_, (pss_cons (ps_set (i := 5) scL_body.nd rfl (Or.inl rfl) (pe_lst pa_nil))
  (pss_cons (ps_for PassesOwn.never rfl (pi_range1 rfl T.range (pa_cons (pcall C_law_taken (hr.mono (by first | exact Nat.le_of_ble_eq_true rfl | omega)) rfl (pa_cons (pv 0) (pa_cons (pe_ix (ixL (K := K)) (pe_lst (pa_cons pe_int (pa_cons pe_int pa_nil))) (pe_callTy c_int (by rfl) T.int (by decide +kernel) (pa_cons (pe_cmpR op_gt (pe_ix (ixL (K := K)) (pv 3) pe_int (fun _ _ => rfl)) pe_int (nomark _)) pa_nil)) (fun _ _ => rfl)) pa_nil))) pa_nil)) (pg_name (i := 6) scL_body.nd rfl (Or.inl rfl))
   (pss_one (ps_if (pt_cmpR op_gt (pe_ix (ixL (K := K)) (pv 3) pe_int (fun _ _ => rfl)) pe_int (nomark _)) (pss_cons (ps_asg (pe_op op_sub (pe_ix (ixL (K := K)) (pv 3) pe_int (fun _ _ => rfl)) pe_int) (pg_sub (pv 3) pe_int set_list))
  (pss_one (ps_expr (peApp (K := K) (pv 5) (pcall C_law_step (hr.mono (by first | exact Nat.le_of_ble_eq_true rfl | omega)) rfl (pa_cons (pv 0) (pa_cons (pv 1) (pa_cons (pv 2) (pa_cons (pv 3) (pa_cons (pv 4) pa_nil)))))))))) pss_nil)))
  (pss_one (ps_ret (pe_callTy (cTuple (K := K)) (by rfl) T.tuple (by decide +kernel) (pa_cons (pv 5) pa_nil)))))), ?_⟩
  have e1 : atI ([.int 5, .int 14] : List V) (if decide (12 < (a : Int)) = true then 1 else 0) = some (.int (if 12 < (a : Int) then 14 else 5)) := by
    by_cases h : 12 < (a : Int)
    · simp only [h, decide_true, if_true]; rfl
    · simp only [h, decide_false, if_false]; rfl
  walk_at "rd"
  intro l H1 n1 h1 k1
  have g1 := g.keep0 k1
  have gl1 := g1.left
  obtain ⟨nl1, nl2, nl3⟩ := g.ne n1
  walk_at "rd"
  intro pl H2 n2 h2 k2
  have g2 := g1.keep0 k2
  have gl2 := g2.left
  walk_at "rd"
  refine ask ⟨r, _, rfl, by split <;> decide, by split <;> decide, g2.row, fun v3 H3 v30 v31 k3 R3 => ?_⟩
  have g3 := g2.drew k3 R3
  have kk3 : Keep [r, lf] H H3 := ((Keep.refl.by0 k1).by0 k2).trans (k3.mono (by simp))
  have h3 := k3 _ _ (k2 _ _ h1 (by simp)) (by simpa using nl1)
  have v32 : v3 < 14 := by split at v31 <;> omega
  walk_at "rd"
  refine forR (fun i σ H' => ∃ (y : Option V) (xs : List V) (b : Sts) (a1 c1 : Nat), σ = [some (.ref r), some (.ref sa), some (.int at_), some (.ref lf), some (.int wi), some (.ref l), y] ∧
    GS K H' r lf sa sh a1 c1 ∧ Keep [r, lf] H H' ∧ H' l = some (.lst xs) ∧ Rps K H' xs b.encs ∧ Sts.okD sh at_ wi.toNat b ∧ b.many + a1 ≤ a ∧ b.calls + c1 ≤ c ∧ xs.length ≤ i) ⟨none, [], .nil, a, c, rfl, g3, kk3, h3, .nil, Sts.okD_nil, by unfold Sts.many; omega, by unfold Sts.calls; omega, Nat.le_refl _⟩ (fun i σ H' hi hp => ?_) (fun σ H' hp => ?_)
  · obtain ⟨y, xs, b, a1, c1, rfl, g4, kk4, h4, hx4, ob4, mb4, cb4, lx⟩ := hp
    have gl4 := g4.left
    have lb : xs.length ≤ 20 := by omega
    walk_at "rd"
    refine ite2 (fun c5 => ?_) (fun c5 => ?_)
    · have c5' := of_decide_eq_true c5
      walk_at "rd"
      intro H5 h5 k5
      have e5 : ((a1 - 1 : Nat) : Int) = (a1 : Int) - 1 := by omega
      have g5 := g4.lefts (a1 := a1 - 1) (c1 := c1) k5 (by rw [e5]; exact h5)
      have t5 : Tst H' H5 := g4.ts (k5.mono (by simp))
      have hl5 := k5 _ _ h4 (by simpa using nl2)
      have kk5 : Keep [r, lf] H H5 := kk4.trans (k5.mono (by simp))
      walk_at "rd"
      refine ask ⟨r, sa, lf, sh, at_, a1 - 1, c1, wi, rfl, g5, hat, w0, w1, fun vs6 s6 H6 a6 c6 rs6 os6 ms6 cs6 k6 g6 => ?_⟩
      have hl6 := k6 _ _ hl5 (by simp [nl1, nl2])
      have kk6 := kk5.trans k6
      walk_at "rd"
      intro H7 h7 k7
      have t7 : Tst H6 H7 := k7.ts fun x hx => by cases List.mem_singleton.mp hx; exact .inl ⟨_, hl6⟩
      refine ⟨_, xs ++ [vs6], b.app (.cons s6 .nil), a6, c6, rfl, g6.other k7 hl6 nl1 nl2 nl3, kk6.fresh1 k7 n1, h7, ?_, Sts.okD_app ob4 (Sts.okD_one os6), ?_, ?_, by rw [List.length_append, List.length_singleton]; omega⟩
      · rw [Sts.encs_app]
        exact (((hx4.ts t5).ts (g5.ts k6)).ts t7).append (.cons (rs6.ts t7) .nil)
      · rw [Sts.many_app]
        have : (Sts.cons s6 .nil).many = s6.many := by unfold Sts.many; show s6.many + 0 = _; omega
        omega
      · rw [Sts.calls_app]
        have : (Sts.cons s6 .nil).calls = s6.calls := by unfold Sts.calls; show s6.calls + 0 = _; omega
        omega
    · walk_at "rd"
      exact ⟨_, xs, b, a1, c1, rfl, g4, kk4, h4, hx4, ob4, mb4, cb4, by omega⟩
  · obtain ⟨y, xs, b, a1, c1, rfl, g4, kk4, h4, hx4, ob4, mb4, cb4, lx⟩ := hp
    walk_at "rd"
    intro pt H6 n6 h6 k6
    exact q _ b _ a1 c1 (.tup (SqT.of h6) (hx4.ts (keep_ts0 k6))) ob4 mb4 cb4 (kk4.by0 k6) (g4.keep0 k6)
theorem okSteps (DS : DefAt K mg "_law_step" sL_step pL_step) (DB : DefAt K mg "_law_body" sL_body pL_body) (T : Blt mg) (C_law_taken : Callee P w K mg base "_law_taken" 1 pL_taken (spTaken K)) (C_law_thing : Callee P w K mg base "_law_thing" 5 pL_thing (spThing K 3))
    (C_law_place : Callee P w K mg base "_law_place" 6 pL_place (spPlace K)) : ∀ n : Nat, Callee P w K mg base "_law_step" (2 * n + 7) pL_step (spStep K n) ∧ Callee P w K mg base "_law_body" (2 * n + 8) pL_body (spBody K n)
  | 0 => by
    have h0 : Callee P w K mg base "_law_step" (2 * 0 + 7) pL_step (spStep K 0) := DS.none fun vs H Q E h => by
      obtain ⟨r, sa, lf, sh, at_, a, c, wi, rfl, g, hat, w0, w1, q⟩ := h
      omega
    exact ⟨h0, okBody DB T C_law_taken h0⟩
  | n + 1 => by
    have ih := okSteps DS DB T C_law_taken C_law_thing C_law_place n
    have h1 : Callee P w K mg base "_law_step" (2 * (n + 1) + 7) pL_step (spStep K (n + 1)) := okStep DS T C_law_taken C_law_thing C_law_place ih.2
    exact ⟨h1, okBody DB T C_law_taken h1⟩
end
end
section
section
variable {P : Program} {w : World} {K : PySem.W.Frag} {mg : Str → Option Value} {base : Heap}
theorem Shp.snoc {H H1 : Hp} {a t : Addr} {sh : List (Nat × Nat)} {vs : List V} {p o : Nat} (hl : vs.length = sh.length) (hv : ∀ (i : Nat) (q : Nat × Nat), sh[i]? = some q → ∃ t : Addr, vs[i]? = some (V.ref t) ∧ SqT K H t [.int (q.1 : Int), .int (q.2 : Int)])
    (ts : Tst H H1) (h1 : H1 a = some (.lst (vs ++ [.ref t]))) (ht : SqT K H1 t [.int (p : Int), .int (o : Int)]) : Shp K H1 a (sh ++ [(p, o)]) := by
  refine ⟨_, h1, by rw [List.length_append, List.length_append, hl]; rfl, fun i q e => ?_⟩
  by_cases hi : i < sh.length
  · rw [List.getElem?_append_left hi] at e
    obtain ⟨u, e1, e2⟩ := hv i q e
    exact ⟨u, by rw [List.getElem?_append_left (by omega)]; exact e1, ts.sqT e2⟩
  · rw [List.getElem?_append_right (by omega)] at e
    have : i - sh.length = 0 := by
      have := (List.getElem?_eq_some_iff.mp e).1
      simp at this
      omega
    rw [this] at e
    cases e
    exact ⟨t, by rw [List.getElem?_append_right (by omega), hl, this]; rfl, ht⟩
structure Lp (K : PySem.W.Frag) (H H' : Hp) (r sa l : Addr) (sh : List (Nat × Nat)) (xs : List V) (ws : List Wk) : Prop where
  row : Row K H' r
  keep : Keep [r] H H'
  shp : Shp K H' sa sh
  lst : H' l = some (.lst xs)
  rps : Rps K H' xs (ws.map Wk.enc)
  n0 : H sa = none
  n1 : H l = none
  nr : sa ≠ r
  nl : l ≠ r
  sl : sa ≠ l
  few : sh.length ≤ 4
  small : ∀ q ∈ sh, q.1 ≤ 3 ∧ q.2 ≤ 10
theorem Lp.drew {H H1 H2 : Hp} {r sa l : Addr} {sh : List (Nat × Nat)} {xs : List V} {ws : List Wk} (g : Lp K H H1 r sa l sh xs ws) (k : Keep [r] H1 H2) (R : Row K H2 r) : Lp K H H2 r sa l sh xs ws :=
  ⟨R, g.keep.trans k, g.shp.keep k (by simpa using g.nr) (g.row.ts k), k _ _ g.lst (by simpa using g.nl), g.rps.ts (g.row.ts k), g.n0, g.n1, g.nr, g.nl, g.sl, g.few, g.small⟩
theorem Lp.keep0 {H H1 H2 : Hp} {r sa l : Addr} {sh : List (Nat × Nat)} {xs : List V} {ws : List Wk} (g : Lp K H H1 r sa l sh xs ws) (k : Keep [] H1 H2) : Lp K H H2 r sa l sh xs ws :=
  ⟨g.row.keep0 k, g.keep.by0 k, g.shp.keep k (by simp) (keep_ts0 k), k _ _ g.lst (by simp), g.rps.ts (keep_ts0 k), g.n0, g.n1, g.nr, g.nl, g.sl, g.few, g.small⟩
/-- a new list was changed -/
theorem Lp.other {H H1 H2 : Hp} {r sa l e : Addr} {sh : List (Nat × Nat)} {xs ys : List V} {ws : List Wk} (g : Lp K H H1 r sa l sh xs ws) (k : Keep [e] H1 H2) (h : H1 e = some (.lst ys)) (n : H e = none) (n1 : e ≠ r) (n2 : e ≠ sa) (n3 : e ≠ l) : Lp K H H2 r sa l sh xs ws := by
  have t : Tst H1 H2 := k.ts fun x hx => by cases List.mem_singleton.mp hx; exact .inl ⟨_, h⟩
  exact ⟨g.row.keep k (by simpa using Ne.symm n1) t, g.keep.fresh1 k n, g.shp.keep k (by simpa using Ne.symm n2) t, k _ _ g.lst (by simpa using Ne.symm n3), g.rps.ts t, g.n0, g.n1, g.nr, g.nl, g.sl, g.few, g.small⟩
theorem Lp.free {H H1 : Hp} {r sa l e : Addr} {sh : List (Nat × Nat)} {xs : List V} {ws : List Wk} (g : Lp K H H1 r sa l sh xs ws) (h : H1 e = none) : H e = none ∧ e ≠ r ∧ e ≠ sa ∧ e ≠ l := by
  refine ⟨g.keep.free (fun x hx => by cases List.mem_singleton.mp hx; exact g.row.ne) h, fun z => g.row.ne (z ▸ h), fun z => ?_, fun z => ?_⟩
  · obtain ⟨vs, h1, _⟩ := g.shp
    rw [← z, h] at h1
    cases h1
  · have := g.lst
    rw [← z, h] at this
    cases this
noncomputable def spProgram (K : PySem.W.Frag) : Sp := fun vs H Q _ => ∃ (r : Addr) (most : Nat), vs = [.ref r, .int (most : Int)] ∧ 1 ≤ most ∧ most ≤ 60 ∧ Row K H r ∧
  ∀ (v : V) (P : List Wk) (H' : Hp), Rp K H' v (encP P) → Drawn P (most + 2) → Keep [r] H H' → Row K H' r → Q v H'
noncomputable abbrev sL_program : Stmt := top 93
noncomputable abbrev nL_program : List Str := ["_law_row", "_law_most", "_law_shapes", "_law_k", "_law_owns", "_law_found", "_law_at", "_law_body_here", "_law_things"]
noncomputable abbrev pL_program : List Str := ["_law_row", "_law_most"]
theorem scL_program : FnScope nL_program pL_program (defScope sL_program) := ⟨rfl, rfl, rfl, by decide +kernel, rfl, by decide +kernel, by decide +kernel⟩
theorem okProgram (D : DefAt K mg "_law_program" sL_program pL_program) (T : Blt mg) (C_law_taken : Callee P w K mg base "_law_taken" 1 pL_taken (spTaken K))
    (C_law_place : Callee P w K mg base "_law_place" 6 pL_place (spPlace K)) (C_law_body : Callee P w K mg base "_law_body" 14 pL_body (spBody K 3)) : Callee P w K mg base "_law_program" 15 pL_program (spProgram K) := by
  refine D.ok scL_program (fun vs H Q E h => ?_) (fun f cdv A outer s H vs Q E hr h => ?_)
  · obtain ⟨r, most, rfl, _⟩ := h
    rfl
  obtain ⟨r, most, rfl, m1, m2, hR, q⟩ := h
  refine ⟨_, (pss_cons (ps_set (i := 2) scL_program.nd rfl (Or.inr rfl) (pe_lst (pa_cons (pe_tup (pa_cons pe_int (pa_cons (pcall C_law_taken (hr.mono (by first | exact Nat.le_of_ble_eq_true rfl | omega)) rfl (pa_cons (pv 0) (pa_cons pe_int pa_nil))) pa_nil))) pa_nil)))
  (pss_cons (ps_for PassesOwn.never rfl (pi_range1 rfl T.range (pa_cons (pcall C_law_taken (hr.mono (by first | exact Nat.le_of_ble_eq_true rfl | omega)) rfl (pa_cons (pv 0) (pa_cons pe_int pa_nil))) pa_nil)) (pg_name (i := 3) scL_program.nd rfl (Or.inl rfl))
   (pss_cons (ps_set (i := 4) scL_program.nd rfl (Or.inl rfl) (pcall C_law_taken (hr.mono (by first | exact Nat.le_of_ble_eq_true rfl | omega)) rfl (pa_cons (pv 0) (pa_cons (pe_ix (ixL (K := K)) (pe_lst (pa_cons pe_int (pa_cons pe_int (pa_cons pe_int (pa_cons pe_int (pa_cons pe_int (pa_cons pe_int pa_nil))))))) (pcall C_law_taken (hr.mono (by first | exact Nat.le_of_ble_eq_true rfl | omega)) rfl (pa_cons (pv 0) (pa_cons pe_int pa_nil))) (fun _ _ => rfl)) pa_nil))))
  (pss_one (ps_expr (peApp (K := K) (pv 2) (pe_tup (pa_cons (pe_ix (ixL (K := K)) (pe_lst (pa_cons pe_int (pa_cons pe_int (pa_cons pe_int (pa_cons pe_int (pa_cons pe_int pa_nil)))))) (pcall C_law_taken (hr.mono (by first | exact Nat.le_of_ble_eq_true rfl | omega)) rfl (pa_cons (pv 0) (pa_cons pe_int pa_nil))) (fun _ _ => rfl)) (pa_cons (pv 4) pa_nil))))))))
  (pss_cons (ps_set (i := 5) scL_program.nd rfl (Or.inl rfl) (pe_lst pa_nil))
  (pss_cons (ps_for PassesOwn.never rfl (pi_range1 rfl T.range (pa_cons (pe_callB (cLen (K := K)) (by rfl) T.len PySem.boot_len (pa_cons (pv 2) pa_nil)) pa_nil)) (pg_name (i := 6) scL_program.nd rfl (Or.inr rfl))
   (pss_cons (ps_set (i := 7) scL_program.nd rfl (Or.inl rfl) (pcall C_law_body (hr.mono (by first | exact Nat.le_of_ble_eq_true rfl | omega)) rfl (pa_cons (pv 0) (pa_cons (pv 2) (pa_cons (pv 6) (pa_cons (pe_lst (pa_cons (pv 1) (pa_cons pe_int pa_nil))) (pa_cons pe_int pa_nil)))))))
  (Evl.pss_cut (ps_if (PW.pt (pw_and (pt_cmpR op_lt (pe_op op_add (pv 6) pe_int) (pe_callB (cLen (K := K)) (by rfl) T.len PySem.boot_len (pa_cons (pv 2) pa_nil)) (nomark _)) (pw_and1 (pt_cmpR op_gt (pcall C_law_taken (hr.mono (by first | exact Nat.le_of_ble_eq_true rfl | omega)) rfl (pa_cons (pv 0) (pa_cons pe_int pa_nil))) pe_int (nomark _))))) (pss_cons (ps_set (i := 8) scL_program.nd rfl (Or.inl rfl) (pe_callTy (cTuple (K := K)) (by rfl) T.tuple (by decide +kernel) (pa_cons (pe_lc (own := [("_law_k", 3)]) (g := gName 3) (by rfl) scL_program.nd (pi_range1 rfl T.range (pa_cons (pe_ix (ixT (K := K)) (pe_ix (ixL (K := K)) (pv 2) (pe_op op_add (pv 6) pe_int) (fun _ _ => rfl)) pe_int (fun _ _ => rfl)) pa_nil)) (blkOk_by (own := [("_law_k", 3)]) (N := nL_program) (sc := defScope sL_program) (by decide +kernel)) (fun _ _ _ _ _ => (pg_name (i := 3) scL_program.nd rfl (Or.inl rfl))) (fun _ _ _ _ _ => pts_nil) (fun _ _ _ _ _ => (pcall C_law_place (hr.mono (by first | exact Nat.le_of_ble_eq_true rfl | omega)) rfl (pa_cons (pv 0) (pa_cons (pe_ix (ixL (K := K)) (pv 2) (pv 6) (fun _ _ => rfl)) (pa_cons pe_int pa_nil)))))) pa_nil)))
  (pss_one (ps_set (i := 7) scL_program.nd rfl (Or.inl rfl) (pe_op (opCatA (K := K)) (pe_slice (slA (K := K)) (pv 7) po_none (po_some (pe_op op_sub (pv 1) pe_int))) (pe_tup (pa_cons (pe_tup (pa_cons pe_str (pa_cons (pe_op op_add (pv 6) pe_int) (pa_cons (pv 8) pa_nil)))) pa_nil)))))) pss_nil)
  (Evl.pss_cut (ps_if (PW.pt (pw_and (pt_cmpR op_gt (pv 6) pe_int (nomark _)) (pw_and (pt_cmpR op_gt (pe_ix (ixT (K := K)) (pe_ix (ixL (K := K)) (pv 2) (pv 6) (fun _ _ => rfl)) pe_int (fun _ _ => rfl)) pe_int (nomark _)) (pw_and1 (pt_cmpR op_eq (pcall C_law_taken (hr.mono (by first | exact Nat.le_of_ble_eq_true rfl | omega)) rfl (pa_cons (pv 0) (pa_cons pe_int pa_nil))) pe_int (nomark _)))))) (pss_one (ps_set (i := 7) scL_program.nd rfl (Or.inl rfl) (pe_op (opCatA (K := K)) (pe_slice (slA (K := K)) (pv 7) po_none (po_some (pe_op op_sub (pv 1) pe_int))) (pe_tup (pa_cons (pe_tup (pa_cons pe_str (pa_cons (pe_tup (pa_cons pe_str (pa_cons pe_int pa_nil))) (pa_cons (pe_tup (pa_cons pe_str (pa_cons (pe_tup (pa_cons pe_str (pa_cons pe_int pa_nil))) (pa_cons (pe_tup (pa_cons pe_str (pa_cons pe_int pa_nil))) pa_nil)))) pa_nil)))) pa_nil))))) pss_nil)
  (pss_one (ps_expr (peApp (K := K) (pv 5) (pe_op (opCatA (K := K)) (pe_ix (ixL (K := K)) (pv 2) (pv 6) (fun _ _ => rfl)) (pe_tup (pa_cons (pv 7) pa_nil))))))))))
  (pss_one (ps_ret (pe_callTy (cTuple (K := K)) (by rfl) T.tuple (by decide +kernel) (pa_cons (pv 5) pa_nil)))))))), ?_⟩
  walk_at "rd"
  refine ask ⟨r, _, rfl, by decide, by decide, hR, fun v1 H1 v10 v11 k1 R1 => ?_⟩
  obtain ⟨o1, rfl⟩ : ∃ m : Nat, v1 = m := ⟨v1.toNat, by omega⟩
  walk_at "rd"
  intro t1 H2 n2 h2 k2
  walk_at "rd"
  intro sa H3 n3 h3 k3
  have R3 := (R1.keep0 k2).keep0 k3
  have kk3 : Keep [r] H H3 := (k1.by0 k2).by0 k3
  have nsr : sa ≠ r := fun z => (R1.keep0 k2).ne (z ▸ n3)
  have ns0 : H sa = none := (k1.by0 k2).free (fun x hx => by cases List.mem_singleton.mp hx; exact (R1.keep0 k2).ne) n3
  have s3 : Shp K H3 sa [(0, o1)] := ⟨_, h3, rfl, fun i qq e => by
    match i, e with
    | 0, e => cases e; exact ⟨t1, rfl, SqT.of (k3 _ _ h2 (by simp))⟩⟩
  walk_at "rd"
  refine ask ⟨r, _, rfl, by decide, by decide, R3, fun v4 H4 v40 v41 k4 R4 => ?_⟩
  have s4 := s3.keep k4 (by simpa using nsr) (R3.ts k4)
  have kk4 := kk3.trans k4
  walk_at "rd"
  refine forR (fun i σ H' => ∃ (x y : Option V) (sh : List (Nat × Nat)), σ = [some (.ref r), some (.int most), some (.ref sa), x, y, none, none, none, none] ∧ Row K H' r ∧ Keep [r] H H' ∧ Shp K H' sa sh ∧ sh.length = i + 1 ∧ (∀ q ∈ sh, q.1 ≤ 3 ∧ q.2 ≤ 10) ∧ ∀ q, sh[0]? = some q → q.1 = 0)
    ⟨none, none, _, rfl, R4, kk4, s4, rfl, by simp; omega, fun q e => by cases e; rfl⟩ (fun i σ H' hi hp => ?_) (fun σ H' hp => ?_)
  · obtain ⟨x, y, sh, rfl, R5, kk5, s5, ls, ss, s0⟩ := hp
    walk_at "rd"
    intro p6 H6 n6 h6 k6
    walk_at "rd"
    refine ask ⟨r, _, rfl, by decide, by decide, R5.keep0 k6, fun v7 H7 v70 v71 k7 R7 => ?_⟩
    have h67 := k7 _ _ h6 (by simpa using fun z => R5.ne (by rw [← z]; exact n6))
    obtain ⟨z7, e7, z70⟩ := atI_ints (ns := [3, 3, 3, 3, 3, 11]) v70 (by simpa using v71)
    have z71 : 3 ≤ z7 ∧ z7 ≤ 11 := by simp at z70; omega
    walk_at "rd"
    refine ask ⟨r, _, rfl, by omega, by omega, R7, fun v8 H8 v80 v81 k8 R8 => ?_⟩
    obtain ⟨o8, rfl⟩ : ∃ m : Nat, v8 = m := ⟨v8.toNat, by omega⟩
    have kk8 : Keep [r] H H8 := ((kk5.by0 k6).trans k7).trans k8
    have s8 := ((s5.keep k6 (by simp) (keep_ts0 k6)).keep k7 (by simpa using nsr) ((R5.keep0 k6).ts k7)).keep k8 (by simpa using nsr) (R7.ts k8)
    obtain ⟨vs8, hs8, hl8, hv8⟩ := id s8
    have lb8 : vs8.length ≤ 10 := by omega
    walk_at "rd"
    intro p9 H9 n9 h9 k9
    walk_at "rd"
    refine ask ⟨r, _, rfl, by decide, by decide, R8.keep0 k9, fun v10 H10 v100 v101 k10 R10 => ?_⟩
    have h910 := k10 _ _ h9 (by simpa using fun z => R8.ne (by rw [← z]; exact n9))
    obtain ⟨z10, e10, z100⟩ := atI_ints (ns := [1, 2, 2, 3, 0]) v100 (by simpa using v101)
    have z101 : 0 ≤ z10 ∧ z10 ≤ 3 := by simp at z100; omega
    obtain ⟨p10, rfl⟩ : ∃ m : Nat, z10 = m := ⟨z10.toNat, by omega⟩
    have hs10 := k10 _ _ (k9 _ _ hs8 (by simp)) (by simpa using nsr)
    have t10 : Tst H8 H10 := (keep_ts0 k9).trans ((R8.keep0 k9).ts k10)
    walk_at "rd"
    intro t11 H11 n11 h11 k11
    have hs11 := k11 _ _ hs10 (by simp)
    have t11' := t10.trans (keep_ts0 k11)
    have R11 := R10.keep0 k11
    have kk11 : Keep [r] H H11 := ((kk8.by0 k9).trans k10).by0 k11
    walk_at "rd"
    intro H12 h12 k12
    have t12 : Tst H11 H12 := k12.ts fun x hx => by cases List.mem_singleton.mp hx; exact .inl ⟨_, hs11⟩
    refine ⟨_, _, sh ++ [(p10, o8)], rfl, R11.keep k12 (by simpa using Ne.symm nsr) t12, kk11.fresh1 k12 ns0, Shp.snoc hl8 hv8 (t11'.trans t12) h12 (t12.sqT (SqT.of h11)), by rw [List.length_append, ls]; rfl, fun qq hq => ?_, fun qq e => ?_⟩
    · rcases List.mem_append.mp hq with hq | hq
      · exact ss qq hq
      · cases List.mem_singleton.mp hq
        exact ⟨by show p10 ≤ 3; omega, by show o8 ≤ 10; omega⟩
    · rw [List.getElem?_append_left (by omega)] at e
      exact s0 qq e
  obtain ⟨x, y, sh, rfl, R5, kk5, s5, ls, ss, s0⟩ := hp
  have lf4 : sh.length ≤ 4 := by omega
  walk_at "rd"
  intro l H6 n6 h6 k6
  have s6 := s5.keep k6 (by simp) (keep_ts0 k6)
  have nlr : l ≠ r := fun z => R5.ne (z ▸ n6)
  have nl0 : H l = none := kk5.free (fun x hx => by cases List.mem_singleton.mp hx; exact R5.ne) n6
  have nsl : sa ≠ l := fun z => by
    obtain ⟨vs, h1, _⟩ := s5
    rw [z, n6] at h1
    cases h1
  have g6 : Lp K H H6 r sa l sh [] [] := ⟨R5.keep0 k6, kk5.by0 k6, s6, h6, .nil, ns0, nl0, nsr, nlr, nsl, lf4, ss⟩
  obtain ⟨vs6, hs6, hl6, hv6⟩ := id s6
  walk_at "rd"
  have fewI : (vs6.length : Int) < 10 := by omega
  refine forR (fun i σ H' => ∃ (x3 x4 x6 x7 x8 : Option V) (xs : List V) (ws : List Wk), σ = [some (.ref r), some (.int most), some (.ref sa), x3, x4, some (.ref l), x6, x7, x8] ∧ Lp K H H' r sa l sh xs ws ∧ ws.length = i ∧ shapes ws = sh.take i ∧ (∀ (j : Nat) (w : Wk), ws[j]? = some w → Sts.okD sh j 2 w.body) ∧ ∀ w ∈ ws, w.body.many ≤ most + 2 ∧ w.body.calls ≤ 4)
    ⟨_, _, _, _, _, [], [], rfl, g6, rfl, by rw [List.take_zero]; rfl, fun j w e => by simp at e, fun w hw => by cases hw⟩ (fun i σ H' hi hp => ?_) (fun σ H' hp => ?_)
  · obtain ⟨x3, x4, x6, x7, x8, xs, ws, rfl, g7, lw, sw, ow, mw⟩ := hp
    have hi' : i < sh.length := by omega
    walk_at "rd"
    intro lf H8 n8 h8 k8
    have g8 := g7.keep0 k8
    obtain ⟨f1, f2, f3, f4⟩ := g7.free n8
    walk_at "rd"
    refine ask ⟨r, sa, lf, sh, i, most, 3, 2, rfl, ⟨g8.row, h8, g8.shp, f2, nsr, Ne.symm f3, lf4, ss⟩, hi', by decide, by decide, fun vb b H9 a9 c9 rb ob mb cb k9 gs9 => ?_⟩
    have g9 : Lp K H H9 r sa l sh xs ws := by
      have t9 : Tst H8 H9 := k9.ts fun x hx => by
        rcases List.mem_cons.mp hx with rfl | hx
        · exact g8.row.lo _ (List.mem_singleton.mpr rfl)
        · cases List.mem_singleton.mp hx
          exact .inl ⟨_, h8⟩
      refine ⟨gs9.row, ?_, gs9.shp, k9 _ _ g8.lst (by simp [nlr, Ne.symm f4]), g8.rps.ts t9, ns0, nl0, nsr, nlr, nsl, lf4, ss⟩
      have k9' : Keep [lf, r] H8 H9 := k9.mono (fun x hx => by
        rcases List.mem_cons.mp hx with rfl | hx
        · simp
        · cases List.mem_singleton.mp hx
          simp)
      exact ((g8.keep.mono (M' := [lf, r]) (by simp)).trans k9').less f1
    obtain ⟨ab, xb, rfl, hab, hxb⟩ := rb.tup_inv
    have lxb : xb.length ≤ most := by
      rw [hxb.length, Sts.encs_len]
      have := Sts.len_le_many b
      omega
    obtain ⟨vs9, hs9, hl9, hv9⟩ := id g9.shp
    walk_at "rd"
    refine cut (fun σ' H' => ∃ (y3 y8 : Option V) (ac : Addr) (xc : List V) (bc : Sts), σ' = [some (.ref r), some (.int most), some (.ref sa), y3, x4, some (.ref l), some (.int i), some (.ref ac), y8] ∧ Lp K H H' r sa l sh xs ws ∧ SqT K H' ac xc ∧ Rps K H' xc bc.encs ∧ Sts.okD sh i 2 bc ∧ bc.many ≤ most + 1 ∧ bc.calls ≤ 4) ?_ ?_
    · refine r_if ?_
      refine r_andI (a := decide ((i : Int) + 1 < (vs9.length : Int))) (fun R hr => by walk_at "rd"; exact hr) (fun c10 => ?_) (fun c10 => ?_)
      · have c10' := of_decide_eq_true c10
        have hw : i + 1 < sh.length := by omega
        walk_at "rd"
        refine ask ⟨r, _, rfl, by decide, by decide, g9.row, fun v11 H11 v110 v111 k11 R11 => ?_⟩
        have g11 := g9.drew k11 R11
        have t11 := g9.row.ts k11
        walk_at "rd"
        refine ite2 (fun c12 => ?_) (fun c12 => ?_)
        · obtain ⟨tn, en, tn'⟩ := hv9 (i + 1) _ (List.getElem?_eq_getElem hw)
          obtain ⟨tc, ec, tc'⟩ := hv9 i _ (List.getElem?_eq_getElem hi')
          have en' : atI vs9 ((i : Int) + 1) = some (V.ref tn) := by
            have := atI_nat en
            rw [show ((i + 1 : Nat) : Int) = (i : Int) + 1 by omega] at this
            exact this
          have ec' := atI_nat ec
          have hs11 := k11 _ _ hs9 (by simpa using nsr)
          have tn11 := t11.sqT tn'
          have hsn := ss _ (List.getElem_mem hw)
          have hsc := ss _ (List.getElem_mem hi')
          walk_at "rd"
          refine lcR (fun E j H' => ∃ (ys : List V) (ts : List Th), Lp K H H' r sa l sh xs ws ∧ Tst H11 H' ∧ H E = none ∧ E ≠ r ∧ E ≠ sa ∧ E ≠ l ∧ H' E = some (.lst ys) ∧ H' sa = some (.lst vs9) ∧ Rps K H' ys (ts.map Th.enc) ∧ ts.length = j ∧ ∀ t ∈ ts, Th.ok sh[i].1 sh[i].2 3 t)
            (fun E H12 n12 h12 k12 => ?_) (fun E j H12 hj hp => ?_) (fun E H12 hp => ?_)
          · obtain ⟨e1, e2, e3, e4⟩ := g11.free n12
            exact ⟨[], [], g11.keep0 k12, keep_ts0 k12, e1, e2, e3, e4, h12, k12 _ _ hs11 (by simp), .nil, rfl, by simp⟩
          · obtain ⟨ys, ts, g12, t12, e1, e2, e3, e4, h12, hs12, hy12, lt, ot⟩ := hp
            have lys : ys.length ≤ 10 := by
              rw [hy12.length, List.length_map]
              omega
            have tc12 := t12.sqT (t11.sqT tc')
            walk_at "rd"
            refine ⟨rfl, ?_⟩
            walk_at "rd"
            refine ask ⟨r, tc, sh[i].1, sh[i].2, 1, rfl, g12.row, tc12, by omega, by omega, by decide, by decide, fun vp tp H13 rp pp op k13 R13 => ?_⟩
            have h13 := k13 _ _ h12 (by simpa using e2)
            have g13 := g12.drew k13 R13
            have t13 := g12.row.ts k13
            walk_at "rd"
            intro H14 h14 k14
            have t14 : Tst H13 H14 := k14.ts fun x hx => by cases List.mem_singleton.mp hx; exact .inl ⟨_, h13⟩
            refine ⟨_, ts ++ [tp], g13.other k14 h13 e1 e2 e3 e4, (t12.trans t13).trans t14, e1, e2, e3, e4, h14, k14 _ _ (k13 _ _ hs12 (by simpa using nsr)) (by simpa using Ne.symm e3), ?_, by rw [List.length_append, lt]; rfl, fun t ht => ?_⟩
            · rw [List.map_append]
              exact ((hy12.ts t13).ts t14).append (.cons (rp.ts t14) .nil)
            · rcases List.mem_append.mp ht with ht | ht
              · exact ot t ht
              · cases List.mem_singleton.mp ht
                exact op.mono (by decide)
          · obtain ⟨ys, ts, g12, t12, e1, e2, e3, e4, h12, hs12, hy12, lt, ot⟩ := hp
            walk_at "rd"
            intro pt H13 n13 h13 k13
            have t13 := (t11.trans t12).trans (keep_ts0 k13)
            have hab13 := t13.sqT hab
            walk_at "rd"
            intro pa H14 s14 k14 f14
            rw [cutV_to (by omega)] at s14
            walk_at "rd"
            intro pc H15 n15 h15 k15
            walk_at "rd"
            intro pd H16 n16 h16 k16
            have s16 := (keep_ts0 k16).sqT ((keep_ts0 k15).sqT s14)
            have lx2 : (xb.take ((most : Int) - 1).toNat).length ≤ most := by rw [List.length_take]; omega
            refine r_catA s16 (SqT.of h16) (by rw [List.length_singleton]; exact small (by omega)) fun pe H17 s17 k17 f17 => ?_
            have t17 := (((t13.trans (keep_ts0 k14)).trans (keep_ts0 k15)).trans (keep_ts0 k16)).trans (keep_ts0 k17)
            have rpt : Rp K H14 (.ref pt) (.tuple (ts.map Th.enc)) := .tup ((keep_ts0 k14).sqT (SqT.of h13)) ((hy12.ts (keep_ts0 k13)).ts (keep_ts0 k14))
            have rpc : Rp K H15 (.ref pc) (St.enc (.call (i + 1) ts)) := .tup (SqT.of h15) (.cons (.str _) (.cons (by rw [show (((i + 1 : Nat) : Int)) = (i : Int) + 1 by omega]; exact .int _) (.cons (rpt.ts (keep_ts0 k15)) .nil)))
            refine ⟨_, _, pe, _, (b.take ((most : Int) - 1).toNat).app (.cons (.call (i + 1) ts) .nil), rfl, ((((g12.keep0 k13).keep0 k14).keep0 k15).keep0 k16).keep0 k17, s17, ?_, Sts.okD_app (Sts.okD_take _ ob) ?_, ?_, ?_⟩
            · rw [Sts.encs_app, Sts.encs_take]
              exact ((hxb.ts t17).take _).append (.cons ((rpc.ts (keep_ts0 k16)).ts (keep_ts0 k17)) .nil)
            · exact Sts.okD_one ⟨St.ok_call (by omega) hw (by rw [lt, getD_at hw]; exact Int.toNat_natCast _) (by rw [getD_at hi']; exact fun t ht => (ot t ht).mono (by omega)), by unfold St.thin; exact fun t ht => Th.ok_dep (ot t ht)⟩
            · rw [Sts.many_app]
              have := Sts.many_take ((most : Int) - 1).toNat b
              have : (Sts.cons (.call (i + 1) ts) .nil).many = 1 := rfl
              omega
            · rw [Sts.calls_app]
              have := Sts.calls_take ((most : Int) - 1).toNat b
              have : (Sts.cons (.call (i + 1) ts) .nil).calls = 1 := rfl
              omega
        · walk_at "rd"
          exact ⟨_, _, ab, xb, b, rfl, g11, t11.sqT hab, hxb.ts t11, ob, by omega, by omega⟩
      · walk_at "rd"
        exact ⟨_, _, ab, xb, b, rfl, g9, hab, hxb, ob, by omega, by omega⟩
    · rintro σ' H10 ⟨y3, y8, ac, xc, bc, rfl, g10, hac, hxc, oc, mc, cc⟩
      have lxc : xc.length ≤ most + 1 := by
        rw [hxc.length, Sts.encs_len]
        have := Sts.len_le_many bc
        omega
      obtain ⟨vs10, hs10, hl10, hv10⟩ := id g10.shp
      obtain ⟨tc, ec, tc'⟩ := hv10 i _ (List.getElem?_eq_getElem hi')
      have ec' := atI_nat ec
      have hsc := ss _ (List.getElem_mem hi')
      refine cut (fun σ' H' => ∃ (ad : Addr) (xd : List V) (bd : Sts), σ' = [some (.ref r), some (.int most), some (.ref sa), y3, x4, some (.ref l), some (.int i), some (.ref ad), y8] ∧ Lp K H H' r sa l sh xs ws ∧ Tst H10 H' ∧ H' sa = some (.lst vs10) ∧ SqT K H' ad xd ∧ Rps K H' xd bd.encs ∧ Sts.okD sh i 2 bd ∧ bd.many ≤ most + 2 ∧ bd.calls ≤ 4) ?_ ?_
      · refine r_if ?_
        have no : ∀ H', Lp K H H' r sa l sh xs ws → Tst H10 H' → H' sa = some (.lst vs10) → ∃ (ad : Addr) (xd : List V) (bd : Sts), ([some (.ref r), some (.int most), some (.ref sa), y3, x4, some (.ref l), some (.int i), some (.ref ac), y8] : List (Option V)) = [some (.ref r), some (.int most), some (.ref sa), y3, x4, some (.ref l), some (.int i), some (.ref ad), y8] ∧ Lp K H H' r sa l sh xs ws ∧ Tst H10 H' ∧ H' sa = some (.lst vs10) ∧ SqT K H' ad xd ∧ Rps K H' xd bd.encs ∧ Sts.okD sh i 2 bd ∧ bd.many ≤ most + 2 ∧ bd.calls ≤ 4 :=
          fun H' g t e => ⟨ac, xc, bc, rfl, g, t, e, t.sqT hac, hxc.ts t, oc, by omega, cc⟩
        refine r_andI (a := decide (0 < (i : Int))) (fun R hr => by walk_at "rd"; exact hr) (fun c11 => ?_) (fun c11 => by walk_at "rd"; exact no _ g10 Tst.refl hs10)
        refine r_andI (a := decide (0 < (sh[i].1 : Int))) (fun R hr => by walk_at "rd"; exact hr) (fun c12 => ?_) (fun c12 => by walk_at "rd"; exact no _ g10 Tst.refl hs10)
        have c12' := of_decide_eq_true c12
        walk_at "rd"
        refine ask ⟨r, _, rfl, by decide, by decide, g10.row, fun v13 H13 v130 v131 k13 R13 => ?_⟩
        have g13 := g10.drew k13 R13
        have t13 := g10.row.ts k13
        have hs13 := k13 _ _ hs10 (by simpa using nsr)
        walk_at "rd"
        refine ite2 (fun c14 => ?_) (fun c14 => by walk_at "rd"; exact no _ g13 t13 hs13)
        have hac13 := t13.sqT hac
        walk_at "rd"
        intro pa H14 s14 k14 f14
        rw [cutV_to (by omega)] at s14
        walk_at "rd"
        intro p1 H15 n15 h15 k15
        walk_at "rd"
        intro p2 H16 n16 h16 k16
        walk_at "rd"
        intro p3 H17 n17 h17 k17
        walk_at "rd"
        intro p4 H18 n18 h18 k18
        walk_at "rd"
        intro p5 H19 n19 h19 k19
        walk_at "rd"
        intro p6 H20 n20 h20 k20
        have t15 := keep_ts0 k15
        have t16 := keep_ts0 k16
        have t17 := keep_ts0 k17
        have t18 := keep_ts0 k18
        have t19 := keep_ts0 k19
        have t20 := keep_ts0 k20
        have s20 := t20.sqT (t19.sqT (t18.sqT (t17.sqT (t16.sqT (t15.sqT s14)))))
        have lx2 : (xc.take ((most : Int) - 1).toNat).length ≤ most := by rw [List.length_take]; omega
        refine r_catA s20 (SqT.of h20) (by rw [List.length_singleton]; exact small (by omega)) fun pe H21 s21 k21 f21 => ?_
        have t21 := ((((((t13.trans (keep_ts0 k14)).trans t15).trans t16).trans t17).trans t18).trans t19).trans (t20.trans (keep_ts0 k21))
        have r1 : Rp K H15 (.ref p1) (Th.enc (.par 0)) := .tup (SqT.of h15) (.cons (.str _) (.cons (.int _) .nil))
        have r2 : Rp K H16 (.ref p2) (Th.enc (.par 0)) := .tup (SqT.of h16) (.cons (.str _) (.cons (.int _) .nil))
        have r3 : Rp K H17 (.ref p3) (Th.enc (.num 1)) := .tup (SqT.of h17) (.cons (.str _) (.cons (.int _) .nil))
        have r4 : Rp K H18 (.ref p4) (Th.enc (.sum (.par 0) (.num 1))) := .tup (SqT.of h18) (.cons (.str _) (.cons ((r2.ts t17).ts t18) (.cons (r3.ts t18) .nil)))
        have r5 : Rp K H19 (.ref p5) (St.enc (.set (.par 0) (.sum (.par 0) (.num 1)))) := .tup (SqT.of h19) (.cons (.str _) (.cons ((((r1.ts t16).ts t17).ts t18).ts t19) (.cons (r4.ts t19) .nil)))
        refine ⟨pe, _, (bc.take ((most : Int) - 1).toNat).app (.cons (.set (.par 0) (.sum (.par 0) (.num 1))) .nil), rfl, (((((((g13.keep0 k14).keep0 k15).keep0 k16).keep0 k17).keep0 k18).keep0 k19).keep0 k20).keep0 k21, t21, ?_, s21, ?_, Sts.okD_app (Sts.okD_take _ oc) ?_, ?_, ?_⟩
        · exact k21 _ _ (k20 _ _ (k19 _ _ (k18 _ _ (k17 _ _ (k16 _ _ (k15 _ _ (k14 _ _ hs13 (by simp)) (by simp)) (by simp)) (by simp)) (by simp)) (by simp)) (by simp)) (by simp)
        · rw [Sts.encs_app, Sts.encs_take]
          exact ((hxc.ts t21).take _).append (.cons ((r5.ts t20).ts (keep_ts0 k21)) .nil)
        · refine Sts.okD_one ⟨St.ok_set rfl ?_ ?_, by unfold St.thin; trivial⟩
          · rw [getD_at hi']
            exact Th.ok_par (by omega)
          · rw [getD_at hi']
            exact ⟨Th.ok_par (by omega), Th.ok_num (by decide)⟩
        · rw [Sts.many_app]
          have := Sts.many_take ((most : Int) - 1).toNat bc
          have : (Sts.cons (.set (.par 0) (.sum (.par 0) (.num 1))) .nil).many = 1 := rfl
          omega
        · rw [Sts.calls_app]
          have := Sts.calls_take ((most : Int) - 1).toNat bc
          have : (Sts.cons (.set (.par 0) (.sum (.par 0) (.num 1))) .nil).calls = 0 := rfl
          omega
      · rintro σ' H11 ⟨ad, xd, bd, rfl, g11, t11, hs11, had, hxd, od, md, cd⟩
        have gl11 := g11.lst
        have lxs : xs.length ≤ 10 := by
          rw [g11.rps.length, List.length_map]
          omega
        walk_at "rd"
        intro pt H12 n12 h12 k12
        have tc12 := (keep_ts0 k12).sqT (t11.sqT tc')
        refine r_catA tc12 (SqT.of h12) (by simp; decide) fun pw H13 s13 k13 f13 => ?_
        have g13 := (g11.keep0 k12).keep0 k13
        have gl13 := g13.lst
        walk_at "rd"
        intro H14 h14 k14
        have t14 : Tst H13 H14 := k14.ts fun x hx => by cases List.mem_singleton.mp hx; exact .inl ⟨_, gl13⟩
        have rw13 : Rp K H13 (.ref pw) (Wk.enc ⟨sh[i].1, sh[i].2, bd⟩) := .tup s13 (.cons (.int _) (.cons (.int _) (.cons (.tup ((keep_ts0 k13).sqT ((keep_ts0 k12).sqT had)) ((hxd.ts (keep_ts0 k12)).ts (keep_ts0 k13))) .nil)))
        refine ⟨_, _, _, _, _, xs ++ [.ref pw], ws ++ [⟨sh[i].1, sh[i].2, bd⟩], rfl, ⟨g13.row.keep k14 (by simpa using Ne.symm nlr) t14, g13.keep.fresh1 k14 nl0, g13.shp.keep k14 (by simpa using nsl) t14, h14, ?_, ns0, nl0, nsr, nlr, nsl, lf4, ss⟩, by rw [List.length_append, lw]; rfl, ?_, fun j w' e => ?_, fun w' hw' => ?_⟩
        · rw [List.map_append]
          exact (g13.rps.ts t14).append (.cons (rw13.ts t14) .nil)
        · unfold shapes at sw ⊢
          rw [List.map_append, sw, List.take_succ, List.getElem?_eq_getElem hi']
          rfl
        · by_cases hj : j < ws.length
          · rw [List.getElem?_append_left hj] at e
            exact ow j w' e
          · rw [List.getElem?_append_right (by omega)] at e
            have hj2 := (List.getElem?_eq_some_iff.mp e).1
            simp at hj2
            have ej : j = i := by omega
            have ez : j - ws.length = 0 := by omega
            rw [ez] at e
            cases e
            rw [ej]
            exact od
        · rcases List.mem_append.mp hw' with hw' | hw'
          · exact mw w' hw'
          · cases List.mem_singleton.mp hw'
            exact ⟨md, cd⟩
  · obtain ⟨x3, x4, x6, x7, x8, xs, ws, rfl, g7, lw, sw, ow, mw⟩ := hp
    have gl7 := g7.lst
    have lw' : ws.length = sh.length := by rw [lw, hl6]; exact Int.toNat_natCast _
    have esh : shapes ws = sh := by rw [sw, ← lw, lw', List.take_length]
    walk_at "rd"
    intro pt H8 n8 h8 k8
    have inS : ∀ w ∈ ws, (w.params, w.owns) ∈ sh := fun w hw => by
      rw [← esh]
      exact List.mem_map_of_mem hw
    refine q _ ws _ (.tup (SqT.of h8) (g7.rps.ts (keep_ts0 k8))) ⟨⟨by omega, by omega, fun w' e => ?_, fun w' hw => (ss _ (inS w' hw)).1, fun w' hw => Nat.le_trans (ss _ (inS w' hw)).2 (by decide), fun j w' e => by rw [esh]; exact (ow j w' e).1, fun w' hw => (mw w' hw).1, fun w' hw => (mw w' hw).2⟩, fun w' hw => by
      obtain ⟨j, hj⟩ := List.mem_iff_getElem?.mp hw
      exact (ow j w' hj).2, fun w' hw => (ss _ (inS w' hw)).2⟩ (g7.keep.by0 k8) (g7.row.keep0 k8)
    refine s0 (w'.params, w'.owns) ?_
    rw [← esh]
    unfold shapes
    rw [List.getElem?_map, e]
    rfl
end
end
section
section
variable {P : Program} {w : World} {K : PySem.W.Frag} {mg : Str → Option Value} {base : Heap}
noncomputable def spWays (K : PySem.W.Frag) : Sp := fun vs H Q _ => ∃ (r so : Addr) (v : V) (P : List Wk) (opts : List Str), vs = [.ref r, v, .ref so] ∧ Row K H r ∧ Rp K H v (encP P) ∧ P.length ≤ 4 ∧ (∀ w ∈ P, w.params ≤ 3) ∧ H so = some (.lst (opts.map V.str)) ∧ 1 ≤ opts.length ∧ opts.length ≤ 100 ∧ so ≠ r ∧
  ∀ (v : V) (W : List (List Str)) (H' : Hp), Rp K H' v (encW W) → WaysOk P W opts → Keep [r] H H' → Row K H' r → Q v H'
noncomputable abbrev sL_ways : Stmt := top 94
noncomputable abbrev nL_ways : List Str := ["_law_row", "_law_program_here", "_law_some", "_law_found", "_law_params", "_law_owns", "_law_body_here", "_law_k"]
noncomputable abbrev pL_ways : List Str := ["_law_row", "_law_program_here", "_law_some"]
theorem scL_ways : FnScope nL_ways pL_ways (defScope sL_ways) := ⟨rfl, rfl, rfl, by decide +kernel, rfl, by decide +kernel, by decide +kernel⟩
theorem atI_strs {ns : List Str} {v : Int} (h0 : 0 ≤ v) (h1 : v < ns.length) : ∃ z, atI (ns.map V.str) v = some (.str z) ∧ z ∈ ns := by
  obtain ⟨m, rfl⟩ : ∃ m : Nat, v = m := ⟨v.toNat, by omega⟩
  have hm : m < ns.length := by omega
  refine ⟨ns[m], atI_nat ?_, List.getElem_mem hm⟩
  rw [List.getElem?_map, List.getElem?_eq_getElem hm]
  rfl
theorem Rps.strs {H : Hp} : ∀ ss : List Str, Rps K H (ss.map V.str) (ss.map PyData.str)
  | [] => .nil
  | s :: r => .cons (.str s) (Rps.strs r)
theorem okWays (D : DefAt K mg "_law_ways" sL_ways pL_ways) (T : Blt mg) (C_law_taken : Callee P w K mg base "_law_taken" 1 pL_taken (spTaken K)) : Callee P w K mg base "_law_ways" 2 pL_ways (spWays K) := by
  refine D.ok scL_ways (fun vs H Q E h => ?_) (fun f cdv A outer s H vs Q E hr h => ?_)
  · obtain ⟨r, so, v, P, opts, rfl, _⟩ := h
    rfl
  obtain ⟨r, so, v, P, opts, rfl, hR, hP, p4, p3, hso, o1, o2, nso, q⟩ := h
  obtain ⟨ap, xp, rfl, hap, hxp⟩ := hP.tup_inv
  have lxp : xp.length = P.length := by rw [hxp.length, List.length_map]
  refine ⟨_, (pss_cons (ps_set (i := 3) scL_ways.nd rfl (Or.inl rfl) (pe_lst pa_nil))
  (pss_cons (ps_for PassesOwn.never rfl (piTup (K := K) (pv 1)) (pgTup (K := K) (by rfl) (pgs_cons (pg_name (i := 4) scL_ways.nd rfl (Or.inl rfl)) (pgs_cons (pg_name (i := 5) scL_ways.nd rfl (Or.inl rfl)) (pgs_cons (pg_name (i := 6) scL_ways.nd rfl (Or.inl rfl)) pgs_nil))))
   (pss_one (ps_expr (peApp (K := K) (pv 3) (pe_callTy (cTuple (K := K)) (by rfl) T.tuple (by decide +kernel) (pa_cons (pe_lc (own := [("_law_k", 7)]) (g := gName 7) (by rfl) scL_ways.nd (pi_range1 rfl T.range (pa_cons (pv 4) pa_nil)) (blkOk_by (own := [("_law_k", 7)]) (N := nL_ways) (sc := defScope sL_ways) (by decide +kernel)) (fun _ _ _ _ _ => (pg_name (i := 7) scL_ways.nd rfl (Or.inl rfl))) (fun _ _ _ _ _ => pts_nil) (fun _ _ _ _ _ => (pe_ix (ixL (K := K)) (pv 2) (pcall C_law_taken (hr.mono (by first | exact Nat.le_of_ble_eq_true rfl | omega)) rfl (pa_cons (pv 0) (pa_cons (pe_callB (cLen (K := K)) (by rfl) T.len PySem.boot_len (pa_cons (pv 2) pa_nil)) pa_nil))) (fun _ _ => rfl)))) pa_nil))))))
  (pss_one (ps_ret (pe_callTy (cTuple (K := K)) (by rfl) T.tuple (by decide +kernel) (pa_cons (pv 3) pa_nil)))))), ?_⟩
  walk_at "rd"
  intro l H1 n1 h1 k1
  have nlr : l ≠ r := fun z => hR.ne (z ▸ n1)
  have nls : l ≠ so := fun z => by rw [z, hso] at n1; cases n1
  have hap1 := (keep_ts0 k1).sqT hap
  walk_at "rd"
  refine forT (xs := xp) (fun i σ H' => ∃ (x4 x5 x6 x7 : Option V) (xs : List V) (W : List (List Str)), σ = [some (.ref r), some (.ref ap), some (.ref so), some (.ref l), x4, x5, x6, x7] ∧ Row K H' r ∧ Keep [r] H H' ∧ Tst H H' ∧ H' l = some (.lst xs) ∧ H' so = some (.lst (opts.map V.str)) ∧ Rps K H' xs (W.map fun ws => .tuple (ws.map PyData.str)) ∧ W.length = i ∧
    ∀ (i : Nat) (w : Wk) (ws : List Str), P[i]? = some w → W[i]? = some ws → ws.length = w.params ∧ ∀ x ∈ ws, x ∈ opts)
    ⟨none, none, none, none, [], [], rfl, hR.keep0 k1, k1.mono (by simp), keep_ts0 k1, h1, k1 _ _ hso (by simp), .nil, rfl, fun i w ws _ e => by simp at e⟩ (fun i σ H' _ hp => ?_) (fun i x σ H' hx hp => ?_) (fun σ H' hp => ?_)
  · obtain ⟨x4, x5, x6, x7, xs, W, rfl, R2, k2, t2, h2, s2, w2, lw, ow⟩ := hp
    exact t2.sqT hap
  · obtain ⟨x4, x5, x6, x7, xs, W, rfl, R2, k2, t2, h2, s2, w2, lw, ow⟩ := hp
    have hi : i < P.length := by have := (List.getElem?_eq_some_iff.mp hx).1; omega
    obtain ⟨d, ed, rd⟩ := hxp.get' hx
    rw [List.getElem?_map, List.getElem?_eq_getElem hi] at ed
    cases ed
    obtain ⟨aw, xw, rfl, haw, hxw⟩ := rd.tup_inv
    obtain ⟨v1, r1, rfl, g1, gr1⟩ := hxw.inv
    obtain ⟨v2, r2, rfl, g2, gr2⟩ := gr1.inv
    obtain ⟨v3, r3, rfl, g3, gr3⟩ := gr2.inv
    cases gr3.inv0
    cases g1.int_inv
    cases g2.int_inv
    have haw2 := t2.sqT haw
    have lxs : xs.length ≤ 10 := by rw [w2.length, List.length_map]; omega
    have p3i := p3 _ (List.getElem_mem hi)
    walk_at "rd"
    refine lcR (fun E j H3 => ∃ ys : List Str, Row K H3 r ∧ Keep [r] H H3 ∧ Tst H' H3 ∧ H E = none ∧ E ≠ r ∧ E ≠ so ∧ E ≠ l ∧ H3 E = some (.lst (ys.map V.str)) ∧ H3 l = some (.lst xs) ∧ H3 so = some (.lst (opts.map V.str)) ∧ ys.length = j ∧ ∀ x ∈ ys, x ∈ opts)
      (fun E H3 n3 h3 k3 => ?_) (fun E j H3 hj hp => ?_) (fun E H3 hp => ?_)
    · exact ⟨[], R2.keep0 k3, k2.by0 k3, keep_ts0 k3, k2.free (fun x hx => by cases List.mem_singleton.mp hx; exact R2.ne) n3, fun z => R2.ne (z ▸ n3), (fun z => by rw [z, s2] at n3; cases n3), (fun z => by rw [z, h2] at n3; cases n3), h3, k3 _ _ h2 (by simp), k3 _ _ s2 (by simp), rfl, by simp⟩
    · obtain ⟨ys, R3, k3, t3, e1, e2, e3, e4, h3, l3, s3, ly, oy⟩ := hp
      have ly' : (ys.map V.str).length ≤ 10 := by rw [List.length_map]; omega
      walk_at "rd"
      refine ⟨rfl, ?_⟩
      walk_at "rd"
      refine ask ⟨r, _, rfl, by rw [List.length_map]; omega, by rw [List.length_map]; omega, R3, fun v4 H4 v40 v41 k4 R4 => ?_⟩
      rw [List.length_map] at v41
      obtain ⟨z, ez, oz⟩ := atI_strs v40 v41
      have h4 := k4 _ _ h3 (by simpa using e2)
      have l4 := k4 _ _ l3 (by simpa using nlr)
      have s4 := k4 _ _ s3 (by simpa using nso)
      walk_at "rd"
      intro H5 h5 k5
      have t5 : Tst H4 H5 := k5.ts fun x hx => by cases List.mem_singleton.mp hx; exact .inl ⟨_, h4⟩
      refine ⟨ys ++ [z], R4.keep k5 (by simpa using Ne.symm e2) t5, (k3.trans k4).fresh1 k5 e1, (t3.trans (R3.ts k4)).trans t5, e1, e2, e3, e4, by rw [List.map_append]; exact h5, k5 _ _ l4 (by simpa using Ne.symm e4), k5 _ _ s4 (by simpa using Ne.symm e3), by rw [List.length_append, ly]; rfl, fun x hx => ?_⟩
      rcases List.mem_append.mp hx with hx | hx
      · exact oy x hx
      · cases List.mem_singleton.mp hx
        exact oz
    · obtain ⟨ys, R3, k3, t3, e1, e2, e3, e4, h3, l3, s3, ly, oy⟩ := hp
      walk_at "rd"
      intro pt H4 n4 h4 k4
      have l4 := k4 _ _ l3 (by simp)
      walk_at "rd"
      intro H5 h5 k5
      have t5 : Tst H4 H5 := k5.ts fun x hx => by cases List.mem_singleton.mp hx; exact .inl ⟨_, l4⟩
      have t35 := (keep_ts0 k4).trans t5
      have nl0 : H l = none := n1
      refine ⟨_, _, _, _, xs ++ [.ref pt], W ++ [ys], rfl, (R3.keep0 k4).keep k5 (by simpa using Ne.symm nlr) t5, (k3.by0 k4).fresh1 k5 nl0, (t2.trans t3).trans t35, h5, k5 _ _ (k4 _ _ s3 (by simp)) (by simpa using Ne.symm nls), ?_, by rw [List.length_append, lw]; rfl, fun j w ws e1 e2 => ?_⟩
      · rw [List.map_append]
        exact (w2.ts (t3.trans t35)).append (.cons (.tup (t5.sqT (SqT.of h4)) (Rps.strs ys)) .nil)
      · by_cases hj : j < W.length
        · rw [List.getElem?_append_left hj] at e2
          exact ow j w ws e1 e2
        · rw [List.getElem?_append_right (by omega)] at e2
          have hj2 := (List.getElem?_eq_some_iff.mp e2).1
          simp at hj2
          have ej : j = i := by omega
          have ez : j - W.length = 0 := by omega
          rw [ez] at e2
          cases e2
          rw [ej, List.getElem?_eq_getElem hi] at e1
          cases e1
          exact ⟨by rw [ly]; exact Int.toNat_natCast _, oy⟩
  · obtain ⟨x4, x5, x6, x7, xs, W, rfl, R2, k2, t2, h2, s2, w2, lw, ow⟩ := hp
    walk_at "rd"
    intro pt H4 n4 h4 k4
    exact q _ W _ (.tup (SqT.of h4) (w2.ts (keep_ts0 k4))) ⟨by omega, ow⟩ (k2.by0 k4) (R2.keep0 k4)
end
end
section
section
variable {P : Program} {w : World} {K : PySem.W.Frag} {mg : Str → Option Value} {base : Heap}
section
variable {H H1 : Hp}
mutual
theorem Dp.keep0 (k : Keep [] H H1) : ∀ {d : PyData} {v : V}, Dp K H v d → Dp K H1 v d
  | .none, _, h => by cases h; exact .non
  | .bool b, _, h => by cases h; exact .bl b
  | .int i, _, h => by cases h; exact .int i
  | .str x, _, h => by cases h; exact .str x
  | .tuple ds, _, h => by
    cases h with
    | tup hs ha => exact .tup ((keep_ts0 k).sqT hs) (DpAll.keep0 k ha)
  | .list ds, _, h => by
    cases h with
    | lst hs ha => exact .lst (k.sqL (by simp) hs) (DpAll.keep0 k ha)
  | .dict _, _, h => by cases h
theorem DpAll.keep0 (k : Keep [] H H1) : ∀ {ds : List PyData} {vs : List V}, DpAll K H vs ds → DpAll K H1 vs ds
  | [], _, h => by cases h; exact .nil
  | d :: ds, _, h => by
    cases h with
    | cons h1 h2 => exact .cons (Dp.keep0 k h1) (DpAll.keep0 k h2)
end
theorem DpAll.length : ∀ {ds : List PyData} {vs : List V}, DpAll K H vs ds → vs.length = ds.length
  | [], _, h => by cases h; rfl
  | d :: ds, _, h => by
    cases h with
    | cons h1 h2 => rw [List.length_cons, List.length_cons, DpAll.length h2]
theorem DpAll.get : ∀ {ds : List PyData} {vs : List V} {i : Nat} {d : PyData}, DpAll K H vs ds → ds[i]? = some d → ∃ v, vs[i]? = some v ∧ Dp K H v d
  | [], _, _, _, _, e => by simp at e
  | d :: ds, _, 0, _, h, e => by
    cases h with
    | cons h1 h2 =>
      simp at e
      subst e
      exact ⟨_, rfl, h1⟩
  | d :: ds, _, i + 1, d', h, e => by
    cases h with
    | cons h1 h2 =>
      obtain ⟨v, q1, q2⟩ := DpAll.get (i := i) h2 (by simpa using e)
      exact ⟨v, by simpa using q1, q2⟩
end
noncomputable def plain : Nat → PyData → Prop
  | 0, _ => False
  | n + 1, .list ds => ds.length ≤ 90000 ∧ ∀ e ∈ ds, plain n e
  | n + 1, .tuple ds => ds.length ≤ 90000 ∧ ∀ e ∈ ds, plain n e
  | _ + 1, .dict _ => False
  | _ + 1, _ => True
end
end
section
section
variable {K : PySem.W.Frag}
theorem free0 {H H1 : Hp} {p : Addr} (k : Keep [] H H1) (h : H1 p = none) : H p = none := k.free (fun _ z => nomatch z) h
theorem at0 {x : V} {r : List V} : atI (x :: r) 0 = some x := atI_nat (xs := x :: r) (j := 0) rfl
theorem at1 {x y : V} {r : List V} : atI (x :: y :: r) 1 = some y := atI_nat (xs := x :: y :: r) (j := 1) rfl
theorem at2 {x y z : V} {r : List V} : atI (x :: y :: z :: r) 2 = some z := atI_nat (xs := x :: y :: z :: r) (j := 2) rfl
theorem at3 {x y z u : V} {r : List V} : atI (x :: y :: z :: u :: r) 3 = some u := atI_nat (xs := x :: y :: z :: u :: r) (j := 3) rfl
end
section
variable {P : Program} {w : World} {K : PySem.W.Frag} {mg : Str → Option Value} {base : Heap}
/-- the program's own numbers -/
structure Nrs (tk : Nat → Tok) (mg : Str → Option Value) : Prop extends Blt mg where
  NUMBERS : mg "NUMBERS" = some (.int 3 (tk 0))
  MOST_WORKS : mg "MOST_WORKS" = some (.int 4 (tk 1))
  MOST_PARAMS : mg "MOST_PARAMS" = some (.int 3 (tk 2))
  MOST_OWNS : mg "MOST_OWNS" = some (.int 99 (tk 3))
  MOST_STEPS : mg "MOST_STEPS" = some (.int 100 (tk 4))
  MOST_OTHERS : mg "MOST_OTHERS" = some (.int 4 (tk 5))
  COMMON_CELLS : mg "COMMON_CELLS" = some (.int 3 (tk 6))
noncomputable def belowD (k : Int) : PyData → Bool
  | .int n => decide (0 ≤ n) && decide (n < k)
  | _ => false
noncomputable def spIsBelow (K : PySem.W.Frag) : Sp := fun vs H Q _ => ∃ (v : V) (d : PyData) (k : Int), vs = [v, .int k] ∧ Dp K H v d ∧ Q (.bl (belowD k d)) H
noncomputable def spIsNumber (K : PySem.W.Frag) : Sp := fun vs H Q _ => ∃ (v : V) (d : PyData), vs = [v] ∧ Dp K H v d ∧ Q (.bl (belowD 3 d)) H
noncomputable abbrev sis_below : Stmt := top 15
noncomputable abbrev nis_below : List Str := ["value", "limit"]
noncomputable abbrev pis_below : List Str := ["value", "limit"]
theorem scis_below : FnScope nis_below pis_below (defScope sis_below) := ⟨rfl, rfl, rfl, by decide +kernel, rfl, by decide +kernel, by decide +kernel⟩
noncomputable abbrev sis_number : Stmt := top 16
noncomputable abbrev nis_number : List Str := ["value"]
noncomputable abbrev pis_number : List Str := ["value"]
theorem scis_number : FnScope nis_number pis_number (defScope sis_number) := ⟨rfl, rfl, rfl, by decide +kernel, rfl, by decide +kernel, by decide +kernel⟩
noncomputable abbrev sis_shaped : Stmt := top 17
noncomputable abbrev nis_shaped : List Str := ["value", "word", "size"]
noncomputable abbrev pis_shaped : List Str := ["value", "word", "size"]
theorem scis_shaped : FnScope nis_shaped pis_shaped (defScope sis_shaped) := ⟨rfl, rfl, rfl, by decide +kernel, rfl, by decide +kernel, by decide +kernel⟩
theorem cases_b {C : Prop} (b : Bool) (h : b = true → C) (h' : b = false → C) : C := by
  cases b with
  | true => exact h rfl
  | false => exact h' rfl
theorem okIsBelow (D : DefAt K mg "is_below" sis_below pis_below) (T : Blt mg) : Callee P w K mg base "is_below" 1 pis_below (spIsBelow K) := by
  refine D.ok scis_below (fun vs H Q E h => ?_) (fun f cdv A outer s H vs Q E hr h => ?_)
  · obtain ⟨v, d, k, rfl, _⟩ := h
    rfl
  obtain ⟨v, d, k, rfl, hd, q⟩ := h
  refine ⟨_, (pss_cons (ps_if (PW.pt (pw_or (pt_val (pe_callB (cIsi (K := K)) (by rfl) T.isinstance (by decide +kernel) (pa_cons (pv 0) (pa_cons (pe_bltn rfl T.bool (by decide +kernel) (v := .ty "bool") rfl) pa_nil)))) (pw_or1 (pt_not (pt_val (pe_callB (cIsi (K := K)) (by rfl) T.isinstance (by decide +kernel) (pa_cons (pv 0) (pa_cons (pe_bltn rfl T.int (by decide +kernel) (v := .ty "int") rfl) pa_nil)))))))) (pss_one (ps_ret pe_bl)) pss_nil)
  (pss_one (ps_ret (pe_chain op_le op_lt pe_int (pv 0) (pv 1))))), ?_⟩
  walk_at "rd"
  cases d with
  | none =>
    cases hd
    refine r_orP (a := kb "NoneType" "bool") (b := !kb "NoneType" "int") (fun R hr => by walk_at "rd"; exact hr) (fun _ R hr => by walk_at "rd"; exact hr) ?_
    rw [if_pos (by decide +kernel)]
    walk_at "rd"
    exact q
  | bool b =>
    cases hd
    refine r_orP (a := kb "bool" "bool") (b := !kb "bool" "int") (fun R hr => by walk_at "rd"; exact hr) (fun _ R hr => by walk_at "rd"; exact hr) ?_
    rw [if_pos (by decide +kernel)]
    walk_at "rd"
    exact q
  | str x =>
    cases hd
    refine r_orP (a := kb "str" "bool") (b := !kb "str" "int") (fun R hr => by walk_at "rd"; exact hr) (fun _ R hr => by walk_at "rd"; exact hr) ?_
    rw [if_pos (by decide +kernel)]
    walk_at "rd"
    exact q
  | int n =>
    cases hd
    refine r_orP (a := kb "int" "bool") (b := !kb "int" "int") (fun R hr => by walk_at "rd"; exact hr) (fun _ R hr => by walk_at "rd"; exact hr) ?_
    rw [if_neg (by decide +kernel)]
    walk_at "rd"
    refine cases_b (decide (0 ≤ n)) (fun c => ?_) (fun c => ?_)
    · rw [if_pos c]
      walk_at "rd"
      have e : belowD k (.int n) = (decide (0 ≤ n) && decide (n < k)) := rfl
      rw [e, c, Bool.true_and] at q
      exact q
    · rw [if_neg (by rw [c]; exact Bool.false_ne_true)]
      have e : belowD k (.int n) = (decide (0 ≤ n) && decide (n < k)) := rfl
      rw [e, c, Bool.false_and] at q
      exact q
  | tuple ds =>
    cases hd with
    | tup hs ha =>
      refine r_orP (a := kb "tuple" "bool") (b := !kb "tuple" "int") (fun R hr => by walk_at "rd"; exact hr) (fun _ R hr => by walk_at "rd"; exact hr) ?_
      rw [if_pos (by decide +kernel)]
      walk_at "rd"
      exact q
  | list ds =>
    cases hd with
    | lst hs ha =>
      refine r_orP (a := kb "list" "bool") (b := !kb "list" "int") (fun R hr => by walk_at "rd"; exact hr) (fun _ R hr => by walk_at "rd"; exact hr) ?_
      rw [if_pos (by decide +kernel)]
      walk_at "rd"
      exact q
  | dict _ => cases hd
theorem okIsNumber {tk : Nat → Tok} (D : DefAt K mg "is_number" sis_number pis_number) (T : Nrs tk mg) (C_is_below : Callee P w K mg base "is_below" 1 pis_below (spIsBelow K)) :
    Callee P w K mg base "is_number" 2 pis_number (spIsNumber K) := by
  refine D.ok scis_number (fun vs H Q E h => ?_) (fun f cdv A outer s H vs Q E hr h => ?_)
  · obtain ⟨v, d, rfl, _⟩ := h
    rfl
  obtain ⟨v, d, rfl, hd, q⟩ := h
  refine ⟨_, (pss_one (ps_ret (pcall C_is_below (hr.mono (by first | exact Nat.le_of_ble_eq_true rfl | omega)) rfl (pa_cons (pv 0) (pa_cons (pe_glob (v := .int 3) rfl T.NUMBERS ⟨_, rfl⟩) pa_nil))))), ?_⟩
  walk_at "rd"
  refine ask ⟨v, d, 3, rfl, hd, ?_⟩
  exact q
noncomputable def shapedD (wd : PyData) (k : Int) : PyData → Bool
  | .tuple ds => decide ((ds.length : Int) = k) && ((ds.head?.map fun d => PyData.eqv d wd).getD false)
  | _ => false
noncomputable def headOk : PyData → Prop
  | .tuple (d :: _) => SeqAt.shaped d = true ∨ ∃ ds, d = .tuple ds
  | _ => True
noncomputable def spIsShaped (K : PySem.W.Frag) : Sp := fun vs H Q _ => ∃ (v : V) (d : PyData) (x : Str) (k : Int), vs = [v, .str x, .int k] ∧ Dp K H v d ∧ headOk d ∧ SeqAt.shaped (.str x) = true ∧ 0 < k ∧ Q (.bl (shapedD (.str x) k d)) H
theorem okIsShaped (D : DefAt K mg "is_shaped" sis_shaped pis_shaped) (T : Blt mg) : Callee P w K mg base "is_shaped" 1 pis_shaped (spIsShaped K) := by
  refine D.ok scis_shaped (fun vs H Q E h => ?_) (fun f cdv A outer s H vs Q E hr h => ?_)
  · obtain ⟨v, d, x, k, rfl, _⟩ := h
    rfl
  obtain ⟨v, d, x, k, rfl, hd, ho, hw, k0, q⟩ := h
  refine ⟨_, (pss_one (ps_ret (pe_and (pe_callB (cIsi (K := K)) (by rfl) T.isinstance (by decide +kernel) (pa_cons (pv 0) (pa_cons (pe_bltn rfl T.tuple (by decide +kernel) (v := .ty "tuple") rfl) pa_nil))) (pe_and (pe_cmpR op_eq (pe_callB (cLen (K := K)) (by rfl) T.len PySem.boot_len (pa_cons (pv 0) pa_nil)) (pv 2) (nomark _)) (pe_one (pe_cmpR (opEqS (K := K) hr.units) (pe_ix (ixT (K := K)) (pv 0) pe_int (fun _ _ => rfl)) (pv 1) (nomark _))))))), ?_⟩
  walk_at "rd"
  cases d with
  | none =>
    cases hd
    walk_at "rd"
    exact q
  | bool b =>
    cases hd
    walk_at "rd"
    exact q
  | int n =>
    cases hd
    walk_at "rd"
    exact q
  | str y =>
    cases hd
    walk_at "rd"
    exact q
  | list ds =>
    cases hd with
    | lst hs ha =>
      walk_at "rd"
      exact q
  | tuple ds =>
    cases hd with
    | @tup p xs _ hs ha =>
      have len := DpAll.length ha
      walk_at "rd"
      by_cases c : (xs.length : Int) = k
      · rw [if_pos (decide_eq_true (congrArg V.int c))]
        cases ds with
        | nil =>
          rw [len] at c
          exact absurd c (by simp; omega)
        | cons d0 ds =>
          cases ha with
          | @cons v0 vs _ _ h0 h1 =>
            have e0 : atI (v0 :: vs) 0 = some v0 := atI_nat (xs := v0 :: vs) (j := 0) rfl
            walk_at "rd"
            have e : shapedD (.str x) k (.tuple (d0 :: ds)) = PyData.eqv d0 (.str x) := by
              rw [len] at c
              show (decide (((d0 :: ds).length : Int) = k) && _) = _
              rw [decide_eq_true c]
              rfl
            rw [e] at q
            rcases ho with ho | ⟨es, rfl⟩
            · exact .inl ⟨d0, .str x, h0, .str x, ho, hw, q⟩
            · cases h0 with
              | tup g0 g1 => exact .inr ⟨_, _, x, rfl, rfl, g0, q⟩
      · rw [if_neg (by
          rw [decide_eq_false (fun z => c (V.int.inj z))]
          exact Bool.false_ne_true)]
        have e : shapedD (.str x) k (.tuple ds) = false := by
          rw [len] at c
          show (decide ((ds.length : Int) = k) && _) = _
          rw [decide_eq_false c]
          rfl
        rw [e] at q
        exact q
  | dict _ => cases hd
end
end
section
section
variable {P : Program} {w : World} {K : PySem.W.Frag} {mg : Str → Option Value} {base : Heap}
noncomputable def item1 : PyData → PyData
  | .tuple (_ :: d :: _) => d
  | _ => .none
theorem shaped2 {H : Hp} {v : V} {d wd : PyData} (hd : Dp K H v d) (e : shapedD wd 2 d = true) : ∃ (p : Addr) (v0 v1 : V), v = .ref p ∧ SqT K H p [v0, v1] ∧ atI [v0, v1] 1 = some v1 ∧ Dp K H v1 (item1 d) := by
  cases d with
  | tuple ds =>
    have e1 : (decide ((ds.length : Int) = 2) && ((ds.head?.map fun d => PyData.eqv d wd).getD false)) = true := e
    have e2 : (ds.length : Int) = 2 := of_decide_eq_true (Bool.and_eq_true_iff.mp e1).1
    cases hd with
    | @tup p xs _ hs ha =>
      cases ha with
      | nil => cases e2
      | @cons v0 vs _ _ h0 h1 =>
        cases h1 with
        | nil => cases e2
        | @cons v1 vs1 _ _ h1 h2 =>
          cases h2 with
          | nil => exact ⟨p, v0, v1, rfl, hs, atI_nat (xs := [v0, v1]) (j := 1) rfl, h1⟩
          | cons h2 h3 =>
            simp at e2
            omega
  | _ => cases e
noncomputable def plainD (ps os : Int) (d : PyData) : Bool :=
  if shapedD (.str "num") 2 d then belowD 3 (item1 d) else if shapedD (.str "own") 2 d then belowD os (item1 d) else shapedD (.str "par") 2 d && belowD ps (item1 d)
noncomputable def spIsPlain (K : PySem.W.Frag) : Sp := fun vs H Q _ => ∃ (wp : Addr) (v b : V) (d : PyData) (ps os : Int), vs = [.ref wp, v] ∧ SqT K H wp [.int ps, .int os, b] ∧ Dp K H v d ∧ headOk d ∧ Q (.bl (plainD ps os d)) H
noncomputable abbrev sis_plain : Stmt := top 25
noncomputable abbrev nis_plain : List Str := ["work", "thing"]
noncomputable abbrev pis_plain : List Str := ["work", "thing"]
theorem scis_plain : FnScope nis_plain pis_plain (defScope sis_plain) := ⟨rfl, rfl, rfl, by decide +kernel, rfl, by decide +kernel, by decide +kernel⟩
theorem okIsPlain (D : DefAt K mg "is_plain" sis_plain pis_plain) (T : Blt mg) (C_is_below : Callee P w K mg base "is_below" 1 pis_below (spIsBelow K))
    (C_is_number : Callee P w K mg base "is_number" 2 pis_number (spIsNumber K)) (C_is_shaped : Callee P w K mg base "is_shaped" 1 pis_shaped (spIsShaped K)) :
    Callee P w K mg base "is_plain" 3 pis_plain (spIsPlain K) := by
  refine D.ok scis_plain (fun vs H Q E h => ?_) (fun f cdv A outer s H vs Q E hr h => ?_)
  · obtain ⟨wp, v, b, d, ps, os, rfl, _⟩ := h
    rfl
  obtain ⟨wp, v, b, d, ps, os, rfl, hW, hd, ho, q⟩ := h
  have a0 : atI [.int ps, .int os, b] 0 = some (.int ps) := atI_nat (xs := [.int ps, .int os, b]) (j := 0) rfl
  have a1 : atI [.int ps, .int os, b] 1 = some (.int os) := atI_nat (xs := [.int ps, .int os, b]) (j := 1) rfl
  refine ⟨_, (pss_cons (ps_if (pt_val (pcall C_is_shaped (hr.mono (by first | exact Nat.le_of_ble_eq_true rfl | omega)) rfl (pa_cons (pv 1) (pa_cons pe_str (pa_cons pe_int pa_nil))))) (pss_one (ps_ret (pcall C_is_number (hr.mono (by first | exact Nat.le_of_ble_eq_true rfl | omega)) rfl (pa_cons (pe_ix (ixT (K := K)) (pv 1) pe_int (fun _ _ => rfl)) pa_nil)))) pss_nil)
  (pss_cons (ps_if (pt_val (pcall C_is_shaped (hr.mono (by first | exact Nat.le_of_ble_eq_true rfl | omega)) rfl (pa_cons (pv 1) (pa_cons pe_str (pa_cons pe_int pa_nil))))) (pss_one (ps_ret (pcall C_is_below (hr.mono (by first | exact Nat.le_of_ble_eq_true rfl | omega)) rfl (pa_cons (pe_ix (ixT (K := K)) (pv 1) pe_int (fun _ _ => rfl)) (pa_cons (pe_ix (ixT (K := K)) (pv 0) pe_int (fun _ _ => rfl)) pa_nil))))) pss_nil)
  (pss_one (ps_ret (pe_and (pcall C_is_shaped (hr.mono (by first | exact Nat.le_of_ble_eq_true rfl | omega)) rfl (pa_cons (pv 1) (pa_cons pe_str (pa_cons pe_int pa_nil)))) (pe_one (pcall C_is_below (hr.mono (by first | exact Nat.le_of_ble_eq_true rfl | omega)) rfl (pa_cons (pe_ix (ixT (K := K)) (pv 1) pe_int (fun _ _ => rfl)) (pa_cons (pe_ix (ixT (K := K)) (pv 0) pe_int (fun _ _ => rfl)) pa_nil))))))))), ?_⟩
  walk_at "rd"
  refine ask ⟨v, d, "num", 2, rfl, hd, ho, by decide +kernel, by decide, ?_⟩
  walk_at "rd"
  refine ite2 (fun c => ?_) (fun c => ?_)
  · obtain ⟨p, v0, v1, rfl, hT, at1, h1⟩ := shaped2 hd c
    walk_at "rd"
    refine ask ⟨v1, item1 d, rfl, h1, ?_⟩
    have e : plainD ps os d = belowD 3 (item1 d) := if_pos c
    rw [e] at q
    walk_at "rd"
    exact q
  have e : plainD ps os d = if shapedD (.str "own") 2 d then belowD os (item1 d) else shapedD (.str "par") 2 d && belowD ps (item1 d) := if_neg c
  rw [e] at q
  walk_at "rd"
  refine ask ⟨v, d, "own", 2, rfl, hd, ho, by decide +kernel, by decide, ?_⟩
  walk_at "rd"
  refine ite2 (fun c => ?_) (fun c => ?_)
  · obtain ⟨p, v0, v1, rfl, hT, at1, h1⟩ := shaped2 hd c
    walk_at "rd"
    refine ask ⟨v1, item1 d, os, rfl, h1, ?_⟩
    rw [if_pos c] at q
    walk_at "rd"
    exact q
  rw [if_neg c] at q
  walk_at "rd"
  refine ask ⟨v, d, "par", 2, rfl, hd, ho, by decide +kernel, by decide, ?_⟩
  walk_at "rd"
  refine ite2 (fun c => ?_) (fun c => ?_)
  · obtain ⟨p, v0, v1, rfl, hT, at1, h1⟩ := shaped2 hd c
    rw [c, Bool.true_and] at q
    walk_at "rd"
    refine ask ⟨v1, item1 d, ps, rfl, h1, ?_⟩
    walk_at "rd"
    exact q
  · rw [Bool.eq_false_iff.mpr c, Bool.false_and] at q
    walk_at "rd"
    exact q
end
end
section
section
variable {P : Program} {w : World} {K : PySem.W.Frag} {mg : Str → Option Value} {base : Heap}
section
variable {H : Hp}
mutual
theorem Rp.dp : ∀ {d : PyData} {v : V}, Rp K H v d → Dp K H v d
  | .none, _, h => by cases h; exact .non
  | .bool b, _, h => by cases h; exact .bl b
  | .int i, _, h => by cases h; exact .int i
  | .str x, _, h => by cases h; exact .str x
  | .tuple ds, _, h => by
    cases h with
    | tup hs ha => exact .tup hs (Rps.dp ha)
  | .list _, _, h => by cases h
  | .dict _, _, h => by cases h
theorem Rps.dp : ∀ {ds : List PyData} {vs : List V}, Rps K H vs ds → DpAll K H vs ds
  | [], _, h => by cases h; exact .nil
  | d :: ds, _, h => by
    cases h with
    | cons h1 h2 => exact .cons (Rp.dp h1) (Rps.dp h2)
end
end
noncomputable def Th.size : Th → Int
  | .sum _ _ => 3
  | _ => 2
theorem shapedD_str {y x : Str} {ds : List PyData} {k : Int} : shapedD (.str x) k (.tuple (.str y :: ds)) = (decide (((PyData.str y :: ds).length : Int) = k) && (y == x)) := rfl
theorem Th.shaped {x : Str} {k : Int} : ∀ t : Th, shapedD (.str x) k t.enc = (decide (t.size = k) && (t.word == x))
  | .num _ => shapedD_str
  | .sum _ _ => shapedD_str
  | .cell _ => shapedD_str
  | .own _ => shapedD_str
  | .par _ => shapedD_str
theorem Th.headOk : ∀ t : Th, headOk t.enc
  | .num _ => .inl (by decide +kernel : SeqAt.shaped (.str "num") = true)
  | .sum _ _ => .inl (by decide +kernel : SeqAt.shaped (.str "sum") = true)
  | .cell _ => .inl (by decide +kernel : SeqAt.shaped (.str "cell") = true)
  | .own _ => .inl (by decide +kernel : SeqAt.shaped (.str "own") = true)
  | .par _ => .inl (by decide +kernel : SeqAt.shaped (.str "par") = true)
noncomputable abbrev sneed_thing : Stmt := top 24
noncomputable abbrev nneed_thing : List Str := ["work", "thing", "others"]
noncomputable abbrev pneed_thing : List Str := ["work", "thing", "others"]
theorem scneed_thing : FnScope nneed_thing pneed_thing (defScope sneed_thing) := ⟨rfl, rfl, rfl, by decide +kernel, rfl, by decide +kernel, by decide +kernel⟩
end
end
section
section
variable {P : Program} {w : World} {K : PySem.W.Frag} {mg : Str → Option Value} {base : Heap}
/-- the program's own numbers and tuples -/
structure Cst (K : PySem.W.Frag) (tk : Nat → Tok) (aP aW : Addr) (mg : Str → Option Value) : Prop extends Nrs tk mg where
  PLACES : mg "PLACES" = some (.ref aP)
  WAYS : mg "WAYS" = some (.ref aW)
  sqP : SqT K (fun _ => none) aP [.str "cell", .str "own", .str "par"]
  sqW : SqT K (fun _ => none) aW [.str "copy", .str "place", .str "back", .str "want"]
theorem sqT_of_none {a : Addr} {xs : List V} {H : Hp} (h : SqT K (fun _ => none) a xs) : SqT K H a xs := by
  rcases h with (h | ⟨o, h⟩) | h
  · cases h
  · cases h
  · exact .inr h
noncomputable abbrev sneed_place : Stmt := top 23
noncomputable abbrev nneed_place : List Str := ["work", "place"]
noncomputable abbrev pneed_place : List Str := ["work", "place"]
theorem scneed_place : FnScope nneed_place pneed_place (defScope sneed_place) := ⟨rfl, rfl, rfl, by decide +kernel, rfl, by decide +kernel, by decide +kernel⟩
noncomputable abbrev sneed_call : Stmt := top 22
noncomputable abbrev nneed_call : List Str := ["program", "at", "called", "things", "thing"]
noncomputable abbrev pneed_call : List Str := ["program", "at", "called", "things"]
theorem scneed_call : FnScope nneed_call pneed_call (defScope sneed_call) := ⟨rfl, rfl, rfl, by decide +kernel, rfl, by decide +kernel, by decide +kernel⟩
theorem encP_at {H : Hp} {v : V} {P : List Wk} (h : Rp K H v (encP P)) : ∃ a xs, v = .ref a ∧ SqT K H a xs ∧ xs.length = P.length ∧ ∀ (i : Nat) (wk : Wk), P[i]? = some wk → ∃ wp b, atI xs (i : Int) = some (.ref wp) ∧ SqT K H wp [.int (wk.params : Int), .int (wk.owns : Int), b] ∧ Rp K H b (.tuple wk.body.encs) := by
  obtain ⟨a, xs, rfl, hT, hx⟩ := h.tup_inv
  refine ⟨a, xs, rfl, hT, hx.length.trans (List.length_map _), fun i wk e => ?_⟩
  obtain ⟨u, eu, hu⟩ := hx.get (i := i) (d := wk.enc) (by rw [List.getElem?_map, e]; rfl)
  obtain ⟨wp, ys, rfl, hW, hy⟩ := Rp.tup_inv hu
  obtain ⟨v0, r0, rfl, g0, gr⟩ := hy.inv
  obtain ⟨v1, r1, rfl, g1, gr1⟩ := gr.inv
  obtain ⟨v2, r2, rfl, g2, gr2⟩ := gr1.inv
  cases gr2.inv0
  cases g0.int_inv
  cases g1.int_inv
  exact ⟨wp, v2, atI_nat eu, hW, g2⟩
end
end
section
section
variable {P : Program} {w : World} {K : PySem.W.Frag} {mg : Str → Option Value} {base : Heap}
theorem St.headOk : ∀ s : St, headOk s.enc
  | .set _ _ => .inl (by decide +kernel : SeqAt.shaped (.str "set") = true)
  | .say _ => .inl (by decide +kernel : SeqAt.shaped (.str "say") = true)
  | .ite _ _ _ => .inl (by decide +kernel : SeqAt.shaped (.str "if") = true)
  | .call _ _ => .inl (by decide +kernel : SeqAt.shaped (.str "call") = true)
noncomputable abbrev sneed_step : Stmt := top 21
noncomputable abbrev nneed_step : List Str := ["program", "at", "step", "others", "count", "work"]
noncomputable abbrev pneed_step : List Str := ["program", "at", "step", "others", "count"]
theorem scneed_step : FnScope nneed_step pneed_step (defScope sneed_step) := ⟨rfl, rfl, rfl, by decide +kernel, rfl, by decide +kernel, by decide +kernel⟩
noncomputable abbrev sneed_body : Stmt := top 20
noncomputable abbrev nneed_body : List Str := ["program", "at", "body", "others", "count", "step"]
noncomputable abbrev pneed_body : List Str := ["program", "at", "body", "others", "count"]
theorem scneed_body : FnScope nneed_body pneed_body (defScope sneed_body) := ⟨rfl, rfl, rfl, by decide +kernel, rfl, by decide +kernel, by decide +kernel⟩
end
end
section
section
variable {P : Program} {w : World} {K : PySem.W.Frag} {mg : Str → Option Value} {base : Heap}
theorem below_int {k m : Int} (h : 0 ≤ k) (g : k < m) : belowD m (.int k) = true :=
  (show (decide (0 ≤ k) && decide (k < m)) = true from Bool.and_eq_true_iff.mpr ⟨decide_eq_true h, decide_eq_true g⟩)
noncomputable abbrev sneed_head : Stmt := top 19
noncomputable abbrev nneed_head : List Str := ["at", "work", "most"]
noncomputable abbrev pneed_head : List Str := ["at", "work"]
theorem scneed_head : FnScope nneed_head pneed_head (defScope sneed_head) := ⟨rfl, rfl, rfl, by decide +kernel, rfl, by decide +kernel, by decide +kernel⟩
end
end
local macro_rules | `(tactic| walk_at "lk") => `(tactic| first | (with_reducible exact cell_number) | (with_reducible exact cell_loans) | (with_reducible exact frame_owns) | (with_reducible exact frame_handed) | (with_reducible exact frame_roads) | (with_reducible exact want_thing) | (with_reducible exact want_frame) | (with_reducible exact run_program) | (with_reducible exact run_ways) | (with_reducible exact run_commons) | (with_reducible exact run_said) | (with_reducible exact run_lent) | (with_reducible exact run_mixed))
section
section
variable {P : Program} {w : World} {K : PySem.W.Frag} {mg : Str → Option Value} {base : Heap}
noncomputable abbrev sneed_program : Stmt := top 18
noncomputable abbrev nneed_program : List Str := ["program", "at", "work"]
noncomputable abbrev pneed_program : List Str := ["program"]
theorem scneed_program : FnScope nneed_program pneed_program (defScope sneed_program) := ⟨rfl, rfl, rfl, by decide +kernel, rfl, by decide +kernel, by decide +kernel⟩
end
end
section
section
variable {P : Program} {w : World} {K : PySem.W.Frag} {mg : Str → Option Value} {base : Heap}
noncomputable def itemD (d : PyData) (k : Nat) : PyData := match d with
  | .tuple ds => ds.getD k .none
  | _ => .none
mutual
noncomputable def Hh : PyData → Prop
  | .tuple ds => headOk (.tuple ds) ∧ Hhs ds
  | _ => True
noncomputable def Hhs : List PyData → Prop
  | [] => True
  | d :: ds => Hh d ∧ Hhs ds
end
theorem Hhs.mem : ∀ {ds : List PyData} {d : PyData}, Hhs ds → d ∈ ds → Hh d
  | d :: ds, x, h, m => by
    unfold Hhs at h
    rcases List.mem_cons.mp m with rfl | m
    · exact h.1
    · exact Hhs.mem h.2 m
theorem Hh.head {d : PyData} (h : Hh d) : headOk d := by
  cases d with
  | tuple ds => unfold Hh at h; exact h.1
  | _ => trivial
theorem Hh.items {ds : List PyData} (h : Hh (.tuple ds)) : Hhs ds := by unfold Hh at h; exact h.2
theorem Hh.item {d : PyData} (h : Hh d) (k : Nat) : Hh (itemD d k) := by
  cases d with
  | tuple ds =>
    show Hh (ds.getD k .none)
    rw [List.getD_eq_getElem?_getD]
    cases e : ds[k]? with
    | none => show Hh .none; unfold Hh; trivial
    | some x => exact h.items.mem (List.mem_of_getElem? e)
  | _ => show Hh .none; unfold Hh; trivial
theorem eqv_str {d : PyData} {x : Str} (h : PyData.eqv d (.str x) = true) : d = .str x := by
  cases d with
  | str y =>
    have e : (y == x) = true := h
    rw [eq_of_beq e]
  | _ => first | cases h | (unfold PyData.eqv at h; cases h)
theorem shaped_str {x : Str} {k : Int} {d : PyData} (h : shapedD (.str x) k d = true) : ∃ ds, d = .tuple (.str x :: ds) ∧ ((ds.length + 1 : Nat) : Int) = k := by
  cases d with
  | tuple ds =>
    have e : (decide ((ds.length : Int) = k) && ((ds.head?.map fun d => PyData.eqv d (.str x)).getD false)) = true := h
    rw [Bool.and_eq_true] at e
    cases ds with
    | nil => exact absurd e.2 (by simp)
    | cons d0 ds =>
      have e2 : PyData.eqv d0 (.str x) = true := e.2
      rw [eqv_str e2]
      exact ⟨ds, rfl, of_decide_eq_true e.1⟩
  | _ => cases h
/-- what is of that shape lies there as a tuple -/
theorem shaped_at {H : Hp} {v : V} {d wd : PyData} {k : Int} (hR : Rp K H v d) (e : shapedD wd k d = true) : ∃ (p : Addr) (xs : List V), v = .ref p ∧ SqT K H p xs ∧ (xs.length : Int) = k ∧ ∀ i : Nat, i < xs.length → ∃ x, atI xs (i : Int) = some x ∧ Rp K H x (itemD d i) := by
  cases d with
  | tuple ds =>
    have e1 : (decide ((ds.length : Int) = k) && ((ds.head?.map fun d => PyData.eqv d wd).getD false)) = true := e
    have e2 : (ds.length : Int) = k := of_decide_eq_true (Bool.and_eq_true_iff.mp e1).1
    obtain ⟨p, xs, rfl, hT, hx⟩ := hR.tup_inv
    have l := hx.length
    refine ⟨p, xs, rfl, hT, by omega, fun i hi => ?_⟩
    have ed : ds[i]? = some ds[i] := List.getElem?_eq_getElem (by omega)
    obtain ⟨x, ex, rx⟩ := hx.get ed
    refine ⟨x, atI_nat ex, ?_⟩
    show Rp K H x (ds.getD i .none)
    rw [List.getD_eq_getElem?_getD, ed]
    exact rx
  | _ => cases e
/-- a thing of a work, within so many more others -/
noncomputable def okTh (ps os : Int) : Nat → PyData → Bool
  | 0, _ => false
  | n + 1, d => if shapedD (.str "sum") 3 d = true then okTh ps os n (itemD d 1) && okTh ps os n (itemD d 2) else if shapedD (.str "cell") 2 d = true then okTh ps os n (itemD d 1) else plainD ps os d
theorem plain_str' {ps os : Int} {d : PyData} (h : plainD ps os d = true) : ∃ x ds, d = .tuple (.str x :: ds) := by
  unfold plainD at h
  split at h
  · rename_i c; obtain ⟨ds, e, _⟩ := shaped_str c; exact ⟨_, ds, e⟩
  split at h
  · rename_i c; obtain ⟨ds, e, _⟩ := shaped_str c; exact ⟨_, ds, e⟩
  · rw [Bool.and_eq_true] at h; obtain ⟨ds, e, _⟩ := shaped_str h.1; exact ⟨_, ds, e⟩
theorem okTh_str {ps os : Int} : ∀ {n : Nat} {d : PyData}, okTh ps os n d = true → ∃ x ds, d = .tuple (.str x :: ds)
  | 0, d, h => by cases h
  | n + 1, d, h => by
    unfold okTh at h
    split at h
    · rename_i c; obtain ⟨ds, e, _⟩ := shaped_str c; exact ⟨_, ds, e⟩
    split at h
    · rename_i c; obtain ⟨ds, e, _⟩ := shaped_str c; exact ⟨_, ds, e⟩
    · exact plain_str' h
noncomputable def spNeedThingX (K : PySem.W.Frag) (cB : Addr) (n : Nat) : Sp := fun vs H Q E => ∃ (wp : Addr) (v b : V) (d : PyData) (ps os : Int) (i : Nat), vs = [.ref wp, v, .int (i : Int)] ∧ SqT K H wp [.int ps, .int os, b] ∧ Rp K H v d ∧ Hh d ∧ i ≤ 5 ∧ 6 ≤ n + i ∧
  (okTh ps os (5 - i) d = true → Q .non H) ∧ (okTh ps os (5 - i) d = false → E (.ref cB) none H)
theorem okNeedThingX {tk : Nat → Tok} {cB : Addr} (D : DefAt K mg "need_thing" sneed_thing pneed_thing) (T : Nrs tk mg) (E_BadProgram : ExcAt K mg "BadProgram" cB) (C_is_shaped : Callee P w K mg base "is_shaped" 1 pis_shaped (spIsShaped K))
    (C_is_plain : Callee P w K mg base "is_plain" 3 pis_plain (spIsPlain K)) : ∀ n : Nat, CalleeX P w K mg base "need_thing" (n + 4) pneed_thing (spNeedThingX K cB n)
  | 0 => D.noneX fun vs H Q E h => by
    obtain ⟨wp, v, b, d, ps, os, i, rfl, _, _, _, h1, h2, _⟩ := h
    omega
  | n + 1 => by
    have C_need_thing := okNeedThingX D T E_BadProgram C_is_shaped C_is_plain n
    refine D.okX scneed_thing (fun vs H Q E h => ?_) (fun f cdv A outer s H vs Q E hr h => ?_)
    · obtain ⟨wp, v, b, d, ps, os, i, rfl, _⟩ := h
      rfl
    obtain ⟨wp, v, b, d, ps, os, i, rfl, hW, hR, hh, i5, ni, q, qe⟩ := h
    refine ⟨_, (pss_cons (ps_if (pt_cmpR op_gt (pv 2) (pe_glob (v := .int 4) rfl T.MOST_OTHERS ⟨_, rfl⟩) (nomark _)) (pss_one (psRaise (K := K) (mg := mg) E_BadProgram (takes_of rfl rfl rfl rfl) rfl)) pss_nil)
  (pss_one (ps_if (pt_val (pcall C_is_shaped (hr.mono (by first | exact Nat.le_of_ble_eq_true rfl | omega)) rfl (pa_cons (pv 1) (pa_cons pe_str (pa_cons pe_int pa_nil))))) (pss_cons (ps_expr (pcallX C_need_thing (takes_of rfl rfl rfl rfl) (hr.mono (by first | exact Nat.le_of_ble_eq_true rfl | omega)) rfl (pa_cons (pv 0) (pa_cons (pe_ix (ixT (K := K)) (pv 1) pe_int (fun _ _ => rfl)) (pa_cons (pe_op op_add (pv 2) pe_int) pa_nil)))))
  (pss_one (ps_expr (pcallX C_need_thing (takes_of rfl rfl rfl rfl) (hr.mono (by first | exact Nat.le_of_ble_eq_true rfl | omega)) rfl (pa_cons (pv 0) (pa_cons (pe_ix (ixT (K := K)) (pv 1) pe_int (fun _ _ => rfl)) (pa_cons (pe_op op_add (pv 2) pe_int) pa_nil))))))) (pss_one (ps_if (pt_val (pcall C_is_shaped (hr.mono (by first | exact Nat.le_of_ble_eq_true rfl | omega)) rfl (pa_cons (pv 1) (pa_cons pe_str (pa_cons pe_int pa_nil))))) (pss_one (ps_expr (pcallX C_need_thing (takes_of rfl rfl rfl rfl) (hr.mono (by first | exact Nat.le_of_ble_eq_true rfl | omega)) rfl (pa_cons (pv 0) (pa_cons (pe_ix (ixT (K := K)) (pv 1) pe_int (fun _ _ => rfl)) (pa_cons (pe_op op_add (pv 2) pe_int) pa_nil)))))) (pss_one (ps_if (pt_not (pt_val (pcall C_is_plain (hr.mono (by first | exact Nat.le_of_ble_eq_true rfl | omega)) rfl (pa_cons (pv 0) (pa_cons (pv 1) pa_nil))))) (pss_one (psRaise (K := K) (mg := mg) E_BadProgram (takes_of rfl rfl rfl rfl) rfl)) pss_nil))))))), ?_⟩
    walk_at "rd"
    refine ite2 (fun c => ?_) (fun c => ?_)
    · have := of_decide_eq_true c
      have e : i = 5 := by omega
      subst e
      walk_at "rd"
      exact r_raise (qe rfl)
    have i4 : i ≤ 4 := by
      have : ¬ (4 : Int) < (i : Int) := fun z => c (decide_eq_true z)
      omega
    have e5 : 5 - i = (4 - i) + 1 := by omega
    have e4 : 5 - (i + 1) = 4 - i := by omega
    rw [e5] at q qe
    unfold okTh at q qe
    walk_at "rd"
    refine ask ⟨v, d, "sum", 3, rfl, hR.dp, hh.head, by decide +kernel, by decide, ?_⟩
    walk_at "rd"
    refine cases_b (shapedD (.str "sum") 3 d) (fun c1 => ?_) (fun c1 => ?_)
    · rw [if_pos c1] at q qe
      obtain ⟨p, xs, rfl, hT, l, hx⟩ := shaped_at hR c1
      obtain ⟨x1, a1, r1⟩ := hx 1 (by omega)
      obtain ⟨x2, a2, r2⟩ := hx 2 (by omega)
      have a1' : atI xs 1 = some x1 := a1
      have a2' : atI xs 2 = some x2 := a2
      rw [c1, if_pos rfl]
      walk_at "rd"
      refine r_callS ?_
      walk_at "rd"
      refine ask ⟨wp, x1, b, itemD d 1, ps, os, i + 1, by rw [Int.natCast_add]; rfl, hW, r1, hh.item 1, by omega, by omega, fun k1 => ?_, fun k1 => qe ?_⟩
      case refine_2 => rw [e4] at k1; rw [k1]; rfl
      walk_at "rd"
      refine r_callS ?_
      walk_at "rd"
      refine ask ⟨wp, x2, b, itemD d 2, ps, os, i + 1, by rw [Int.natCast_add]; rfl, hW, r2, hh.item 2, by omega, by omega, fun k2 => ?_, fun k2 => qe ?_⟩
      case refine_2 => rw [e4] at k2; rw [k2, Bool.and_false]
      walk_at "rd"
      rw [e4] at k1 k2
      exact q (by rw [k1, k2]; rfl)
    · rw [if_neg (by rw [c1]; exact Bool.false_ne_true)] at q qe
      rw [c1, if_neg Bool.false_ne_true]
      walk_at "rd"
      refine ask ⟨v, d, "cell", 2, rfl, hR.dp, hh.head, by decide +kernel, by decide, ?_⟩
      walk_at "rd"
      refine cases_b (shapedD (.str "cell") 2 d) (fun c2 => ?_) (fun c2 => ?_)
      · rw [if_pos c2] at q qe
        obtain ⟨p, xs, rfl, hT, l, hx⟩ := shaped_at hR c2
        obtain ⟨x1, a1, r1⟩ := hx 1 (by omega)
        have a1' : atI xs 1 = some x1 := a1
        rw [c2, if_pos rfl]
        walk_at "rd"
        refine r_callS ?_
        walk_at "rd"
        refine ask ⟨wp, x1, b, itemD d 1, ps, os, i + 1, by rw [Int.natCast_add]; rfl, hW, r1, hh.item 1, by omega, by omega, fun k1 => ?_, fun k1 => qe ?_⟩
        case refine_2 => rw [e4] at k1; exact k1
        walk_at "rd"
        rw [e4] at k1
        exact q k1
      · rw [if_neg (by rw [c2]; exact Bool.false_ne_true)] at q qe
        rw [c2, if_neg Bool.false_ne_true]
        walk_at "rd"
        refine ask ⟨wp, v, b, d, ps, os, rfl, hW, hR.dp, hh.head, ?_⟩
        walk_at "rd"
        refine cases_b (plainD ps os d) (fun c3 => ?_) (fun c3 => ?_)
        · rw [c3]
          walk_at "rd"
          exact q c3
        · rw [c3]
          walk_at "rd"
          exact r_raise (qe c3)
noncomputable def placeD : PyData → Bool
  | .tuple (.str x :: _) => inV (.str x) [.str "cell", .str "own", .str "par"]
  | _ => false
noncomputable def spNeedPlaceX (K : PySem.W.Frag) (cB : Addr) : Sp := fun vs H Q E => ∃ (wp : Addr) (v b : V) (d : PyData) (ps os : Int), vs = [.ref wp, v] ∧ SqT K H wp [.int ps, .int os, b] ∧ Rp K H v d ∧ Hh d ∧
  ((okTh ps os 5 d && placeD d) = true → Q .non H) ∧ ((okTh ps os 5 d && placeD d) = false → E (.ref cB) none H)
theorem okNeedPlaceX {tk : Nat → Tok} {aP aW cB : Addr} (D : DefAt K mg "need_place" sneed_place pneed_place) (T : Cst K tk aP aW mg) (E_BadProgram : ExcAt K mg "BadProgram" cB) (C_need_thing : CalleeX P w K mg base "need_thing" 10 pneed_thing (spNeedThingX K cB 6)) :
    CalleeX P w K mg base "need_place" 11 pneed_place (spNeedPlaceX K cB) := by
  refine D.okX scneed_place (fun vs H Q E h => ?_) (fun f cdv A outer s H vs Q E hr h => ?_)
  · obtain ⟨wp, v, b, d, ps, os, rfl, _⟩ := h
    rfl
  obtain ⟨wp, v, b, d, ps, os, rfl, hW, hR, hh, q, qe⟩ := h
  refine ⟨_, (pss_cons (ps_expr (pcallX C_need_thing (takes_of rfl rfl rfl rfl) (hr.mono (by first | exact Nat.le_of_ble_eq_true rfl | omega)) rfl (pa_cons (pv 0) (pa_cons (pv 1) (pa_cons pe_int pa_nil)))))
  (pss_one (ps_if (pt_cmpR (opNotIn (K := K)) (pe_ix (ixT (K := K)) (pv 1) pe_int (fun _ _ => rfl)) (pe_glob (v := .ref _) rfl T.PLACES rfl) (by with_unfolding_all rfl)) (pss_one (psRaise (K := K) (mg := mg) E_BadProgram (takes_of rfl rfl rfl rfl) rfl)) pss_nil))), ?_⟩
  walk_at "rd"
  refine r_callS ?_
  walk_at "rd"
  refine ask ⟨wp, v, b, d, ps, os, 0, rfl, hW, hR, hh, by omega, by omega, fun k1 => ?_, fun k1 => qe ?_⟩
  case refine_2 => rw [show okTh ps os 5 d = false from k1]; rfl
  have k1' : okTh ps os 5 d = true := k1
  obtain ⟨x, ds, rfl⟩ := okTh_str k1'
  obtain ⟨p, xs, rfl, hT, hx⟩ := hR.tup_inv
  obtain ⟨v0, r, rfl, h0, _⟩ := hx.inv
  cases h0.str_inv
  have hP : SqT K H aP [.str "cell", .str "own", .str "par"] := sqT_of_none T.sqP
  have at0 : atI (V.str x :: r) 0 = some (.str x) := atI_nat (xs := .str x :: r) (j := 0) rfl
  walk_at "rd"
  have e : placeD (.tuple (.str x :: ds)) = inV (.str x) [.str "cell", .str "own", .str "par"] := rfl
  rw [k1', e, Bool.true_and] at q qe
  refine cases_b (inV (V.str x) [.str "cell", .str "own", .str "par"]) (fun c => ?_) (fun c => ?_)
  · rw [if_pos rfl, c]
    walk_at "rd"
    exact q c
  · rw [if_pos rfl, c]
    walk_at "rd"
    exact r_raise (qe c)
end
end
section
section
variable {P : Program} {w : World} {K : PySem.W.Frag} {mg : Str → Option Value} {base : Heap}
noncomputable def shOf (sh : List (Nat × Nat)) (i : Nat) : Nat × Nat := sh.getD i (0, 0)
/-- a thing of the work at i -/
noncomputable def okT (sh : List (Nat × Nat)) (i : Nat) (d : PyData) : Bool := okTh ((shOf sh i).1 : Int) ((shOf sh i).2 : Int) 5 d
noncomputable def callD (sh : List (Nat × Nat)) (i : Nat) (dc dt : PyData) : Bool := match dc, dt with
  | .int c, .tuple ts => (decide (0 ≤ c) && decide (c < (sh.length : Int))) && (decide ((i : Int) < c) && (decide (ts.length = (shOf sh c.toNat).1) && ts.all (okT sh i)))
  | _, _ => false
theorem callD_tup {sh : List (Nat × Nat)} {i : Nat} {c : Int} {ts : List PyData} : callD sh i (.int c) (.tuple ts) = ((decide (0 ≤ c) && decide (c < (sh.length : Int))) && (decide ((i : Int) < c) && (decide (ts.length = (shOf sh c.toNat).1) && ts.all (okT sh i)))) := rfl
noncomputable def bodyD (f : PyData → Bool) : PyData → Bool
  | .tuple ss => ss.all f
  | _ => false
noncomputable def okSt (sh : List (Nat × Nat)) (i : Nat) : Nat → PyData → Bool
  | 0, _ => false
  | n + 1, d => if shapedD (.str "set") 3 d = true then (okT sh i (itemD d 1) && placeD (itemD d 1)) && okT sh i (itemD d 2)
    else if shapedD (.str "say") 2 d = true then okT sh i (itemD d 1)
    else if shapedD (.str "if") 4 d = true then okT sh i (itemD d 1) && (bodyD (okSt sh i n) (itemD d 2) && bodyD (okSt sh i n) (itemD d 3))
    else shapedD (.str "call") 3 d && callD sh i (itemD d 1) (itemD d 2)
noncomputable def cntB (f : PyData → Nat) : PyData → Nat
  | .tuple ss => (ss.map f).sum
  | _ => 0
noncomputable def cntSt : Nat → PyData → Nat
  | 0, _ => 1
  | n + 1, d => if shapedD (.str "if") 4 d = true then 1 + (cntB (cntSt n) (itemD d 2) + cntB (cntSt n) (itemD d 3)) else 1
theorem cnt_one : ∀ {n : Nat} {d : PyData}, 1 ≤ cntSt n d
  | 0, _ => Nat.le_refl _
  | n + 1, d => by
    unfold cntSt
    split <;> omega
/-- the heads of the works lie there -/
noncomputable def Heads (K : PySem.W.Frag) (H : Hp) (pp : Addr) (sh : List (Nat × Nat)) : Prop := ∃ xs : List V, SqT K H pp xs ∧ xs.length = sh.length ∧ ∀ i : Nat, i < sh.length → ∃ (wp : Addr) (b : V), atI xs (i : Int) = some (.ref wp) ∧ SqT K H wp [.int ((shOf sh i).1 : Int), .int ((shOf sh i).2 : Int), b]
noncomputable def spNeedCallX (K : PySem.W.Frag) (cB : Addr) : Sp := fun vs H Q E => ∃ (pp : Addr) (sh : List (Nat × Nat)) (i : Nat) (u v : V) (dc dt : PyData), vs = [.ref pp, .int (i : Int), u, v] ∧ Heads K H pp sh ∧ i < sh.length ∧ Rp K H u dc ∧ Rp K H v dt ∧ Hh dt ∧
  (callD sh i dc dt = true → Q .non H) ∧ (callD sh i dc dt = false → E (.ref cB) none H)
theorem okNeedCallX {tk : Nat → Tok} {aP aW cB : Addr} (D : DefAt K mg "need_call" sneed_call pneed_call) (T : Cst K tk aP aW mg) (E_BadProgram : ExcAt K mg "BadProgram" cB) (C_is_below : Callee P w K mg base "is_below" 1 pis_below (spIsBelow K)) (C_need_thing : CalleeX P w K mg base "need_thing" 10 pneed_thing (spNeedThingX K cB 6)) :
    CalleeX P w K mg base "need_call" 11 pneed_call (spNeedCallX K cB) := by
  refine D.okX scneed_call (fun vs H Q E h => ?_) (fun f cdv A outer s H vs Q E hr h => ?_)
  · obtain ⟨pp, sh, i, u, v, dc, dt, rfl, _⟩ := h
    rfl
  obtain ⟨pp, sh, i, u, v, dc, dt, rfl, hH, hi, hu, hv, hh, q, qe⟩ := h
  obtain ⟨xs, hT, hl, hat⟩ := hH
  obtain ⟨wp, b, eW, hW⟩ := hat i hi
  refine ⟨_, (pss_cons (ps_if (PW.pt (pw_or (pt_not (pt_val (pcall C_is_below (hr.mono (by first | exact Nat.le_of_ble_eq_true rfl | omega)) rfl (pa_cons (pv 2) (pa_cons (pe_callB (cLen (K := K)) (by rfl) T.len PySem.boot_len (pa_cons (pv 0) pa_nil)) pa_nil))))) (pw_or1 (pt_cmpR op_le (pv 2) (pv 1) (nomark _))))) (pss_one (psRaise (K := K) (mg := mg) E_BadProgram (takes_of rfl rfl rfl rfl) rfl)) pss_nil)
  (pss_cons (ps_if (PW.pt (pw_or (pt_not (pt_val (pe_callB (cIsi (K := K)) (by rfl) T.isinstance (by decide +kernel) (pa_cons (pv 3) (pa_cons (pe_bltn rfl T.tuple (by decide +kernel) (v := .ty "tuple") rfl) pa_nil))))) (pw_or1 (pt_cmpR op_ne (pe_callB (cLen (K := K)) (by rfl) T.len PySem.boot_len (pa_cons (pv 3) pa_nil)) (pe_ix (ixT (K := K)) (pe_ix (ixT (K := K)) (pv 0) (pv 2) (fun _ _ => rfl)) pe_int (fun _ _ => rfl)) (nomark _))))) (pss_one (psRaise (K := K) (mg := mg) E_BadProgram (takes_of rfl rfl rfl rfl) rfl)) pss_nil)
  (pss_one (ps_for (passes_of rfl) rfl (piTup (K := K) (pv 3)) (pg_name (i := 4) scneed_call.nd rfl (Or.inl rfl))
   (pss_one (ps_expr (pcallX C_need_thing (takes_of rfl rfl rfl rfl) (hr.mono (by first | exact Nat.le_of_ble_eq_true rfl | omega)) rfl (pa_cons (pe_ix (ixT (K := K)) (pv 0) (pv 1) (fun _ _ => rfl)) (pa_cons (pv 4) (pa_cons pe_int pa_nil)))))))))), ?_⟩
  have lx : ((xs.length : Nat) : Int) = (sh.length : Int) := by rw [hl]
  walk_at "rd"
  refine r_or ?_
  walk_at "rd"
  refine ask ⟨u, dc, ((xs.length : Nat) : Int), rfl, hu.dp, ?_⟩
  walk_at "rd"
  refine cases_b (belowD ((xs.length : Nat) : Int) dc) (fun c => ?_) (fun c => ?_)
  case refine_2 =>
    have bad : callD sh i dc dt = false := by
      cases dc with
      | int c0 =>
        have e : (decide (0 ≤ c0) && decide (c0 < ((xs.length : Nat) : Int))) = false := c
        rw [lx] at e
        cases dt <;> first | rfl | rw [callD_tup, e, Bool.false_and]
      | _ => unfold callD; rfl
    rw [c]
    walk_at "rd"
    exact r_raise (qe bad)
  cases dc with
  | none => cases c
  | bool _ => cases c
  | str _ => cases c
  | tuple _ => cases c
  | list _ => cases c
  | dict _ => cases c
  | int c0 =>
    cases hu
    have e : (decide (0 ≤ c0) && decide (c0 < ((xs.length : Nat) : Int))) = true := c
    have e' := e
    rw [lx] at e'
    rw [Bool.and_eq_true, decide_eq_true_eq, decide_eq_true_eq] at e
    obtain ⟨c1, c2⟩ := e
    obtain ⟨k, rfl⟩ : ∃ k : Nat, c0 = k := ⟨c0.toNat, by omega⟩
    rw [c, if_neg (by decide)]
    walk_at "rd"
    refine ite2 (fun z => ?_) (fun z => ?_)
    · have bad : callD sh i (.int (k : Int)) dt = false := by
        have := of_decide_eq_true z
        have e3 : decide ((i : Int) < (k : Int)) = false := decide_eq_false (by omega)
        cases dt <;> first | rfl | rw [callD_tup, e3, Bool.false_and, Bool.and_false]
      walk_at "rd"
      exact r_raise (qe bad)
    have ik : (i : Int) < (k : Int) := by
      have : ¬ (k : Int) ≤ (i : Int) := fun y => z (decide_eq_true y)
      omega
    obtain ⟨cp, bc, eC, hC⟩ := hat k (by omega)
    have at0 : atI [.int ((shOf sh k).1 : Int), .int ((shOf sh k).2 : Int), bc] 0 = some (.int ((shOf sh k).1 : Int)) := at0
    have unf : ∀ ts, callD sh i (.int (k : Int)) (.tuple ts) = (decide (ts.length = (shOf sh k).1) && ts.all (okT sh i)) := fun ts => by
      rw [callD_tup, e', decide_eq_true ik, Bool.true_and, Bool.true_and, Int.toNat_natCast]
    walk_at "rd"
    cases dt with
    | none =>
      cases hv
      refine r_or ?_
      walk_at "rd"
      exact r_raise (qe rfl)
    | bool _ =>
      cases hv
      refine r_or ?_
      walk_at "rd"
      exact r_raise (qe rfl)
    | int _ =>
      cases hv
      refine r_or ?_
      walk_at "rd"
      exact r_raise (qe rfl)
    | str _ =>
      cases hv
      refine r_or ?_
      walk_at "rd"
      exact r_raise (qe rfl)
    | list _ => cases hv
    | dict _ => cases hv
    | tuple ts =>
      obtain ⟨tp, vs, rfl, hV, hvs⟩ := hv.tup_inv
      have lv := hvs.length
      rw [unf ts] at q qe
      refine r_orP (a := !kb "tuple" "tuple") (b := !decide ((V.int (vs.length : Int)) = V.int ((shOf sh k).1 : Int))) (fun R hr => by walk_at "rd"; exact hr) (fun _ R hr => by walk_at "rd"; exact hr) ?_
      by_cases cl : ts.length = (shOf sh k).1
      · rw [decide_eq_true cl, Bool.true_and] at q qe
        rw [if_neg (by
          rw [decide_eq_true (by rw [lv, cl])]
          exact (by decide +kernel : ¬ (!kb "tuple" "tuple" || !true) = true))]
        walk_at "rd"
        refine forT (xs := vs) (fun j σ H' => H' = H ∧ (∃ x4 : Option V, σ = [some (.ref pp), some (.int (i : Int)), some (.int (k : Int)), some (.ref tp), x4]) ∧ (ts.take j).all (okT sh i) = true) ⟨rfl, ⟨none, rfl⟩, rfl⟩ (fun j σ H' _ hp => ?_) (fun j x σ H' hx hp => ?_) (fun σ H' hp => ?_)
        · obtain ⟨rfl, _⟩ := hp
          exact hV
        · obtain ⟨rfl, ⟨x4, rfl⟩, al⟩ := hp
          obtain ⟨d, ed, rd⟩ := hvs.get' hx
          walk_at "rd"
          refine r_callS ?_
          walk_at "rd"
          refine ask ⟨wp, x, b, d, _, _, 0, rfl, hW, rd, hh.items.mem (List.mem_of_getElem? ed), by omega, by omega, fun k1 => ?_, fun k1 => qe ?_⟩
          case refine_2 =>
            have k1' : okT sh i d = false := k1
            rw [List.all_eq_false]
            exact ⟨d, List.mem_of_getElem? ed, by rw [k1']; exact Bool.false_ne_true⟩
          walk_at "rd"
          have k1' : okT sh i d = true := k1
          refine ⟨rfl, ⟨_, rfl⟩, ?_⟩
          rw [List.take_add_one, ed, List.all_append, al]
          show (true && (okT sh i d && true)) = true
          rw [k1']
          rfl
        · obtain ⟨rfl, ⟨x4, rfl⟩, al⟩ := hp
          rw [List.take_of_length_le (by omega)] at al
          exact q al
      · rw [if_pos (by
          rw [decide_eq_false (fun z => cl (by have := V.int.inj z; omega))]
          exact (by decide +kernel : (!kb "tuple" "tuple" || !false) = true))]
        walk_at "rd"
        refine r_raise (qe ?_)
        rw [decide_eq_false cl, Bool.false_and]
noncomputable def spNeedStepX (K : PySem.W.Frag) (cB : Addr) (n : Nat) : Sp := fun vs H Q E => ∃ (pp : Addr) (sh : List (Nat × Nat)) (i h c : Nat) (v : V) (d : PyData), vs = [.ref pp, .int (i : Int), v, .int (h : Int), .int ((c : Int) + 1)] ∧ Heads K H pp sh ∧ i < sh.length ∧ Rp K H v d ∧ Hh d ∧ h ≤ 5 ∧ 6 ≤ n + h ∧
  (okSt sh i (5 - h) d = true → c + cntSt (5 - h) d ≤ 100 → Q (.int ((c + cntSt (5 - h) d : Nat) : Int)) H) ∧ (¬ (okSt sh i (5 - h) d = true ∧ c + cntSt (5 - h) d ≤ 100) → E (.ref cB) none H)
noncomputable def spNeedBodyX (K : PySem.W.Frag) (cB : Addr) (n : Nat) : Sp := fun vs H Q E => ∃ (pp : Addr) (sh : List (Nat × Nat)) (i h c : Nat) (v : V) (d : PyData), vs = [.ref pp, .int (i : Int), v, .int (h : Int), .int (c : Int)] ∧ Heads K H pp sh ∧ i < sh.length ∧ Rp K H v d ∧ Hh d ∧ h ≤ 5 ∧ 6 ≤ n + h ∧ c ≤ 100 ∧
  (bodyD (okSt sh i (5 - h)) d = true → c + cntB (cntSt (5 - h)) d ≤ 100 → Q (.int ((c + cntB (cntSt (5 - h)) d : Nat) : Int)) H) ∧ (¬ (bodyD (okSt sh i (5 - h)) d = true ∧ c + cntB (cntSt (5 - h)) d ≤ 100) → E (.ref cB) none H)
theorem okNeedBodyX {tk : Nat → Tok} {cB : Addr} {n : Nat} (D : DefAt K mg "need_body" sneed_body pneed_body) (T : Nrs tk mg) (E_BadProgram : ExcAt K mg "BadProgram" cB) (C_need_step : CalleeX P w K mg base "need_step" (2 * n + 13) pneed_step (spNeedStepX K cB (n + 1))) :
    CalleeX P w K mg base "need_body" (2 * n + 14) pneed_body (spNeedBodyX K cB (n + 1)) := by
  refine D.okX scneed_body (fun vs H Q E h => ?_) (fun f cdv A outer s H vs Q E hr h => ?_)
  · obtain ⟨pp, sh, i, h, c, v, d, rfl, _⟩ := h
    rfl
  obtain ⟨pp, sh, i, h, c, v, d, rfl, hH, hi, hR, hh, h5, nh, c1, q, qe⟩ := h
  refine ⟨_, (pss_cons (ps_if (pt_not (pt_val (pe_callB (cIsi (K := K)) (by rfl) T.isinstance (by decide +kernel) (pa_cons (pv 2) (pa_cons (pe_bltn rfl T.tuple (by decide +kernel) (v := .ty "tuple") rfl) pa_nil))))) (pss_one (psRaise (K := K) (mg := mg) E_BadProgram (takes_of rfl rfl rfl rfl) rfl)) pss_nil)
  (pss_cons (ps_for (passes_of rfl) rfl (piTup (K := K) (pv 2)) (pg_name (i := 5) scneed_body.nd rfl (Or.inl rfl))
   (pss_one (ps_set (i := 4) scneed_body.nd rfl (Or.inl rfl) (pcallX C_need_step (takes_of rfl rfl rfl rfl) (hr.mono (by first | exact Nat.le_of_ble_eq_true rfl | omega)) rfl (pa_cons (pv 0) (pa_cons (pv 1) (pa_cons (pv 5) (pa_cons (pv 3) (pa_cons (pe_op op_add (pv 4) pe_int) pa_nil)))))))))
  (pss_one (ps_ret (pv 4))))), ?_⟩
  walk_at "rd"
  cases d with
  | none =>
    cases hR
    walk_at "rd"
    exact r_raise (qe fun z => by cases z.1)
  | bool _ =>
    cases hR
    walk_at "rd"
    exact r_raise (qe fun z => by cases z.1)
  | int _ =>
    cases hR
    walk_at "rd"
    exact r_raise (qe fun z => by cases z.1)
  | str _ =>
    cases hR
    walk_at "rd"
    exact r_raise (qe fun z => by cases z.1)
  | list _ => cases hR
  | dict _ => cases hR
  | tuple ss =>
    obtain ⟨tp, vs, rfl, hV, hvs⟩ := hR.tup_inv
    have lv := hvs.length
    have eb : bodyD (okSt sh i (5 - h)) (.tuple ss) = ss.all (okSt sh i (5 - h)) := rfl
    have ec : cntB (cntSt (5 - h)) (.tuple ss) = (ss.map (cntSt (5 - h))).sum := rfl
    rw [eb, ec] at q qe
    walk_at "rd"
    refine forT (xs := vs) (fun j σ H' => H' = H ∧ (∃ x5 : Option V, σ = [some (.ref pp), some (.int (i : Int)), some (.ref tp), some (.int (h : Int)), some (.int ((c + ((ss.take j).map (cntSt (5 - h))).sum : Nat) : Int)), x5]) ∧ (ss.take j).all (okSt sh i (5 - h)) = true ∧ c + ((ss.take j).map (cntSt (5 - h))).sum ≤ 100) ⟨rfl, ⟨none, rfl⟩, rfl, c1⟩ (fun j σ H' _ hp => ?_) (fun j x σ H' hx hp => ?_) (fun σ H' hp => ?_)
    · obtain ⟨rfl, _⟩ := hp
      exact hV
    · obtain ⟨rfl, ⟨x5, rfl⟩, al, cl⟩ := hp
      obtain ⟨d, ed, rd⟩ := hvs.get' hx
      have mem := List.mem_of_getElem? ed
      have tk1 : ss.take (j + 1) = ss.take j ++ [d] := by rw [List.take_add_one, ed]; rfl
      have sm : ((ss.take (j + 1)).map (cntSt (5 - h))).sum = ((ss.take j).map (cntSt (5 - h))).sum + cntSt (5 - h) d := by
        rw [tk1, List.map_append, List.sum_append]
        show _ + (cntSt (5 - h) d + 0) = _
        omega
      have le : ((ss.take (j + 1)).map (cntSt (5 - h))).sum ≤ (ss.map (cntSt (5 - h))).sum := by
        have := List.take_append_drop (j + 1) ss
        rw [← this, List.map_append, List.sum_append, List.take_append_drop]
        omega
      generalize hcj : c + ((ss.take j).map (cntSt (5 - h))).sum = cj at cl
      walk_at "rd"
      refine r_callS ?_
      walk_at "rd"
      refine ask ⟨pp, sh, i, h, cj, x, d, rfl, hH, hi, rd, hh.items.mem mem, h5, nh, fun k1 k2 => ?_, fun k1 => qe fun z => k1 ⟨List.all_eq_true.mp z.1 d mem, by omega⟩⟩
      walk_at "rd"
      refine ⟨rfl, ⟨some x, ?_⟩, ?_, by omega⟩
      · rw [sm, ← Nat.add_assoc, hcj]
        rfl
      · rw [tk1, List.all_append, al]
        show (true && (okSt sh i (5 - h) d && true)) = true
        rw [k1]
        rfl
    · obtain ⟨rfl, ⟨x5, rfl⟩, al, cl⟩ := hp
      rw [List.take_of_length_le (by omega)] at al cl ⊢
      walk_at "rd"
      exact q al cl
end
end
section
section
variable {P : Program} {w : World} {K : PySem.W.Frag} {mg : Str → Option Value} {base : Heap}
theorem okNeedStepX {tk : Nat → Tok} {aP aW cB : Addr} {n : Nat} (D : DefAt K mg "need_step" sneed_step pneed_step) (T : Cst K tk aP aW mg) (E_BadProgram : ExcAt K mg "BadProgram" cB) (C_is_shaped : Callee P w K mg base "is_shaped" 1 pis_shaped (spIsShaped K))
    (C_need_thing : CalleeX P w K mg base "need_thing" 10 pneed_thing (spNeedThingX K cB 6)) (C_need_place : CalleeX P w K mg base "need_place" 11 pneed_place (spNeedPlaceX K cB)) (C_need_call : CalleeX P w K mg base "need_call" 11 pneed_call (spNeedCallX K cB))
    (C_need_body : CalleeX P w K mg base "need_body" (2 * n + 12) pneed_body (spNeedBodyX K cB n)) : CalleeX P w K mg base "need_step" (2 * n + 13) pneed_step (spNeedStepX K cB (n + 1)) := by
  refine D.okX scneed_step (fun vs H Q E h => ?_) (fun f cdv A outer s H vs Q E hr h => ?_)
  · obtain ⟨pp, sh, i, h, c, v, d, rfl, _⟩ := h
    rfl
  obtain ⟨pp, sh, i, h, c, v, d, rfl, hH, hi, hR, hh, h5, nh, q, qe⟩ := h
  obtain ⟨xs, hT, hl, hat⟩ := id hH
  obtain ⟨wp, b, eW, hW⟩ := hat i hi
  have c1 := @cnt_one (5 - h) d
  refine ⟨_, (pss_cons (ps_if (PW.pt (pw_or (pt_cmpR op_gt (pv 3) (pe_glob (v := .int 4) rfl T.MOST_OTHERS ⟨_, rfl⟩) (nomark _)) (pw_or1 (pt_cmpR op_gt (pv 4) (pe_glob (v := .int 100) rfl T.MOST_STEPS ⟨_, rfl⟩) (nomark _))))) (pss_one (psRaise (K := K) (mg := mg) E_BadProgram (takes_of rfl rfl rfl rfl) rfl)) pss_nil)
  (pss_cons (ps_set (i := 5) scneed_step.nd rfl (Or.inl rfl) (pe_ix (ixT (K := K)) (pv 0) (pv 1) (fun _ _ => rfl)))
  (pss_cons (ps_if (pt_val (pcall C_is_shaped (hr.mono (by first | exact Nat.le_of_ble_eq_true rfl | omega)) rfl (pa_cons (pv 2) (pa_cons pe_str (pa_cons pe_int pa_nil))))) (pss_cons (ps_expr (pcallX C_need_place (takes_of rfl rfl rfl rfl) (hr.mono (by first | exact Nat.le_of_ble_eq_true rfl | omega)) rfl (pa_cons (pv 5) (pa_cons (pe_ix (ixT (K := K)) (pv 2) pe_int (fun _ _ => rfl)) pa_nil))))
  (pss_one (ps_expr (pcallX C_need_thing (takes_of rfl rfl rfl rfl) (hr.mono (by first | exact Nat.le_of_ble_eq_true rfl | omega)) rfl (pa_cons (pv 5) (pa_cons (pe_ix (ixT (K := K)) (pv 2) pe_int (fun _ _ => rfl)) (pa_cons pe_int pa_nil))))))) (pss_one (ps_if (pt_val (pcall C_is_shaped (hr.mono (by first | exact Nat.le_of_ble_eq_true rfl | omega)) rfl (pa_cons (pv 2) (pa_cons pe_str (pa_cons pe_int pa_nil))))) (pss_one (ps_expr (pcallX C_need_thing (takes_of rfl rfl rfl rfl) (hr.mono (by first | exact Nat.le_of_ble_eq_true rfl | omega)) rfl (pa_cons (pv 5) (pa_cons (pe_ix (ixT (K := K)) (pv 2) pe_int (fun _ _ => rfl)) (pa_cons pe_int pa_nil)))))) (pss_one (ps_if (pt_val (pcall C_is_shaped (hr.mono (by first | exact Nat.le_of_ble_eq_true rfl | omega)) rfl (pa_cons (pv 2) (pa_cons pe_str (pa_cons pe_int pa_nil))))) (pss_cons (ps_expr (pcallX C_need_thing (takes_of rfl rfl rfl rfl) (hr.mono (by first | exact Nat.le_of_ble_eq_true rfl | omega)) rfl (pa_cons (pv 5) (pa_cons (pe_ix (ixT (K := K)) (pv 2) pe_int (fun _ _ => rfl)) (pa_cons pe_int pa_nil)))))
  (pss_cons (ps_set (i := 4) scneed_step.nd rfl (Or.inl rfl) (pcallX C_need_body (takes_of rfl rfl rfl rfl) (hr.mono (by first | exact Nat.le_of_ble_eq_true rfl | omega)) rfl (pa_cons (pv 0) (pa_cons (pv 1) (pa_cons (pe_ix (ixT (K := K)) (pv 2) pe_int (fun _ _ => rfl)) (pa_cons (pe_op op_add (pv 3) pe_int) (pa_cons (pv 4) pa_nil)))))))
  (pss_one (ps_set (i := 4) scneed_step.nd rfl (Or.inl rfl) (pcallX C_need_body (takes_of rfl rfl rfl rfl) (hr.mono (by first | exact Nat.le_of_ble_eq_true rfl | omega)) rfl (pa_cons (pv 0) (pa_cons (pv 1) (pa_cons (pe_ix (ixT (K := K)) (pv 2) pe_int (fun _ _ => rfl)) (pa_cons (pe_op op_add (pv 3) pe_int) (pa_cons (pv 4) pa_nil)))))))))) (pss_one (ps_if (pt_val (pcall C_is_shaped (hr.mono (by first | exact Nat.le_of_ble_eq_true rfl | omega)) rfl (pa_cons (pv 2) (pa_cons pe_str (pa_cons pe_int pa_nil))))) (pss_one (ps_expr (pcallX C_need_call (takes_of rfl rfl rfl rfl) (hr.mono (by first | exact Nat.le_of_ble_eq_true rfl | omega)) rfl (pa_cons (pv 0) (pa_cons (pv 1) (pa_cons (pe_ix (ixT (K := K)) (pv 2) pe_int (fun _ _ => rfl)) (pa_cons (pe_ix (ixT (K := K)) (pv 2) pe_int (fun _ _ => rfl)) pa_nil))))))) (pss_one (psRaise (K := K) (mg := mg) E_BadProgram (takes_of rfl rfl rfl rfl) rfl)))))))))
  (pss_one (ps_ret (pv 4)))))), ?_⟩
  walk_at "rd"
  refine r_orP (a := decide ((4 : Int) < (h : Int))) (b := decide ((100 : Int) < (c : Int) + 1)) (fun R hr => by walk_at "rd"; exact hr) (fun _ R hr => by walk_at "rd"; exact hr) ?_
  by_cases h4 : h ≤ 4
  case neg =>
    have e : h = 5 := by omega
    subst e
    rw [if_pos (by rw [decide_eq_true (show (4 : Int) < ((5 : Nat) : Int) by decide)]; rfl)]
    walk_at "rd"
    exact r_raise (qe fun z => by cases z.1)
  by_cases cm : c + 1 ≤ 100
  case neg =>
    rw [if_pos (by rw [decide_eq_true (show (100 : Int) < (c : Int) + 1 by omega), Bool.or_true])]
    walk_at "rd"
    exact r_raise (qe fun z => by omega)
  rw [if_neg (by
    rw [decide_eq_false (by omega), decide_eq_false (by omega)]
    exact Bool.false_ne_true)]
  have e5 : 5 - h = (4 - h) + 1 := by omega
  have e4 : 5 - (h + 1) = 4 - h := by omega
  rw [e5] at q qe
  unfold okSt cntSt at q qe
  walk_at "rd"
  refine ask ⟨v, d, "set", 3, rfl, hR.dp, hh.head, by decide +kernel, by decide, ?_⟩
  walk_at "rd"
  have thing : ∀ (x : V) (k : Nat) (Q0 : VK) (E0 : XK), Rp K H x (itemD d k) → (okT sh i (itemD d k) = true → Q0 .non H) → (okT sh i (itemD d k) = false → E0 (.ref cB) none H) → spNeedThingX K cB 6 [.ref wp, x, .int 0] H Q0 E0 := fun x k Q0 E0 hx h1 h2 =>
    ⟨wp, x, b, itemD d k, _, _, 0, rfl, hW, hx, hh.item k, by omega, by omega, h1, h2⟩
  refine cases_b (shapedD (.str "set") 3 d) (fun s1 => ?_) (fun s1 => ?_)
  · rw [if_pos s1] at q qe
    have ni : shapedD (.str "if") 4 d = false := by
      obtain ⟨ds, rfl, l⟩ := shaped_str s1
      exact shapedD_str.trans (by rw [decide_eq_false (by rw [List.length_cons]; omega)]; rfl)
    rw [if_neg (by rw [ni]; exact Bool.false_ne_true)] at q qe
    obtain ⟨p, ys, rfl, hS, l, hx⟩ := shaped_at hR s1
    obtain ⟨x1, a1, r1⟩ := hx 1 (by omega)
    obtain ⟨x2, a2, r2⟩ := hx 2 (by omega)
    have a1' : atI ys 1 = some x1 := a1
    have a2' : atI ys 2 = some x2 := a2
    rw [s1, if_pos rfl]
    walk_at "rd"
    refine r_callS ?_
    walk_at "rd"
    refine ask ⟨wp, x1, b, itemD d 1, _, _, rfl, hW, r1, hh.item 1, fun k1 => ?_, fun k1 => qe fun z => ?_⟩
    case refine_2 =>
      have k1' : (okT sh i (itemD d 1) && placeD (itemD d 1)) = false := k1
      have := z.1
      rw [k1'] at this
      cases this
    have k1' : (okT sh i (itemD d 1) && placeD (itemD d 1)) = true := k1
    walk_at "rd"
    refine r_callS ?_
    walk_at "rd"
    refine ask (thing x2 2 _ _ r2 (fun k2 => ?_) fun k2 => qe fun z => ?_)
    case refine_2 =>
      have := z.1
      rw [k2, Bool.and_false] at this
      cases this
    walk_at "rd"
    exact q (by rw [k1', k2]; rfl) cm
  rw [if_neg (by rw [s1]; exact Bool.false_ne_true)] at q qe
  rw [s1, if_neg Bool.false_ne_true]
  walk_at "rd"
  refine ask ⟨v, d, "say", 2, rfl, hR.dp, hh.head, by decide +kernel, by decide, ?_⟩
  walk_at "rd"
  refine cases_b (shapedD (.str "say") 2 d) (fun s2 => ?_) (fun s2 => ?_)
  · rw [if_pos s2] at q qe
    have ni : shapedD (.str "if") 4 d = false := by
      obtain ⟨ds, rfl, l⟩ := shaped_str s2
      exact shapedD_str.trans (by rw [decide_eq_false (by rw [List.length_cons]; omega)]; rfl)
    rw [if_neg (by rw [ni]; exact Bool.false_ne_true)] at q qe
    obtain ⟨p, ys, rfl, hS, l, hx⟩ := shaped_at hR s2
    obtain ⟨x1, a1, r1⟩ := hx 1 (by omega)
    have a1' : atI ys 1 = some x1 := a1
    rw [s2, if_pos rfl]
    walk_at "rd"
    refine r_callS ?_
    walk_at "rd"
    refine ask (thing x1 1 _ _ r1 (fun k1 => ?_) fun k1 => qe fun z => ?_)
    case refine_2 =>
      have := z.1
      rw [k1] at this
      cases this
    walk_at "rd"
    exact q k1 cm
  rw [if_neg (by rw [s2]; exact Bool.false_ne_true)] at q qe
  rw [s2, if_neg Bool.false_ne_true]
  walk_at "rd"
  refine ask ⟨v, d, "if", 4, rfl, hR.dp, hh.head, by decide +kernel, by decide, ?_⟩
  walk_at "rd"
  refine cases_b (shapedD (.str "if") 4 d) (fun s3 => ?_) (fun s3 => ?_)
  · rw [if_pos s3, if_pos s3] at q
    rw [if_pos s3, if_pos s3] at qe
    obtain ⟨p, ys, rfl, hS, l, hx⟩ := shaped_at hR s3
    obtain ⟨x1, a1, r1⟩ := hx 1 (by omega)
    obtain ⟨x2, a2, r2⟩ := hx 2 (by omega)
    obtain ⟨x3, a3, r3⟩ := hx 3 (by omega)
    have a1' : atI ys 1 = some x1 := a1
    have a2' : atI ys 2 = some x2 := a2
    have a3' : atI ys 3 = some x3 := a3
    rw [s3, if_pos rfl]
    walk_at "rd"
    refine r_callS ?_
    walk_at "rd"
    refine ask (thing x1 1 _ _ r1 (fun k1 => ?_) fun k1 => qe fun z => ?_)
    case refine_2 =>
      have := z.1
      rw [k1] at this
      cases this
    walk_at "rd"
    refine r_callS ?_
    walk_at "rd"
    refine ask ⟨pp, sh, i, h + 1, c + 1, x2, itemD d 2, by rw [Int.natCast_add, Int.natCast_add]; rfl, hH, hi, r2, hh.item 2, by omega, by omega, by omega, fun k2 m2 => ?_, fun k2 => qe fun z => k2 ?_⟩
    case refine_2 =>
      rw [e4]
      have := z.1
      rw [Bool.and_eq_true, Bool.and_eq_true] at this
      exact ⟨this.2.1, by have := z.2; omega⟩
    rw [e4] at k2 m2 ⊢
    walk_at "rd"
    refine r_callS ?_
    walk_at "rd"
    refine ask ⟨pp, sh, i, h + 1, c + 1 + cntB (cntSt (4 - h)) (itemD d 2), x3, itemD d 3, by rw [Int.natCast_add h 1]; rfl, hH, hi, r3, hh.item 3, by omega, by omega, by omega, fun k3 m3 => ?_, fun k3 => qe fun z => k3 ?_⟩
    case refine_2 =>
      rw [e4]
      have := z.1
      rw [Bool.and_eq_true, Bool.and_eq_true] at this
      exact ⟨this.2.2, by have := z.2; omega⟩
    rw [e4] at k3 m3 ⊢
    walk_at "rd"
    have e : c + 1 + cntB (cntSt (4 - h)) (itemD d 2) + cntB (cntSt (4 - h)) (itemD d 3) = c + (1 + (cntB (cntSt (4 - h)) (itemD d 2) + cntB (cntSt (4 - h)) (itemD d 3))) := by omega
    rw [e]
    exact q (by rw [k1, k2, k3]; rfl) (by omega)
  rw [if_neg (by rw [s3]; exact Bool.false_ne_true), if_neg (by rw [s3]; exact Bool.false_ne_true)] at q
  rw [if_neg (by rw [s3]; exact Bool.false_ne_true), if_neg (by rw [s3]; exact Bool.false_ne_true)] at qe
  rw [s3, if_neg Bool.false_ne_true]
  walk_at "rd"
  refine ask ⟨v, d, "call", 3, rfl, hR.dp, hh.head, by decide +kernel, by decide, ?_⟩
  walk_at "rd"
  refine cases_b (shapedD (.str "call") 3 d) (fun s4 => ?_) (fun s4 => ?_)
  · rw [s4, Bool.true_and] at q qe
    obtain ⟨p, ys, rfl, hS, l, hx⟩ := shaped_at hR s4
    obtain ⟨x1, a1, r1⟩ := hx 1 (by omega)
    obtain ⟨x2, a2, r2⟩ := hx 2 (by omega)
    have a1' : atI ys 1 = some x1 := a1
    have a2' : atI ys 2 = some x2 := a2
    rw [s4, if_pos rfl]
    walk_at "rd"
    refine r_callS ?_
    walk_at "rd"
    refine ask ⟨pp, sh, i, x1, x2, _, _, rfl, hH, hi, r1, r2, hh.item 2, fun k1 => ?_, fun k1 => qe fun z => ?_⟩
    case refine_2 =>
      have := z.1
      rw [k1] at this
      cases this
    walk_at "rd"
    exact q k1 cm
  rw [s4, Bool.false_and] at qe
  rw [s4, if_neg Bool.false_ne_true]
  walk_at "rd"
  exact r_raise (qe fun z => by cases z.1)
theorem okNeedBodiesX {tk : Nat → Tok} {aP aW cB : Addr} (D : DefAt K mg "need_body" sneed_body pneed_body) (Ds : DefAt K mg "need_step" sneed_step pneed_step) (T : Cst K tk aP aW mg) (E_BadProgram : ExcAt K mg "BadProgram" cB) (C_is_shaped : Callee P w K mg base "is_shaped" 1 pis_shaped (spIsShaped K))
    (C_need_thing : CalleeX P w K mg base "need_thing" 10 pneed_thing (spNeedThingX K cB 6)) (C_need_place : CalleeX P w K mg base "need_place" 11 pneed_place (spNeedPlaceX K cB)) (C_need_call : CalleeX P w K mg base "need_call" 11 pneed_call (spNeedCallX K cB)) :
    ∀ n : Nat, CalleeX P w K mg base "need_body" (2 * n + 12) pneed_body (spNeedBodyX K cB n)
  | 0 => D.noneX fun vs H Q E h => by
    obtain ⟨pp, sh, i, h, c, v, d, rfl, _, _, _, _, h5, z, _⟩ := h
    omega
  | n + 1 => okNeedBodyX D T.toNrs E_BadProgram (okNeedStepX Ds T E_BadProgram C_is_shaped C_need_thing C_need_place C_need_call (okNeedBodiesX D Ds T E_BadProgram C_is_shaped C_need_thing C_need_place C_need_call n))
end
end
section
section
variable {P : Program} {w : World} {K : PySem.W.Frag} {mg : Str → Option Value} {base : Heap}
noncomputable def headD (i : Nat) (d : PyData) : Bool := match d with
  | .tuple [p, o, _] => belowD (if i = 0 then 0 + 1 else 3 + 1) p && belowD (99 + 1) o
  | _ => false
theorem headD_3 {i : Nat} {p o b : PyData} : headD i (.tuple [p, o, b]) = (belowD (if i = 0 then 0 + 1 else 3 + 1) p && belowD (99 + 1) o) := rfl
theorem headD_len {i : Nat} {ds : List PyData} (h : ds.length ≠ 3) : headD i (.tuple ds) = false := by
  match ds, h with
  | [], _ => rfl
  | [_], _ => rfl
  | [_, _], _ => rfl
  | [_, _, _], h => exact absurd rfl h
  | _ :: _ :: _ :: _ :: _, _ => rfl
noncomputable def spNeedHeadX (K : PySem.W.Frag) (cB : Addr) : Sp := fun vs H Q E => ∃ (i : Nat) (v : V) (d : PyData), vs = [.int (i : Int), v] ∧ Rp K H v d ∧ (headD i d = true → Q .non H) ∧ (headD i d = false → E (.ref cB) none H)
theorem okNeedHeadX {tk : Nat → Tok} {cB : Addr} (D : DefAt K mg "need_head" sneed_head pneed_head) (T : Nrs tk mg) (E_BadProgram : ExcAt K mg "BadProgram" cB) (C_is_below : Callee P w K mg base "is_below" 1 pis_below (spIsBelow K)) : CalleeX P w K mg base "need_head" 2 pneed_head (spNeedHeadX K cB) := by
  refine D.okX scneed_head (fun vs H Q E h => ?_) (fun f cdv A outer s H vs Q E hr h => ?_)
  · obtain ⟨i, v, d, rfl, _⟩ := h
    rfl
  obtain ⟨i, v, d, rfl, hR, q, qe⟩ := h
  refine ⟨_, (pss_cons (ps_if (PW.pt (pw_or (pt_not (pt_val (pe_callB (cIsi (K := K)) (by rfl) T.isinstance (by decide +kernel) (pa_cons (pv 1) (pa_cons (pe_bltn rfl T.tuple (by decide +kernel) (v := .ty "tuple") rfl) pa_nil))))) (pw_or1 (pt_cmpR op_ne (pe_callB (cLen (K := K)) (by rfl) T.len PySem.boot_len (pa_cons (pv 1) pa_nil)) pe_int (nomark _))))) (pss_one (psRaise (K := K) (mg := mg) E_BadProgram (takes_of rfl rfl rfl rfl) rfl)) pss_nil)
  (pss_cons (ps_set (i := 2) scneed_head.nd rfl (Or.inl rfl) (pe_ifExp (pt_cmpR op_eq (pv 0) pe_int (nomark _)) pe_int (pe_glob (v := .int 3) rfl T.MOST_PARAMS ⟨_, rfl⟩)))
  (pss_cons (ps_if (pt_not (pt_val (pcall C_is_below (hr.mono (by first | exact Nat.le_of_ble_eq_true rfl | omega)) rfl (pa_cons (pe_ix (ixT (K := K)) (pv 1) pe_int (fun _ _ => rfl)) (pa_cons (pe_op op_add (pv 2) pe_int) pa_nil))))) (pss_one (psRaise (K := K) (mg := mg) E_BadProgram (takes_of rfl rfl rfl rfl) rfl)) pss_nil)
  (pss_one (ps_if (pt_not (pt_val (pcall C_is_below (hr.mono (by first | exact Nat.le_of_ble_eq_true rfl | omega)) rfl (pa_cons (pe_ix (ixT (K := K)) (pv 1) pe_int (fun _ _ => rfl)) (pa_cons (pe_op op_add (pe_glob (v := .int 99) rfl T.MOST_OWNS ⟨_, rfl⟩) pe_int) pa_nil))))) (pss_one (psRaise (K := K) (mg := mg) E_BadProgram (takes_of rfl rfl rfl rfl) rfl)) pss_nil))))), ?_⟩
  walk_at "rd"
  cases d with
  | none =>
    cases hR
    refine r_or ?_
    walk_at "rd"
    exact r_raise (qe rfl)
  | bool _ =>
    cases hR
    refine r_or ?_
    walk_at "rd"
    exact r_raise (qe rfl)
  | int _ =>
    cases hR
    refine r_or ?_
    walk_at "rd"
    exact r_raise (qe rfl)
  | str _ =>
    cases hR
    refine r_or ?_
    walk_at "rd"
    exact r_raise (qe rfl)
  | list _ => cases hR
  | dict _ => cases hR
  | tuple ds =>
    obtain ⟨wp, xs, rfl, hT, hx⟩ := hR.tup_inv
    have lx := hx.length
    refine r_orP (a := !kb "tuple" "tuple") (b := !decide ((V.int (xs.length : Int)) = V.int 3)) (fun R hr => by walk_at "rd"; exact hr) (fun _ R hr => by walk_at "rd"; exact hr) ?_
    by_cases l3 : ds.length = 3
    case neg =>
      rw [if_pos (by
        rw [decide_eq_false (fun z => l3 (by have := V.int.inj z; omega))]
        exact (by decide +kernel : (!kb "tuple" "tuple" || !false) = true))]
      walk_at "rd"
      exact r_raise (qe (headD_len l3))
    rw [if_neg (by
      rw [decide_eq_true (by rw [lx, l3]; rfl)]
      exact (by decide +kernel : ¬ (!kb "tuple" "tuple" || !true) = true))]
    obtain ⟨dp, dq, db, rfl⟩ : ∃ dp dq db, ds = [dp, dq, db] := by
      match ds, l3 with
      | [dp, dq, db], _ => exact ⟨dp, dq, db, rfl⟩
    obtain ⟨v0, r0, rfl, g0, gr⟩ := hx.inv
    obtain ⟨v1, r1, rfl, g1, gr1⟩ := gr.inv
    obtain ⟨v2, r2, rfl, g2, gr2⟩ := gr1.inv
    cases gr2.inv0
    rw [headD_3] at q qe
    have a0 : atI [v0, v1, v2] 0 = some v0 := at0
    have a1 : atI [v0, v1, v2] 1 = some v1 := at1
    walk_at "rd"
    have tail : ∀ {m : Int}, (belowD m dp && belowD (99 + 1) dq) = (belowD (if i = 0 then 0 + 1 else 3 + 1) dp && belowD (99 + 1) dq) → True := fun _ => trivial
    refine ite2 (fun c => ?_) (fun c => ?_)
    · have i0 : i = 0 := by
        have := V.int.inj (of_decide_eq_true c)
        omega
      rw [if_pos i0] at q qe
      walk_at "rd"
      refine ask ⟨v0, dp, 0 + 1, rfl, g0.dp, ?_⟩
      refine cases_b (belowD (0 + 1) dp) (fun c1 => ?_) (fun c1 => ?_)
      case refine_2 =>
        rw [c1]
        walk_at "rd"
        exact r_raise (qe (by rw [c1, Bool.false_and]))
      rw [c1]
      walk_at "rd"
      refine ask ⟨v1, dq, 99 + 1, rfl, g1.dp, ?_⟩
      refine cases_b (belowD (99 + 1) dq) (fun c2 => ?_) (fun c2 => ?_)
      case refine_2 =>
        rw [c2]
        walk_at "rd"
        exact r_raise (qe (by rw [c2, Bool.and_false]))
      rw [c2]
      walk_at "rd"
      exact q (by rw [c1, c2]; rfl)
    · have i0 : ¬ i = 0 := fun z => c (decide_eq_true (by rw [z]; rfl))
      rw [if_neg i0] at q qe
      walk_at "rd"
      refine ask ⟨v0, dp, 3 + 1, rfl, g0.dp, ?_⟩
      refine cases_b (belowD (3 + 1) dp) (fun c1 => ?_) (fun c1 => ?_)
      case refine_2 =>
        rw [c1]
        walk_at "rd"
        exact r_raise (qe (by rw [c1, Bool.false_and]))
      rw [c1]
      walk_at "rd"
      refine ask ⟨v1, dq, 99 + 1, rfl, g1.dp, ?_⟩
      refine cases_b (belowD (99 + 1) dq) (fun c2 => ?_) (fun c2 => ?_)
      case refine_2 =>
        rw [c2]
        walk_at "rd"
        exact r_raise (qe (by rw [c2, Bool.and_false]))
      rw [c2]
      walk_at "rd"
      exact q (by rw [c1, c2]; rfl)
noncomputable def natI : PyData → Nat
  | .int i => i.toNat
  | _ => 0
noncomputable def shD (ws : List PyData) : List (Nat × Nat) := ws.map fun d => (natI (itemD d 0), natI (itemD d 1))
/-- what is a program -/
noncomputable def OkProg (d : PyData) : Prop := ∃ ws, d = .tuple ws ∧ (1 ≤ ws.length ∧ ws.length ≤ 4) ∧ (∀ (i : Nat) (x : PyData), ws[i]? = some x → headD i x = true) ∧
  ∀ (i : Nat) (x : PyData), ws[i]? = some x → bodyD (okSt (shD ws) i 5) (itemD x 2) = true ∧ cntB (cntSt 5) (itemD x 2) ≤ 100
theorem below_nat' {m : Int} {d : PyData} (h : belowD m d = true) : ∃ k : Nat, d = .int (k : Int) ∧ (k : Int) < m := by
  cases d with
  | int c =>
    have e : (decide (0 ≤ c) && decide (c < m)) = true := h
    rw [Bool.and_eq_true, decide_eq_true_eq, decide_eq_true_eq] at e
    exact ⟨c.toNat, by rw [Int.toNat_of_nonneg e.1], by rw [Int.toNat_of_nonneg e.1]; exact e.2⟩
  | _ => cases h
theorem headD_inv {i : Nat} {d : PyData} (h : headD i d = true) : ∃ (p o : Nat) (b : PyData), d = .tuple [.int (p : Int), .int (o : Int), b] ∧ p ≤ 3 ∧ o ≤ 99 ∧ (i = 0 → p = 0) := by
  cases d with
  | tuple ds =>
    by_cases l3 : ds.length = 3
    · obtain ⟨dp, dq, db, rfl⟩ : ∃ dp dq db, ds = [dp, dq, db] := by
        match ds, l3 with
        | [dp, dq, db], _ => exact ⟨dp, dq, db, rfl⟩
      rw [headD_3, Bool.and_eq_true] at h
      obtain ⟨p, rfl, hp⟩ := below_nat' h.1
      obtain ⟨o, rfl, ho⟩ := below_nat' h.2
      refine ⟨p, o, db, rfl, ?_, by omega, fun z => ?_⟩
      · split at hp <;> omega
      · rw [if_pos z] at hp
        omega
    · rw [headD_len l3] at h
      cases h
  | _ => cases h
theorem heads_lie {H : Hp} {a : Addr} {xs : List V} {ws : List PyData} (hT : SqT K H a xs) (hx : Rps K H xs ws) (ok : ∀ (i : Nat) (x : PyData), ws[i]? = some x → headD i x = true) : Heads K H a (shD ws) := by
  have l := hx.length
  have ls : (shD ws).length = ws.length := List.length_map _
  refine ⟨xs, hT, by omega, fun i hi => ?_⟩
  have ew : ws[i]? = some ws[i] := List.getElem?_eq_getElem (by omega)
  obtain ⟨v, ev, rv⟩ := hx.get ew
  obtain ⟨p, o, b, e, _⟩ := headD_inv (ok i _ ew)
  have es : shOf (shD ws) i = (p, o) := by
    unfold shOf shD
    rw [List.getD_eq_getElem?_getD, List.getElem?_map, ew, e]
    rfl
  rw [e] at rv
  obtain ⟨wp, ys, rfl, hW, hy⟩ := rv.tup_inv
  obtain ⟨v0, r0, rfl, g0, gr⟩ := hy.inv
  obtain ⟨v1, r1, rfl, g1, gr1⟩ := gr.inv
  obtain ⟨v2, r2, rfl, g2, gr2⟩ := gr1.inv
  cases gr2.inv0
  cases g0.int_inv
  cases g1.int_inv
  rw [es]
  exact ⟨wp, v2, atI_nat ev, hW⟩
theorem Heads.ts {H H1 : Hp} {a : Addr} {sh : List (Nat × Nat)} (h : Heads K H a sh) (t : Tst H H1) : Heads K H1 a sh := by
  obtain ⟨xs, h1, h2, h3⟩ := h
  refine ⟨xs, t.sqT h1, h2, fun i hi => ?_⟩
  obtain ⟨wp, b, e1, e2⟩ := h3 i hi
  exact ⟨wp, b, e1, t.sqT e2⟩
noncomputable def spNeedProgramX (K : PySem.W.Frag) (cB : Addr) : Sp := fun vs H Q E => ∃ (v : V) (d : PyData), vs = [v] ∧ Rp K H v d ∧ Hh d ∧ (OkProg d → ∀ H', Keep [] H H' → Q .non H') ∧ (¬ OkProg d → ∀ H', Keep [] H H' → E (.ref cB) none H')
theorem okNeedProgramX {tk : Nat → Tok} {aP aW cB : Addr} (D : DefAt K mg "need_program" sneed_program pneed_program) (T : Cst K tk aP aW mg) (E_BadProgram : ExcAt K mg "BadProgram" cB) (C_need_head : CalleeX P w K mg base "need_head" 2 pneed_head (spNeedHeadX K cB)) (C_need_body : CalleeX P w K mg base "need_body" 24 pneed_body (spNeedBodyX K cB 6)) :
    CalleeX P w K mg base "need_program" 25 pneed_program (spNeedProgramX K cB) := by
  refine D.okX scneed_program (fun vs H Q E h => ?_) (fun f cdv A outer s H vs Q E hr h => ?_)
  · obtain ⟨v, d, rfl, _⟩ := h
    rfl
  obtain ⟨v, d, rfl, hR, hh, q, qe⟩ := h
  refine ⟨_, (pss_cons (ps_if (PW.pt (pw_or (pt_not (pt_val (pe_callB (cIsi (K := K)) (by rfl) T.isinstance (by decide +kernel) (pa_cons (pv 0) (pa_cons (pe_bltn rfl T.tuple (by decide +kernel) (v := .ty "tuple") rfl) pa_nil))))) (pw_or1 (pt_not (pt_chain op_le op_le pe_int (pe_callB (cLen (K := K)) (by rfl) T.len PySem.boot_len (pa_cons (pv 0) pa_nil)) (pe_glob (v := .int 4) rfl T.MOST_WORKS ⟨_, rfl⟩)))))) (pss_one (psRaise (K := K) (mg := mg) E_BadProgram (takes_of rfl rfl rfl rfl) rfl)) pss_nil)
  (pss_cons (ps_for (passes_of rfl) rfl (pi_enumT (K := K) rfl T.enumerate (pa_cons (pv 0) pa_nil)) (pgTup (K := K) (by rfl) (pgs_cons (pg_name (i := 1) scneed_program.nd rfl (Or.inl rfl)) (pgs_cons (pg_name (i := 2) scneed_program.nd rfl (Or.inl rfl)) pgs_nil)))
   (pss_one (ps_expr (pcallX C_need_head (takes_of rfl rfl rfl rfl) (hr.mono (by first | exact Nat.le_of_ble_eq_true rfl | omega)) rfl (pa_cons (pv 1) (pa_cons (pv 2) pa_nil))))))
  (pss_one (ps_for (passes_of rfl) rfl (pi_enumT (K := K) rfl T.enumerate (pa_cons (pv 0) pa_nil)) (pgTup (K := K) (by rfl) (pgs_cons (pg_name (i := 1) scneed_program.nd rfl (Or.inl rfl)) (pgs_cons (pg_name (i := 2) scneed_program.nd rfl (Or.inl rfl)) pgs_nil)))
   (pss_one (ps_expr (pcallX C_need_body (takes_of rfl rfl rfl rfl) (hr.mono (by first | exact Nat.le_of_ble_eq_true rfl | omega)) rfl (pa_cons (pv 0) (pa_cons (pv 1) (pa_cons (pe_ix (ixT (K := K)) (pv 2) pe_int (fun _ _ => rfl)) (pa_cons pe_int (pa_cons pe_int pa_nil)))))))))))), ?_⟩
  walk_at "rd"
  cases d with
  | none =>
    cases hR
    refine r_or ?_
    walk_at "rd"
    exact r_raise (qe (fun ⟨_, z, _⟩ => by cases z) H Keep.refl)
  | bool _ =>
    cases hR
    refine r_or ?_
    walk_at "rd"
    exact r_raise (qe (fun ⟨_, z, _⟩ => by cases z) H Keep.refl)
  | int _ =>
    cases hR
    refine r_or ?_
    walk_at "rd"
    exact r_raise (qe (fun ⟨_, z, _⟩ => by cases z) H Keep.refl)
  | str _ =>
    cases hR
    refine r_or ?_
    walk_at "rd"
    exact r_raise (qe (fun ⟨_, z, _⟩ => by cases z) H Keep.refl)
  | list _ => cases hR
  | dict _ => cases hR
  | tuple ws =>
    obtain ⟨a, xs, rfl, hT, hx⟩ := id hR.tup_inv
    have lx := hx.length
    refine r_orP (a := !kb "tuple" "tuple") (b := !(decide (1 ≤ ws.length) && decide (ws.length ≤ 4))) (fun R hr => by walk_at "rd"; exact hr) (fun _ R hr => ?_) ?_
    · walk_at "rd"
      by_cases c1 : 1 ≤ ws.length
      · rw [if_pos (decide_eq_true (by omega))]
        walk_at "rd"
        have e : decide ((xs.length : Int) ≤ 4) = decide (ws.length ≤ 4) := decide_eq_decide.mpr (by omega)
        rw [e]
        rw [decide_eq_true c1, Bool.true_and] at hr
        exact hr
      · rw [if_neg (fun z => c1 (by have := of_decide_eq_true z; omega))]
        walk_at "rd"
        rw [decide_eq_false c1, Bool.false_and] at hr
        exact hr
    by_cases cl : 1 ≤ ws.length ∧ ws.length ≤ 4
    case neg =>
      have e : (decide (1 ≤ ws.length) && decide (ws.length ≤ 4)) = false := by
        rw [Bool.and_eq_false_iff, decide_eq_false_iff_not, decide_eq_false_iff_not]
        omega
      rw [if_pos (by rw [e]; exact (by decide +kernel : (!kb "tuple" "tuple" || !false) = true))]
      walk_at "rd"
      exact r_raise (qe (fun ⟨_, z, z2, _⟩ => by cases z; exact cl z2) H Keep.refl)
    rw [if_neg (by rw [decide_eq_true cl.1, decide_eq_true cl.2]; exact (by decide +kernel : ¬ (!kb "tuple" "tuple" || !(true && true)) = true))]
    walk_at "rd"
    refine forE (xs := xs) (fun i σ H' => (∃ x1 x2 : Option V, σ = [some (.ref a), x1, x2]) ∧ Keep [] H H' ∧ ∀ (j : Nat) (x : PyData), j < i → ws[j]? = some x → headD j x = true) ⟨⟨_, _, rfl⟩, Keep.refl, fun j x z => by omega⟩ (fun i σ H' _ hp => ?_) (fun i x T σ H' H1 hx' hp nT hT1 k1 => ?_) (fun σ H' hp => ?_)
    · obtain ⟨_, k, _⟩ := hp
      exact (keep_ts0 k).sqT hT
    · obtain ⟨⟨x1, x2, rfl⟩, k, ok⟩ := hp
      have hTT := SqT.of (K := K) hT1
      obtain ⟨d, ed, rd⟩ := hx.get' hx'
      walk_at "rd"
      refine r_callS ?_
      walk_at "rd"
      refine ask ⟨i, x, d, rfl, rd.ts ((keep_ts0 k).trans (keep_ts0 k1)), fun c => ?_, fun c => qe (fun ⟨_, z, _, z3, _⟩ => ?_) _ (k.trans k1)⟩
      case refine_2 =>
        cases z
        rw [z3 i d ed] at c
        cases c
      walk_at "rd"
      refine ⟨⟨_, _, rfl⟩, k.trans k1, fun j y hj ey => ?_⟩
      by_cases z : j < i
      · exact ok j y z ey
      · have : j = i := by omega
        subst this
        rw [ed] at ey
        cases ey
        exact c
    obtain ⟨⟨x1, x2, rfl⟩, k0, ok0⟩ := hp
    have ok : ∀ (j : Nat) (x : PyData), ws[j]? = some x → headD j x = true := fun j x e => ok0 j x (by have := (List.getElem?_eq_some_iff.mp e).1; omega) e
    have hd := heads_lie hT hx ok
    have hT0 := (keep_ts0 k0).sqT hT
    walk_at "rd"
    refine forE (xs := xs) (fun i σ H' => (∃ x1 x2 : Option V, σ = [some (.ref a), x1, x2]) ∧ Keep [] H H' ∧ ∀ (j : Nat) (x : PyData), j < i → ws[j]? = some x → bodyD (okSt (shD ws) j 5) (itemD x 2) = true ∧ cntB (cntSt 5) (itemD x 2) ≤ 100) ⟨⟨_, _, rfl⟩, k0, fun j x z => by omega⟩ (fun i σ H' _ hp => ?_) (fun i x T σ H' H1 hx' hp nT hT1 k1 => ?_) (fun σ H' hp => ?_)
    · obtain ⟨_, k, _⟩ := hp
      exact (keep_ts0 k).sqT hT
    · obtain ⟨⟨x1, x2, rfl⟩, k, okb⟩ := hp
      have hTT := SqT.of (K := K) hT1
      obtain ⟨d, ed, rd⟩ := hx.get' hx'
      have t1 := (keep_ts0 k).trans (keep_ts0 k1)
      obtain ⟨p, o, b, e, _⟩ := headD_inv (ok i d ed)
      have rd1 := rd.ts t1
      have hd2 := (hh.items.mem (List.mem_of_getElem? ed)).item 2
      have eb : itemD d 2 = b := by rw [e]; rfl
      rw [e] at rd1
      obtain ⟨wp, ys, rfl, hW, hy⟩ := rd1.tup_inv
      obtain ⟨v0, r0, rfl, g0, gr⟩ := hy.inv
      obtain ⟨v1, r1, rfl, g1, gr1⟩ := gr.inv
      obtain ⟨v2, r2, rfl, g2, gr2⟩ := gr1.inv
      cases gr2.inv0
      have a2 : atI [v0, v1, v2] 2 = some v2 := at2
      have li : i < (shD ws).length := by
        have := (List.getElem?_eq_some_iff.mp ed).1
        have ls : (shD ws).length = ws.length := List.length_map _
        omega
      rw [← eb] at g2
      walk_at "rd"
      refine r_callS ?_
      walk_at "rd"
      refine ask ⟨a, shD ws, i, 0, 0, v2, itemD d 2, rfl, hd.ts t1, li, g2, hd2, by omega, by omega, by omega, fun c1 c2 => ?_, fun c => qe (fun ⟨_, z, _, _, z4⟩ => c ?_) _ (k.trans k1)⟩
      case refine_2 =>
        cases z
        obtain ⟨z5, z6⟩ := z4 i d ed
        exact ⟨z5, by show 0 + cntB (cntSt 5) (itemD d 2) ≤ 100; omega⟩
      walk_at "rd"
      refine ⟨⟨_, _, rfl⟩, k.trans k1, fun j y hj ey => ?_⟩
      by_cases z : j < i
      · exact okb j y z ey
      · have : j = i := by omega
        subst this
        rw [ed] at ey
        cases ey
        exact ⟨c1, by have : 0 + cntB (cntSt 5) (itemD d 2) ≤ 100 := c2; omega⟩
    obtain ⟨⟨x3, x4, rfl⟩, k2, okb⟩ := hp
    exact q ⟨ws, rfl, cl, ok, fun i x e => okb i x (by have := (List.getElem?_eq_some_iff.mp e).1; omega) e⟩ _ k2
end
end
section
section
variable {P : Program} {w : World} {K : PySem.W.Frag} {mg : Str → Option Value} {base : Heap}
theorem lcTi' {σ : L2.St} {H : Hp} {Q : VK} {te : TE} {a : Addr} {xs : List V} {g : TG} {tt : TT} {vs : List Nat} (Pv : Addr → Nat → Hp → Prop) (h0 : ∀ E H1, H E = none → H1 E = some (.lst []) → Keep [] H H1 → Pv E 0 H1) (hG : ∀ E i H, i ≤ xs.length → Pv E i H → SqT K H a xs)
    (hs : ∀ E i x H, xs[i]? = some x → Pv E i H → g x (wipe σ vs) H fun σ2 H2 => wipe σ2 vs = wipe σ vs ∧ tt σ2 H2 fun b H3 => if b = true then te σ2 H3 fun y H4 => Acc E y H4 (Pv E (i + 1)) else Pv E (i + 1) H3) (hd : ∀ E H, Pv E xs.length H → Q (.ref E) H) : LcIt (Itt K a) g tt te vs σ H Q :=
  lcYi walk_tup Pv h0 hG (fun E i x H H' hi p y => by
    obtain ⟨rfl, e⟩ := y
    exact hs E i x H' e p) hd
noncomputable def flatD : PyData → Prop
  | .tuple _ => False
  | .list _ => False
  | .dict _ => False
  | _ => True
/-- as a thing may lie there: a text in front -/
inductive Tq : PyData → Prop
  | flat {d : PyData} : flatD d → Tq d
  | nil : Tq (.tuple [])
  | str {x : Str} {ds : List PyData} : ds.length ≤ 90000 → (∀ e ∈ ds, Tq e) → Tq (.tuple (.str x :: ds))
noncomputable def spLawNumber (K : PySem.W.Frag) : Sp := fun vs H Q _ => ∃ (v : V) (d : PyData) (k : Int), vs = [v, .int k] ∧ Rp K H v d ∧ Q (.bl (belowD k d)) H
noncomputable abbrev sL_is_number : Stmt := top 96
noncomputable abbrev nL_is_number : List Str := ["_law_part", "_law_below"]
noncomputable abbrev pL_is_number : List Str := ["_law_part", "_law_below"]
theorem scL_is_number : FnScope nL_is_number pL_is_number (defScope sL_is_number) := ⟨rfl, rfl, rfl, by decide +kernel, rfl, by decide +kernel, by decide +kernel⟩
noncomputable abbrev sL_is_thing : Stmt := top 97
noncomputable abbrev nL_is_thing : List Str := ["_law_thing_here", "_law_sizes", "_law_within", "_law_part"]
noncomputable abbrev pL_is_thing : List Str := ["_law_thing_here", "_law_sizes", "_law_within"]
theorem scL_is_thing : FnScope nL_is_thing pL_is_thing (defScope sL_is_thing) := ⟨rfl, rfl, rfl, by decide +kernel, rfl, by decide +kernel, by decide +kernel⟩
theorem okLawNumber (D : DefAt K mg "_law_is_number" sL_is_number pL_is_number) (T : Blt mg) : Callee P w K mg base "_law_is_number" 1 pL_is_number (spLawNumber K) := by
  refine D.ok scL_is_number (fun vs H Q E h => ?_) (fun f cdv A outer s H vs Q E hr h => ?_)
  · obtain ⟨v, d, k, rfl, _⟩ := h
    rfl
  obtain ⟨v, d, k, rfl, hR, q⟩ := h
  refine ⟨_, (pss_one (ps_ret (pe_and (pe_callB (cIsi (K := K)) (by rfl) T.isinstance (by decide +kernel) (pa_cons (pv 0) (pa_cons (pe_bltn rfl T.int (by decide +kernel) (v := .ty "int") rfl) pa_nil))) (pe_and (pe_not (pe_callB (cIsi (K := K)) (by rfl) T.isinstance (by decide +kernel) (pa_cons (pv 0) (pa_cons (pe_bltn rfl T.bool (by decide +kernel) (v := .ty "bool") rfl) pa_nil)))) (pe_one (pe_chain op_le op_lt pe_int (pv 0) (pv 1))))))), ?_⟩
  walk_at "rd"
  cases d with
  | none => cases hR; walk_at "rd"; exact q
  | bool b => cases hR; walk_at "rd"; exact q
  | str x => cases hR; walk_at "rd"; exact q
  | list _ => cases hR
  | dict _ => cases hR
  | tuple ds =>
    obtain ⟨a, xs, rfl, hT, _⟩ := hR.tup_inv
    walk_at "rd"
    exact q
  | int i =>
    cases hR
    walk_at "rd"
    have e : belowD k (.int i) = (decide (0 ≤ i) && decide (i < k)) := rfl
    rw [e] at q
    refine cases_b (decide (0 ≤ i)) (fun c => ?_) (fun c => ?_)
    · rw [if_pos c]
      walk_at "rd"
      rw [c, Bool.true_and] at q
      exact q
    · rw [if_neg (by rw [c]; exact Bool.false_ne_true)]
      rw [c, Bool.false_and] at q
      exact q
theorem okTh_flat {ps os : Int} {d : PyData} (h : flatD d) : ∀ {n : Nat}, okTh ps os n d = false
  | 0 => rfl
  | n + 1 => by
    cases e : okTh ps os (n + 1) d with
    | false => rfl
    | true =>
      obtain ⟨x, ds, rfl⟩ := okTh_str e
      exact h.elim
/-- which words, with how many items -/
theorem okTh_inv {ps os : Int} {n : Nat} {x : Str} {ds : List PyData} (h : okTh ps os n (.tuple (.str x :: ds)) = true) : (x = "sum" ∧ ds.length = 2) ∨ ((x = "cell" ∨ x = "num" ∨ x = "own" ∨ x = "par") ∧ ds.length = 1) := by
  have sh : ∀ {y : Str} {k : Int}, shapedD (.str y) k (.tuple (.str x :: ds)) = true → x = y ∧ ((ds.length + 1 : Nat) : Int) = k := fun {y k} e => by
    have e' := e
    rw [shapedD_str, Bool.and_eq_true, decide_eq_true_eq, List.length_cons] at e'
    exact ⟨eq_of_beq e'.2, e'.1⟩
  cases n with
  | zero => cases h
  | succ n =>
    unfold okTh at h
    split at h
    · rename_i c; obtain ⟨a, b⟩ := sh c; exact .inl ⟨a, by omega⟩
    split at h
    · rename_i c; obtain ⟨a, b⟩ := sh c; exact .inr ⟨.inl a, by omega⟩
    unfold plainD at h
    split at h
    · rename_i c; obtain ⟨a, b⟩ := sh c; exact .inr ⟨.inr (.inl a), by omega⟩
    split at h
    · rename_i c; obtain ⟨a, b⟩ := sh c; exact .inr ⟨.inr (.inr (.inl a)), by omega⟩
    · rw [Bool.and_eq_true] at h
      obtain ⟨a, b⟩ := sh h.1
      exact .inr ⟨.inr (.inr (.inr a)), by omega⟩
theorem okTh_sum {ps os : Int} {n : Nat} {ds : List PyData} (l : ds.length = 2) : okTh ps os (n + 1) (.tuple (.str "sum" :: ds)) = ds.all (okTh ps os n) := by
  obtain ⟨a, b, rfl⟩ : ∃ a b, ds = [a, b] := by
    match ds, l with
    | [a, b], _ => exact ⟨a, b, rfl⟩
  unfold okTh
  rw [if_pos (show shapedD (.str "sum") 3 (.tuple [.str "sum", a, b]) = true from shapedD_str.trans (by decide +kernel : (decide ((3 : Int) = 3) && (("sum" : Str) == "sum")) = true))]
  show (okTh ps os n a && okTh ps os n b) = (okTh ps os n a && (okTh ps os n b && true))
  rw [Bool.and_true]
theorem okTh_cell {ps os : Int} {n : Nat} {ds : List PyData} (l : ds.length = 1) : okTh ps os (n + 1) (.tuple (.str "cell" :: ds)) = ds.all (okTh ps os n) := by
  obtain ⟨a, rfl⟩ : ∃ a, ds = [a] := by
    match ds, l with
    | [a], _ => exact ⟨a, rfl⟩
  unfold okTh
  rw [if_neg (show ¬ shapedD (.str "sum") 3 (.tuple [.str "cell", a]) = true by rw [shapedD_str]; exact (by decide +kernel : ¬ (decide ((2 : Int) = 3) && (("cell" : Str) == "sum")) = true)),
    if_pos (show shapedD (.str "cell") 2 (.tuple [.str "cell", a]) = true from shapedD_str.trans (by decide +kernel : (decide ((2 : Int) = 2) && (("cell" : Str) == "cell")) = true))]
  show okTh ps os n a = (okTh ps os n a && true)
  rw [Bool.and_true]
theorem okTh_low {ps os : Int} {n : Nat} {x : Str} {a : PyData} (h1 : ¬ x = "cell") : okTh ps os (n + 1) (.tuple [.str x, a]) = plainD ps os (.tuple [.str x, a]) := by
  unfold okTh
  rw [if_neg (show ¬ shapedD (.str "sum") 3 (.tuple [.str x, a]) = true by rw [shapedD_str]; exact (fun z => by rw [Bool.and_eq_true, decide_eq_true_eq] at z; have := z.1; simp at this)),
    if_neg (show ¬ shapedD (.str "cell") 2 (.tuple [.str x, a]) = true by rw [shapedD_str]; exact (fun z => by rw [Bool.and_eq_true] at z; exact h1 (eq_of_beq z.2)))]
theorem okTh_num {ps os : Int} {n : Nat} {a : PyData} : okTh ps os (n + 1) (.tuple [.str "num", a]) = belowD 3 a := by
  rw [okTh_low (by decide +kernel)]
  unfold plainD
  rw [if_pos (show shapedD (.str "num") 2 (.tuple [.str "num", a]) = true from shapedD_str.trans (by decide +kernel : (decide ((2 : Int) = 2) && (("num" : Str) == "num")) = true))]
  rfl
theorem okTh_own {ps os : Int} {n : Nat} {a : PyData} : okTh ps os (n + 1) (.tuple [.str "own", a]) = belowD os a := by
  rw [okTh_low (by decide +kernel)]
  unfold plainD
  rw [if_neg (show ¬ shapedD (.str "num") 2 (.tuple [.str "own", a]) = true by rw [shapedD_str]; exact (by decide +kernel : ¬ (decide ((2 : Int) = 2) && (("own" : Str) == "num")) = true)),
    if_pos (show shapedD (.str "own") 2 (.tuple [.str "own", a]) = true from shapedD_str.trans (by decide +kernel : (decide ((2 : Int) = 2) && (("own" : Str) == "own")) = true))]
  rfl
theorem okTh_par {ps os : Int} {n : Nat} {a : PyData} : okTh ps os (n + 1) (.tuple [.str "par", a]) = belowD ps a := by
  rw [okTh_low (by decide +kernel)]
  unfold plainD
  rw [if_neg (show ¬ shapedD (.str "num") 2 (.tuple [.str "par", a]) = true by rw [shapedD_str]; exact (by decide +kernel : ¬ (decide ((2 : Int) = 2) && (("par" : Str) == "num")) = true)),
    if_neg (show ¬ shapedD (.str "own") 2 (.tuple [.str "par", a]) = true by rw [shapedD_str]; exact (by decide +kernel : ¬ (decide ((2 : Int) = 2) && (("par" : Str) == "own")) = true)),
    show shapedD (.str "par") 2 (.tuple [.str "par", a]) = true from shapedD_str.trans (by decide +kernel : (decide ((2 : Int) = 2) && (("par" : Str) == "par")) = true), Bool.true_and]
  rfl
theorem inV_strs' {x : Str} {l : List Str} : inV (V.str x) (l.map V.str) = decide (x ∈ l) := by
  unfold inV
  rw [List.any_map, Bool.eq_iff_iff, List.any_eq_true, decide_eq_true_eq]
  constructor
  · rintro ⟨y, hy, e⟩
    have e' : (y == x) = true := e
    rw [eq_of_beq e'] at hy
    exact hy
  · intro h
    exact ⟨x, h, (beq_self_eq_true x : (x == x) = true)⟩
theorem inV_ints' {i : Int} {l : List Int} : inV (V.int i) (l.map V.int) = decide (i ∈ l) := by
  unfold inV
  rw [List.any_map, Bool.eq_iff_iff, List.any_eq_true, decide_eq_true_eq]
  constructor
  · rintro ⟨y, hy, e⟩
    have e' : (y == i) = true := e
    rw [eq_of_beq e'] at hy
    exact hy
  · intro h
    exact ⟨i, h, (beq_self_eq_true i : (i == i) = true)⟩
theorem cutV_tail' {x : V} {xs : List V} : cutV (x :: xs) (some 1) none = xs := by
  unfold cutV HT.sIx
  simp
noncomputable def spLawIsThing (K : PySem.W.Frag) (n : Nat) : Sp := fun vs H Q _ => ∃ (v : V) (sz : Addr) (d : PyData) (ps os : Int) (i : Nat), vs = [v, .ref sz, .int (i : Int)] ∧ SqT K H sz [.int ps, .int os] ∧ Rp K H v d ∧ Tq d ∧ i ≤ 5 ∧ 6 ≤ n + i ∧ ∀ H', Keep [] H H' → Q (.bl (okTh ps os (5 - i) d)) H'
theorem okLawIsThing (D : DefAt K mg "_law_is_thing" sL_is_thing pL_is_thing) (T : Blt mg) (C_law_is_number : Callee P w K mg base "_law_is_number" 1 pL_is_number (spLawNumber K)) : ∀ n : Nat, Callee P w K mg base "_law_is_thing" (n + 2) pL_is_thing (spLawIsThing K n)
  | 0 => D.none fun vs H Q E h => by
    obtain ⟨v, sz, d, ps, os, i, rfl, _, _, _, h1, h2, _⟩ := h
    omega
  | n + 1 => by
    have C_law_is_thing := okLawIsThing D T C_law_is_number n
    refine D.ok scL_is_thing (fun vs H Q E h => ?_) (fun f cdv A outer s H vs Q E hr h => ?_)
    · obtain ⟨v, sz, d, ps, os, i, rfl, _⟩ := h
      rfl
    obtain ⟨v, sz, d, ps, os, i, rfl, hZ, hR, tq, i5, ni, q⟩ := h
    refine ⟨_, (pss_cons (ps_if (PW.pt (pw_or (pt_not (pt_val (pe_callB (cIsi (K := K)) (by rfl) T.isinstance (by decide +kernel) (pa_cons (pv 0) (pa_cons (pe_bltn rfl T.tuple (by decide +kernel) (v := .ty "tuple") rfl) pa_nil))))) (pw_or (pt_cmpR op_gt (pv 2) pe_int (nomark _)) (pw_or1 (pt_cmpR (opNotIn (K := K)) (pe_callB (cLen (K := K)) (by rfl) T.len PySem.boot_len (pa_cons (pv 0) pa_nil)) (pe_tup (pa_cons pe_int (pa_cons pe_int pa_nil))) (by with_unfolding_all rfl)))))) (pss_one (ps_ret pe_bl)) pss_nil)
  (pss_cons (ps_if (PW.pt (pw_or (pt_cmpR (opNotIn (K := K)) (pe_ix (ixT (K := K)) (pv 0) pe_int (fun _ _ => rfl)) (pe_tup (pa_cons pe_str (pa_cons pe_str (pa_cons pe_str (pa_cons pe_str (pa_cons pe_str pa_nil)))))) (by with_unfolding_all rfl)) (pw_or1 (pt_cmpR op_ne (pe_cmpR op_eq (pe_ix (ixT (K := K)) (pv 0) pe_int (fun _ _ => rfl)) pe_str (nomark _)) (pe_cmpR op_eq (pe_callB (cLen (K := K)) (by rfl) T.len PySem.boot_len (pa_cons (pv 0) pa_nil)) pe_int (nomark _)) (nomark _))))) (pss_one (ps_ret pe_bl)) pss_nil)
  (pss_cons (ps_if (pt_cmpR (opIn (K := K)) (pe_ix (ixT (K := K)) (pv 0) pe_int (fun _ _ => rfl)) (pe_tup (pa_cons pe_str (pa_cons pe_str pa_nil))) (by with_unfolding_all rfl)) (pss_one (ps_ret (pe_cmpR (opEqE (K := K) hr.units0) (pe_lc (own := [("_law_part", 3)]) (g := gName 3) (by rfl) scL_is_thing.nd (piTup (K := K) (pe_slice (slA (K := K)) (pv 0) (po_some pe_int) po_none)) (blkOk_by (own := [("_law_part", 3)]) (N := nL_is_thing) (sc := defScope sL_is_thing) (by decide +kernel)) (fun _ _ _ _ _ => (pg_name (i := 3) scL_is_thing.nd rfl (Or.inl rfl))) (fun _ _ _ _ _ => (pts_one (pt_not (pt_val (pcall C_law_is_thing (hr.mono (by first | exact Nat.le_of_ble_eq_true rfl | omega)) rfl (pa_cons (pv 3) (pa_cons (pv 1) (pa_cons (pe_op op_add (pv 2) pe_int) pa_nil)))))))) (fun _ _ _ _ _ => (pv 3))) (pe_lst pa_nil) (nomark _)))) pss_nil)
  (pss_one (ps_ret (pcall C_law_is_number (hr.mono (by first | exact Nat.le_of_ble_eq_true rfl | omega)) rfl (pa_cons (pe_ix (ixT (K := K)) (pv 0) pe_int (fun _ _ => rfl)) (pa_cons (pe_dget (hu_of hr) (pe_disp (pps_cons pe_str pe_int (pps_cons pe_str (pe_ix (ixT (K := K)) (pv 1) pe_int (fun _ _ => rfl)) (pps_cons pe_str (pe_ix (ixT (K := K)) (pv 1) pe_int (fun _ _ => rfl)) pps_nil))) (by rfl) (by rfl) (fun z => by cases z) (by decide)) (pe_ix (ixT (K := K)) (pv 0) pe_int (fun _ _ => rfl)) (fun _ _ => rfl)) pa_nil)))))))), ?_⟩
    walk_at "rd"
    cases tq with
    | flat hf =>
      rw [okTh_flat hf] at q
      cases hR with
      | tup _ _ => exact hf.elim
      | _ =>
        refine r_or ?_
        walk_at "rd"
        exact q H Keep.refl
    | nil =>
      obtain ⟨a, xs, rfl, hT, hx⟩ := hR.tup_inv
      cases hx.inv0
      have e : okTh ps os (5 - i) (.tuple []) = false := by
        cases c : okTh ps os (5 - i) (.tuple []) with
        | false => rfl
        | true => obtain ⟨x, ds, e⟩ := okTh_str c; cases e
      rw [e] at q
      refine r_or ?_
      walk_at "rd"
      refine r_or ?_
      walk_at "rd"
      refine ite2 (fun c => ?_) (fun c => ?_)
      · walk_at "rd"
        exact q H Keep.refl
      · walk_at "rd"
        intro p1 H1 n1 h1 k1
        walk_at "rd"
        exact q H1 k1
    | @str x ds lds tqs =>
      obtain ⟨a, xs, rfl, hT, hx⟩ := hR.tup_inv
      obtain ⟨v0, r, rfl, h0, hr'⟩ := hx.inv
      cases h0.str_inv
      have lr := hr'.length
      have a0 : atI (V.str x :: r) 0 = some (.str x) := at0
      refine r_or ?_
      walk_at "rd"
      refine r_or ?_
      walk_at "rd"
      refine ite2 (fun c => ?_) (fun c => ?_)
      · have : (4 : Int) < (i : Int) := of_decide_eq_true c
        have e : 5 - i = 0 := by omega
        rw [e] at q
        walk_at "rd"
        exact q H Keep.refl
      have i4 : i ≤ 4 := by
        have : ¬ (4 : Int) < (i : Int) := fun z => c (decide_eq_true z)
        omega
      have e5 : 5 - i = (4 - i) + 1 := by omega
      have e4 : 5 - (i + 1) = 4 - i := by omega
      rw [e5] at q
      walk_at "rd"
      intro p1 H1 n1 h1 k1
      have hT1 := (keep_ts0 k1).sqT hT
      walk_at "rd"
      have lx : ((V.str x :: r).length : Int) = (ds.length : Int) + 1 := by rw [List.length_cons, lr]; rfl
      have ei : inV (V.int ((V.str x :: r).length : Int)) [V.int 2, V.int 3] = decide (ds.length = 1 ∨ ds.length = 2) := by
        rw [show [V.int 2, V.int 3] = ([2, 3] : List Int).map V.int from rfl, inV_ints', lx]
        refine decide_eq_decide.mpr ?_
        simp only [List.mem_cons, List.not_mem_nil, or_false]
        omega
      have no : ∀ H', Keep [] H H' → okTh ps os (4 - i + 1) (.tuple (.str x :: ds)) = false → Q (.bl false) H' := fun H' k e => by
        rw [e] at q
        exact q H' k
      rw [if_pos rfl, ei]
      by_cases cl : ds.length = 1 ∨ ds.length = 2
      case neg =>
        rw [decide_eq_false cl]
        walk_at "rd"
        refine no H1 k1 ?_
        cases e : okTh ps os (4 - i + 1) (.tuple (.str x :: ds)) with
        | false => rfl
        | true => exact absurd (okTh_inv e) (by omega)
      rw [decide_eq_true cl]
      walk_at "rd"
      refine r_or ?_
      walk_at "rd"
      intro p2 H2 n2 h2 k2
      have hT2 := (keep_ts0 k2).sqT hT1
      have k02 := k1.trans k2
      walk_at "rd"
      have ew : inV (V.str x) [V.str "num", V.str "own", V.str "par", V.str "cell", V.str "sum"] = decide (x ∈ (["num", "own", "par", "cell", "sum"] : List Str)) := inV_strs' (l := ["num", "own", "par", "cell", "sum"])
      rw [if_pos rfl, ew]
      by_cases cw : x ∈ (["num", "own", "par", "cell", "sum"] : List Str)
      case neg =>
        rw [decide_eq_false cw]
        walk_at "rd"
        refine no H2 k02 ?_
        cases e : okTh ps os (4 - i + 1) (.tuple (.str x :: ds)) with
        | false => rfl
        | true =>
          refine absurd ?_ cw
          rcases okTh_inv e with ⟨rfl, _⟩ | ⟨rfl | rfl | rfl | rfl, _⟩ <;> simp
      rw [decide_eq_true cw]
      walk_at "rd"
      have eq3 : decide (V.int ((V.str x :: r).length : Int) = V.int 3) = decide (ds.length = 2) := decide_eq_decide.mpr ⟨fun z => by have := V.int.inj z; omega, fun z => by rw [lx, z]; rfl⟩
      have eqs : decide (V.str x = V.str "sum") = decide (x = "sum") := decide_eq_decide.mpr ⟨V.str.inj, congrArg V.str⟩
      rw [eq3, eqs]
      by_cases cb : (x = "sum" ↔ ds.length = 2)
      case neg =>
        have e : decide (V.bl (decide (x = "sum")) = V.bl (decide (ds.length = 2))) = false := decide_eq_false fun z => cb (decide_eq_decide.mp (V.bl.inj z))
        rw [e]
        walk_at "rd"
        refine no H2 k02 ?_
        cases e : okTh ps os (4 - i + 1) (.tuple (.str x :: ds)) with
        | false => rfl
        | true =>
          refine absurd ?_ cb
          rcases okTh_inv e with ⟨rfl, l⟩ | ⟨h, l⟩
          · exact ⟨fun _ => l, fun _ => rfl⟩
          · refine ⟨fun z => ?_, fun z => by omega⟩
            subst z
            exact absurd h (by decide +kernel)
      have ebl : decide (V.bl (decide (x = "sum")) = V.bl (decide (ds.length = 2))) = true := decide_eq_true (by rw [decide_eq_decide.mpr cb])
      rw [ebl]
      walk_at "rd"
      intro p3 H3 n3 h3 k3
      have hT3 := (keep_ts0 k3).sqT hT2
      have k03 := k02.trans k3
      walk_at "rd"
      have ew2 : inV (V.str x) [V.str "cell", V.str "sum"] = decide (x ∈ (["cell", "sum"] : List Str)) := inV_strs' (l := ["cell", "sum"])
      rw [if_neg Bool.false_ne_true, ew2]
      by_cases cc : x ∈ (["cell", "sum"] : List Str)
      · rw [decide_eq_true cc]
        have all : okTh ps os (4 - i + 1) (.tuple (.str x :: ds)) = ds.all (okTh ps os (4 - i)) := by
          rcases List.mem_cons.mp cc with rfl | cc
          · exact okTh_cell (by rcases cl with l | l; exact l; exact absurd (cb.mpr l) (by decide +kernel))
          · cases List.mem_singleton.mp cc
            exact okTh_sum (cb.mp rfl)
        rw [all] at q
        walk_at "rd"
        intro sl H4 hsl k4 f4
        rw [cutV_tail'] at hsl
        have k04 := k03.trans k4
        walk_at "rd"
        refine lcTi' (xs := r) (fun E j H' => ∃ ys : List V, H4 E = none ∧ Keep [] H4 H' ∧ H' E = some (.lst ys) ∧ ys.length ≤ j ∧ ys.isEmpty = (ds.take j).all (okTh ps os (4 - i))) (fun E H5 nE e5 k5 => ⟨[], nE, k5, e5, Nat.le_refl _, rfl⟩) (fun E j H5 _ hp => ?_) (fun E j y H5 hy hp => ?_) (fun E H5 hp => ?_)
        · obtain ⟨ys, nE, k5, _⟩ := hp
          exact (keep_ts0 k5).sqT hsl
        · obtain ⟨ys, nE, k5, h5, ly, ey⟩ := hp
          obtain ⟨dd, ed, rd⟩ := hr'.get' hy
          have mem := List.mem_of_getElem? ed
          have lt : ys.length ≤ 90000 := by have := (List.getElem?_eq_some_iff.mp hy).1; omega
          have tk1 : ds.take (j + 1) = ds.take j ++ [dd] := by rw [List.take_add_one, ed]; rfl
          have al : (ds.take (j + 1)).all (okTh ps os (4 - i)) = ((ds.take j).all (okTh ps os (4 - i)) && okTh ps os (4 - i) dd) := by
            rw [tk1, List.all_append]
            show (_ && (okTh ps os (4 - i) dd && true)) = _
            rw [Bool.and_true]
          walk_at "rd"
          refine ⟨rfl, ?_⟩
          walk_at "rd"
          refine ask ⟨y, sz, dd, ps, os, i + 1, by rw [Int.natCast_add]; rfl, (keep_ts0 (k04.trans k5)).sqT hZ, rd.ts (keep_ts0 (k04.trans k5)), tqs dd mem, by omega, by omega, fun H6 k6 => ?_⟩
          have h6 := k6 _ _ h5 (by simp)
          rw [e4]
          walk_at "rd"
          refine cases_b (okTh ps os (4 - i) dd) (fun c => ?_) (fun c => ?_)
          · rw [c, if_neg (by decide)]
            exact ⟨ys, nE, k5.trans k6, h6, by omega, by rw [al, c, Bool.and_true]; exact ey⟩
          · rw [c, if_pos (by decide)]
            walk_at "rd"
            intro H7 h7 k7
            refine ⟨_, nE, (k5.trans k6).fresh1 k7 nE, h7, by rw [List.length_append]; show ys.length + 1 ≤ _; omega, ?_⟩
            rw [al, c, Bool.and_false]
            cases ys <;> rfl
        · obtain ⟨ys, nE, k5, h5, ly, ey⟩ := hp
          rw [List.take_of_length_le (by omega)] at ey
          walk_at "rd"
          intro el H6 nel hel k6
          have h6 := k6 _ _ h5 (by simp)
          walk_at "rd"
          refine r_eqEL (SqL.of h6) (SqL.of hel) ?_
          rw [ey]
          exact q H6 ((k04.trans k5).trans k6)
      · rw [decide_eq_false cc]
        have l1 : ds.length = 1 := by
          rcases cl with l | l
          · exact l
          · exact absurd (by rw [cb.mpr l]; simp) cc
        obtain ⟨d1, rfl⟩ : ∃ d1, ds = [d1] := by
          match ds, l1 with
          | [d1], _ => exact ⟨d1, rfl⟩
        obtain ⟨v1, r1, rfl, g1, gr⟩ := hr'.inv
        cases gr.inv0
        have a1 : atI [V.str x, v1] 1 = some v1 := at1
        have z0 : atI [V.int ps, V.int os] 0 = some (.int ps) := at0
        have z1 : atI [V.int ps, V.int os] 1 = some (.int os) := at1
        have hZ3 := (keep_ts0 k03).sqT hZ
        have x3 : x = "num" ∨ x = "par" ∨ x = "own" := by
          simp only [List.mem_cons, List.not_mem_nil, or_false] at cw cc
          rcases cw with h | h | h | h | h
          · exact .inl h
          · exact .inr (.inr h)
          · exact .inr (.inl h)
          · exact absurd (.inl h) cc
          · exact absurd (.inr h) cc
        walk_at "rd"
        intro dp H4 n4 h4 k4
        have hZ4 := (keep_ts0 k4).sqT hZ3
        have hT4 := (keep_ts0 k4).sqT hT3
        walk_at "rd"
        refine disp [(.inr "num", .int 3), (.inr "par", .int ps), (.inr "own", .int os)] h4 rfl (by show 3 ≤ 15; omega) (by show ([.inr ("num" : Str), .inr ("par" : Str), .inr ("own" : Str)] : List Key).Nodup; decide +kernel) fun H5 h5 k5 => ?_
        have t45 : Tst H4 H5 := k5.ts fun y hy => by cases List.mem_singleton.mp hy; exact .inr (.inl ⟨_, h4⟩)
        have hT5 := t45.sqT hT4
        have k35 : Keep [] H3 H5 := k4.fresh1 k5 n4
        have g5 := g1.ts (keep_ts0 (k03.trans k35))
        have vn : valV [((.inr ("num" : Str) : Key), V.int 3), (.inr "par", .int ps), (.inr "own", .int os)] (.inr "num") = some (.int 3) := by rfl
        have vp : valV [((.inr ("num" : Str) : Key), V.int 3), (.inr "par", .int ps), (.inr "own", .int os)] (.inr "par") = some (.int ps) := by
          unfold valV
          rw [List.find?_cons_of_neg (by show ¬ decide ((.inr ("num" : Str) : Key) = .inr ("par" : Str)) = true; decide +kernel), List.find?_cons_of_pos (by show decide ((.inr ("par" : Str) : Key) = .inr ("par" : Str)) = true; decide +kernel)]
          rfl
        have vo : valV [((.inr ("num" : Str) : Key), V.int 3), (.inr "par", .int ps), (.inr "own", .int os)] (.inr "own") = some (.int os) := by
          unfold valV
          rw [List.find?_cons_of_neg (by show ¬ decide ((.inr ("num" : Str) : Key) = .inr ("own" : Str)) = true; decide +kernel), List.find?_cons_of_neg (by show ¬ decide ((.inr ("par" : Str) : Key) = .inr ("own" : Str)) = true; decide +kernel), List.find?_cons_of_pos (by show decide ((.inr ("own" : Str) : Key) = .inr ("own" : Str)) = true; decide +kernel)]
          rfl
        walk_at "rd"
        rcases x3 with rfl | rfl | rfl
        · refine r_dgetS h5 vn ?_
          walk_at "rd"
          refine ask ⟨v1, d1, 3, rfl, g5, ?_⟩
          rw [okTh_num] at q
          exact q H5 (k03.trans k35)
        · refine r_dgetS h5 vp ?_
          walk_at "rd"
          refine ask ⟨v1, d1, ps, rfl, g5, ?_⟩
          rw [okTh_par] at q
          exact q H5 (k03.trans k35)
        · refine r_dgetS h5 vo ?_
          walk_at "rd"
          refine ask ⟨v1, d1, os, rfl, g5, ?_⟩
          rw [okTh_own] at q
          exact q H5 (k03.trans k35)
end
end
section
section
variable {P : Program} {w : World} {K : PySem.W.Frag} {mg : Str → Option Value} {base : Heap}
noncomputable def Cq (d : PyData) : Prop := ∀ ts, d = .tuple ts → ts.length ≤ 90000 ∧ ∀ t ∈ ts, Tq t
mutual
inductive Sq : PyData → Prop
  | flat {d : PyData} : flatD d → Sq d
  | nil : Sq (.tuple [])
  | other {x : Str} {ds : List PyData} : x ≠ "if" → x ≠ "call" → ds.length ≤ 90000 → (∀ e ∈ ds, Tq e) → Sq (.tuple (.str x :: ds))
  | ite0 : Sq (.tuple [.str "if"])
  | ite {t : PyData} {bs : List PyData} : bs.length ≤ 90000 → Tq t → (∀ e ∈ bs, Bq e) → Sq (.tuple (.str "if" :: t :: bs))
  | call {ds : List PyData} : ds.length ≤ 90000 → (∀ e, ds[1]? = some e → Cq e) → Sq (.tuple (.str "call" :: ds))
inductive Bq : PyData → Prop
  | flat {d : PyData} : flatD d → Bq d
  | tup {ss : List PyData} : ss.length ≤ 90000 → (∀ s ∈ ss, Sq s) → Bq (.tuple ss)
end
theorem Sq.cases {d : PyData} (h : Sq d) : flatD d ∨ d = .tuple [] ∨ ∃ x ds, d = .tuple (.str x :: ds) ∧ ds.length ≤ 90001 := by
  cases h with
  | flat h => exact .inl h
  | nil => exact .inr (.inl rfl)
  | other _ _ l _ => exact .inr (.inr ⟨_, _, rfl, by omega⟩)
  | ite0 => exact .inr (.inr ⟨_, _, rfl, by simp⟩)
  | ite l _ _ => exact .inr (.inr ⟨_, _, rfl, by rw [List.length_cons]; omega⟩)
  | call l _ => exact .inr (.inr ⟨_, _, rfl, by omega⟩)
theorem Sq.things {x : Str} {ds : List PyData} (h : Sq (.tuple (.str x :: ds))) (n1 : x ≠ "if") (n2 : x ≠ "call") : ∀ e ∈ ds, Tq e := by
  cases h with
  | flat h => exact h.elim
  | other _ _ _ g => exact g
  | ite0 => exact absurd rfl n1
  | ite _ _ _ => exact absurd rfl n1
  | call _ _ => exact absurd rfl n2
theorem Sq.ites {t b c : PyData} (h : Sq (.tuple [.str "if", t, b, c])) : Tq t ∧ Bq b ∧ Bq c := by
  cases h with
  | flat h => exact h.elim
  | other n1 _ _ _ => exact absurd rfl n1
  | ite _ g1 g2 => exact ⟨g1, g2 b (by simp), g2 c (by simp)⟩
theorem Sq.calls {c t : PyData} (h : Sq (.tuple [.str "call", c, t])) : Cq t := by
  cases h with
  | flat h => exact h.elim
  | other _ n2 _ _ => exact absurd rfl n2
  | call _ g => exact g t rfl
theorem okSt_inv {sh : List (Nat × Nat)} {i n : Nat} {x : Str} {ds : List PyData} (h : okSt sh i n (.tuple (.str x :: ds)) = true) : (x = "set" ∧ ds.length = 2) ∨ (x = "say" ∧ ds.length = 1) ∨ (x = "if" ∧ ds.length = 3) ∨ (x = "call" ∧ ds.length = 2) := by
  have sp : ∀ {y : Str} {k : Int}, shapedD (.str y) k (.tuple (.str x :: ds)) = true → x = y ∧ ((ds.length + 1 : Nat) : Int) = k := fun {y k} e => by
    have e' := e
    rw [shapedD_str, Bool.and_eq_true, decide_eq_true_eq, List.length_cons] at e'
    exact ⟨eq_of_beq e'.2, e'.1⟩
  cases n with
  | zero => cases h
  | succ n =>
    unfold okSt at h
    split at h
    · rename_i c; obtain ⟨a, b⟩ := sp c; exact .inl ⟨a, by omega⟩
    split at h
    · rename_i c; obtain ⟨a, b⟩ := sp c; exact .inr (.inl ⟨a, by omega⟩)
    split at h
    · rename_i c; obtain ⟨a, b⟩ := sp c; exact .inr (.inr (.inl ⟨a, by omega⟩))
    · rw [Bool.and_eq_true] at h
      obtain ⟨a, b⟩ := sp h.1
      exact .inr (.inr (.inr ⟨a, by omega⟩))
theorem sd_no {x y : Str} {ds : List PyData} {k : Int} (h : ¬ x = y) : ¬ shapedD (.str y) k (.tuple (.str x :: ds)) = true := by
  rw [shapedD_str, Bool.and_eq_true]
  exact fun z => h (eq_of_beq z.2)
theorem sd_yes {x : Str} {ds : List PyData} {k : Int} (h : ((ds.length + 1 : Nat) : Int) = k) : shapedD (.str x) k (.tuple (.str x :: ds)) = true := by
  rw [shapedD_str, Bool.and_eq_true, decide_eq_true_eq, List.length_cons]
  exact ⟨h, beq_self_eq_true x⟩
section
variable {sh : List (Nat × Nat)} {i n : Nat} {a b c : PyData}
theorem okSt_set : okSt sh i (n + 1) (.tuple [.str "set", a, b]) = ((okT sh i a && placeD a) && okT sh i b) := by
  unfold okSt
  rw [if_pos (sd_yes (x := "set") (ds := [a, b]) (k := 3) rfl)]
  rfl
theorem okSt_say : okSt sh i (n + 1) (.tuple [.str "say", a]) = okT sh i a := by
  unfold okSt
  rw [if_neg (sd_no (by decide +kernel)), if_pos (sd_yes (x := "say") (ds := [a]) (k := 2) rfl)]
  rfl
theorem okSt_ite : okSt sh i (n + 1) (.tuple [.str "if", a, b, c]) = (okT sh i a && (bodyD (okSt sh i n) b && bodyD (okSt sh i n) c)) := by
  show (if shapedD (.str "set") 3 (.tuple [.str "if", a, b, c]) = true then _ else if shapedD (.str "say") 2 (.tuple [.str "if", a, b, c]) = true then _ else if shapedD (.str "if") 4 (.tuple [.str "if", a, b, c]) = true then _ else _) = _
  rw [if_neg (sd_no (by decide +kernel)), if_neg (sd_no (by decide +kernel)), if_pos (sd_yes (x := "if") (ds := [a, b, c]) (k := 4) rfl)]
  rfl
theorem okSt_call : okSt sh i (n + 1) (.tuple [.str "call", a, b]) = callD sh i a b := by
  show (if shapedD (.str "set") 3 (.tuple [.str "call", a, b]) = true then _ else if shapedD (.str "say") 2 (.tuple [.str "call", a, b]) = true then _ else if shapedD (.str "if") 4 (.tuple [.str "call", a, b]) = true then _ else _) = _
  rw [if_neg (sd_no (by decide +kernel)), if_neg (sd_no (by decide +kernel)), if_neg (sd_no (by decide +kernel)), sd_yes (x := "call") (ds := [a, b]) (k := 3) rfl, Bool.true_and]
  rfl
end
/-- the shapes lie there, a list of pairs -/
noncomputable def Shs (K : PySem.W.Frag) (H : Hp) (s : Addr) (sh : List (Nat × Nat)) : Prop := ∃ xs : List V, SqL K H s xs ∧ xs.length = sh.length ∧ ∀ i : Nat, i < sh.length → ∃ wp : Addr, atI xs (i : Int) = some (.ref wp) ∧ SqT K H wp [.int ((shOf sh i).1 : Int), .int ((shOf sh i).2 : Int)]
theorem Shs.keep0 {H H1 : Hp} {s : Addr} {sh : List (Nat × Nat)} (h : Shs K H s sh) (k : Keep [] H H1) : Shs K H1 s sh := by
  obtain ⟨xs, h1, h2, h3⟩ := h
  refine ⟨xs, k.sqL (by simp) h1, h2, fun i hi => ?_⟩
  obtain ⟨wp, e1, e2⟩ := h3 i hi
  exact ⟨wp, e1, (keep_ts0 k).sqT e2⟩
noncomputable def spLawIsStep (K : PySem.W.Frag) (n : Nat) : Sp := fun vs H Q _ => ∃ (s : Addr) (sh : List (Nat × Nat)) (i h : Nat) (v : V) (d : PyData), vs = [.ref s, .int (i : Int), v, .int (h : Int)] ∧ Shs K H s sh ∧ i < sh.length ∧ Rp K H v d ∧ Sq d ∧ h ≤ 5 ∧ 6 ≤ n + h ∧ ∀ H', Keep [] H H' → Q (.bl (okSt sh i (5 - h) d)) H'
noncomputable def spLawIsBody (K : PySem.W.Frag) (n : Nat) : Sp := fun vs H Q _ => ∃ (s : Addr) (sh : List (Nat × Nat)) (i h : Nat) (v : V) (d : PyData), vs = [.ref s, .int (i : Int), v, .int (h : Int)] ∧ Shs K H s sh ∧ i < sh.length ∧ Rp K H v d ∧ Bq d ∧ h ≤ 5 ∧ 6 ≤ n + h ∧ ∀ H', Keep [] H H' → Q (.bl (bodyD (okSt sh i (5 - h)) d)) H'
noncomputable abbrev sL_is_step : Stmt := top 98
noncomputable abbrev nL_is_step : List Str := ["_law_shapes", "_law_at", "_law_step_here", "_law_within", "_law_things", "_law_bodies", "_law_thing_here", "_law_body_here"]
noncomputable abbrev pL_is_step : List Str := ["_law_shapes", "_law_at", "_law_step_here", "_law_within"]
theorem scL_is_step : FnScope nL_is_step pL_is_step (defScope sL_is_step) := ⟨rfl, rfl, rfl, by decide +kernel, rfl, by decide +kernel, by decide +kernel⟩
noncomputable abbrev sL_is_body : Stmt := top 99
noncomputable abbrev nL_is_body : List Str := ["_law_shapes", "_law_at", "_law_body_here", "_law_within", "_law_step_here"]
noncomputable abbrev pL_is_body : List Str := ["_law_shapes", "_law_at", "_law_body_here", "_law_within"]
theorem scL_is_body : FnScope nL_is_body pL_is_body (defScope sL_is_body) := ⟨rfl, rfl, rfl, by decide +kernel, rfl, by decide +kernel, by decide +kernel⟩
theorem okLawIsBody {n : Nat} (D : DefAt K mg "_law_is_body" sL_is_body pL_is_body) (T : Blt mg) (C_law_is_step : Callee P w K mg base "_law_is_step" (2 * n + 10) pL_is_step (spLawIsStep K (n + 1))) : Callee P w K mg base "_law_is_body" (2 * n + 11) pL_is_body (spLawIsBody K (n + 1)) := by
  refine D.ok scL_is_body (fun vs H Q E h => ?_) (fun f cdv A outer s H vs Q E hr h => ?_)
  · obtain ⟨s, sh, i, h, v, d, rfl, _⟩ := h
    rfl
  obtain ⟨s, sh, i, h, v, d, rfl, hS, hi, hR, bq, h5, nh, q⟩ := h
  refine ⟨_, (pss_cons (ps_if (pt_not (pt_val (pe_callB (cIsi (K := K)) (by rfl) T.isinstance (by decide +kernel) (pa_cons (pv 2) (pa_cons (pe_bltn rfl T.tuple (by decide +kernel) (v := .ty "tuple") rfl) pa_nil))))) (pss_one (ps_ret pe_bl)) pss_nil)
  (pss_one (ps_ret (pe_cmpR (opEqE (K := K) hr.units0) (pe_lc (own := [("_law_step_here", 4)]) (g := gName 4) (by rfl) scL_is_body.nd (piTup (K := K) (pv 2)) (blkOk_by (own := [("_law_step_here", 4)]) (N := nL_is_body) (sc := defScope sL_is_body) (by decide +kernel)) (fun _ _ _ _ _ => (pg_name (i := 4) scL_is_body.nd rfl (Or.inl rfl))) (fun _ _ _ _ _ => (pts_one (pt_not (pt_val (pcall C_law_is_step (hr.mono (by first | exact Nat.le_of_ble_eq_true rfl | omega)) rfl (pa_cons (pv 0) (pa_cons (pv 1) (pa_cons (pv 4) (pa_cons (pv 3) pa_nil))))))))) (fun _ _ _ _ _ => (pv 4))) (pe_lst pa_nil) (nomark _))))), ?_⟩
  walk_at "rd"
  cases bq with
  | flat hf =>
    have e : bodyD (okSt sh i (5 - h)) d = false := by
      cases d <;> first | rfl | exact hf.elim
    rw [e] at q
    cases hR with
    | tup _ _ => exact hf.elim
    | _ =>
      walk_at "rd"
      exact q H Keep.refl
  | @tup ss ls sq =>
    obtain ⟨a, xs, rfl, hT, hx⟩ := hR.tup_inv
    have lx := hx.length
    have eb : bodyD (okSt sh i (5 - h)) (.tuple ss) = ss.all (okSt sh i (5 - h)) := rfl
    rw [eb] at q
    walk_at "rd"
    refine lcTi' (xs := xs) (fun E j H' => ∃ ys : List V, H E = none ∧ Keep [] H H' ∧ H' E = some (.lst ys) ∧ ys.length ≤ j ∧ ys.isEmpty = (ss.take j).all (okSt sh i (5 - h))) (fun E H5 nE e5 k5 => ⟨[], nE, k5, e5, Nat.le_refl _, rfl⟩) (fun E j H5 _ hp => ?_) (fun E j y H5 hy hp => ?_) (fun E H5 hp => ?_)
    · obtain ⟨ys, nE, k5, _⟩ := hp
      exact (keep_ts0 k5).sqT hT
    · obtain ⟨ys, nE, k5, h5', ly, ey⟩ := hp
      obtain ⟨dd, ed, rd⟩ := hx.get' hy
      have mem := List.mem_of_getElem? ed
      have lt : ys.length ≤ 90000 := by have := (List.getElem?_eq_some_iff.mp hy).1; omega
      have tk1 : ss.take (j + 1) = ss.take j ++ [dd] := by rw [List.take_add_one, ed]; rfl
      have al : (ss.take (j + 1)).all (okSt sh i (5 - h)) = ((ss.take j).all (okSt sh i (5 - h)) && okSt sh i (5 - h) dd) := by
        rw [tk1, List.all_append]
        show (_ && (okSt sh i (5 - h) dd && true)) = _
        rw [Bool.and_true]
      walk_at "rd"
      refine ⟨rfl, ?_⟩
      walk_at "rd"
      refine ask ⟨s, sh, i, h, y, dd, rfl, hS.keep0 k5, hi, rd.ts (keep_ts0 k5), sq dd mem, h5, nh, fun H6 k6 => ?_⟩
      have h6 := k6 _ _ h5' (by simp)
      walk_at "rd"
      refine cases_b (okSt sh i (5 - h) dd) (fun c => ?_) (fun c => ?_)
      · rw [c, if_neg (by decide)]
        exact ⟨ys, nE, k5.trans k6, h6, by omega, by rw [al, c, Bool.and_true]; exact ey⟩
      · rw [c, if_pos (by decide)]
        walk_at "rd"
        intro H7 h7 k7
        refine ⟨_, nE, (k5.trans k6).fresh1 k7 nE, h7, by rw [List.length_append]; show ys.length + 1 ≤ _; omega, ?_⟩
        rw [al, c, Bool.and_false]
        cases ys <;> rfl
    · obtain ⟨ys, nE, k5, h5', ly, ey⟩ := hp
      rw [List.take_of_length_le (by omega)] at ey
      walk_at "rd"
      intro el H6 nel hel k6
      have h6 := k6 _ _ h5' (by simp)
      walk_at "rd"
      refine r_eqEL (SqL.of h6) (SqL.of hel) ?_
      rw [ey]
      exact q H6 (k5.trans k6)
end
end
section
section
variable {P : Program} {w : World} {K : PySem.W.Frag} {mg : Str → Option Value} {base : Heap}
theorem all_n {p : PyData → Prop} : ∀ e ∈ ([] : List PyData), p e := fun _ h => by cases h
theorem all_c {p : PyData → Prop} {d : PyData} {ds : List PyData} (a : p d) (b : ∀ e ∈ ds, p e) : ∀ e ∈ d :: ds, p e := fun e he => by
  rcases List.mem_cons.mp he with rfl | he
  · exact a
  · exact b e he
noncomputable def fourD : List (Key × V) := [(.inr "set", .int 3), (.inr "say", .int 2), (.inr "if", .int 4), (.inr "call", .int 3)]
noncomputable def sizeOf4 (x : Str) : Int := if x = "set" then 3 else if x = "say" then 2 else if x = "if" then 4 else 3
theorem four_val {x : Str} (h : x ∈ (["set", "say", "if", "call"] : List Str)) : valV fourD (.inr x) = some (.int (sizeOf4 x)) := by
  simp only [List.mem_cons, List.not_mem_nil, or_false] at h
  rcases h with rfl | rfl | rfl | rfl
  · rfl
  · unfold valV fourD
    rw [List.find?_cons_of_neg (by show ¬ decide ((.inr ("set" : Str) : Key) = .inr ("say" : Str)) = true; decide +kernel), List.find?_cons_of_pos (by show decide ((.inr ("say" : Str) : Key) = .inr ("say" : Str)) = true; decide +kernel)]
    unfold sizeOf4
    rw [if_neg (by decide +kernel), if_pos rfl]
    rfl
  · unfold valV fourD
    rw [List.find?_cons_of_neg (by show ¬ decide ((.inr ("set" : Str) : Key) = .inr ("if" : Str)) = true; decide +kernel), List.find?_cons_of_neg (by show ¬ decide ((.inr ("say" : Str) : Key) = .inr ("if" : Str)) = true; decide +kernel), List.find?_cons_of_pos (by show decide ((.inr ("if" : Str) : Key) = .inr ("if" : Str)) = true; decide +kernel)]
    unfold sizeOf4
    rw [if_neg (by decide +kernel), if_neg (by decide +kernel), if_pos rfl]
    rfl
  · unfold valV fourD
    rw [List.find?_cons_of_neg (by show ¬ decide ((.inr ("set" : Str) : Key) = .inr ("call" : Str)) = true; decide +kernel), List.find?_cons_of_neg (by show ¬ decide ((.inr ("say" : Str) : Key) = .inr ("call" : Str)) = true; decide +kernel), List.find?_cons_of_neg (by show ¬ decide ((.inr ("if" : Str) : Key) = .inr ("call" : Str)) = true; decide +kernel), List.find?_cons_of_pos (by show decide ((.inr ("call" : Str) : Key) = .inr ("call" : Str)) = true; decide +kernel)]
    unfold sizeOf4
    rw [if_neg (by decide +kernel), if_neg (by decide +kernel), if_neg (by decide +kernel)]
    rfl
theorem okLawIsStep {n : Nat} (D : DefAt K mg "_law_is_step" sL_is_step pL_is_step) (T : Blt mg) (C_law_is_number : Callee P w K mg base "_law_is_number" 1 pL_is_number (spLawNumber K)) (C_law_is_thing : Callee P w K mg base "_law_is_thing" 8 pL_is_thing (spLawIsThing K 6)) (C_law_is_body : Callee P w K mg base "_law_is_body" (2 * n + 9) pL_is_body (spLawIsBody K n)) :
    Callee P w K mg base "_law_is_step" (2 * n + 10) pL_is_step (spLawIsStep K (n + 1)) := by
  refine D.ok scL_is_step (fun vs H Q E h => ?_) (fun f cdv A outer s H vs Q E hr h => ?_)
  · obtain ⟨s, sh, i, h, v, d, rfl, _⟩ := h
    rfl
  obtain ⟨s, sh, i, h, v, d, rfl, hS, hi, hR, sq, h5, nh, q⟩ := h
  refine ⟨_, (pss_cons (ps_if (PW.pt (pw_or (pt_not (pt_val (pe_callB (cIsi (K := K)) (by rfl) T.isinstance (by decide +kernel) (pa_cons (pv 2) (pa_cons (pe_bltn rfl T.tuple (by decide +kernel) (v := .ty "tuple") rfl) pa_nil))))) (pw_or (pt_cmpR op_gt (pv 3) pe_int (nomark _)) (pw_or1 (pt_cmpR (opEqE (K := K) hr.units0) (pv 2) (pe_tup pa_nil) (nomark _)))))) (pss_one (ps_ret pe_bl)) pss_nil)
  (pss_cons (ps_if (PW.pt (pw_or (pt_cmpR (opNotIn (K := K)) (pe_ix (ixT (K := K)) (pv 2) pe_int (fun _ _ => rfl)) (pe_tup (pa_cons pe_str (pa_cons pe_str (pa_cons pe_str (pa_cons pe_str pa_nil))))) (by with_unfolding_all rfl)) (pw_or1 (pt_cmpR op_ne (pe_callB (cLen (K := K)) (by rfl) T.len PySem.boot_len (pa_cons (pv 2) pa_nil)) (pe_dget (hu_of hr) (pe_disp (pps_cons pe_str pe_int (pps_cons pe_str pe_int (pps_cons pe_str pe_int (pps_cons pe_str pe_int pps_nil)))) (by rfl) (by rfl) (fun z => by cases z) (by decide)) (pe_ix (ixT (K := K)) (pv 2) pe_int (fun _ _ => rfl)) (fun _ _ => rfl)) (nomark _))))) (pss_one (ps_ret pe_bl)) pss_nil)
  (Evl.pss_cut (ps_if (pt_cmpR op_eq (pe_ix (ixT (K := K)) (pv 2) pe_int (fun _ _ => rfl)) pe_str (nomark _)) (pss_cons (ps_if (PW.pt (pw_or (pt_not (pt_val (pcall C_law_is_number (hr.mono (by first | exact Nat.le_of_ble_eq_true rfl | omega)) rfl (pa_cons (pe_ix (ixT (K := K)) (pv 2) pe_int (fun _ _ => rfl)) (pa_cons (pe_callB (cLen (K := K)) (by rfl) T.len PySem.boot_len (pa_cons (pv 0) pa_nil)) pa_nil))))) (pw_or (pt_cmpR op_le (pe_ix (ixT (K := K)) (pv 2) pe_int (fun _ _ => rfl)) (pv 1) (nomark _)) (pw_or1 (pt_not (pt_val (pe_callB (cIsi (K := K)) (by rfl) T.isinstance (by decide +kernel) (pa_cons (pe_ix (ixT (K := K)) (pv 2) pe_int (fun _ _ => rfl)) (pa_cons (pe_bltn rfl T.tuple (by decide +kernel) (v := .ty "tuple") rfl) pa_nil))))))))) (pss_one (ps_ret pe_bl)) pss_nil)
  (pss_cons (ps_set (i := 4) scL_is_step.nd rfl (Or.inl rfl) (pe_ix (ixT (K := K)) (pv 2) pe_int (fun _ _ => rfl)))
  (pss_one (ps_if (pt_cmpR op_ne (pe_callB (cLen (K := K)) (by rfl) T.len PySem.boot_len (pa_cons (pv 4) pa_nil)) (pe_ix (ixT (K := K)) (pe_ix (ixL (K := K)) (pv 0) (pe_ix (ixT (K := K)) (pv 2) pe_int (fun _ _ => rfl)) (fun _ _ => rfl)) pe_int (fun _ _ => rfl)) (nomark _)) (pss_one (ps_ret pe_bl)) pss_nil)))) (pss_one (ps_set (i := 4) scL_is_step.nd rfl (Or.inl rfl) (pe_ifExp (pt_cmpR op_eq (pe_ix (ixT (K := K)) (pv 2) pe_int (fun _ _ => rfl)) pe_str (nomark _)) (pe_slice (slA (K := K)) (pv 2) (po_some pe_int) (po_some pe_int)) (pe_slice (slA (K := K)) (pv 2) (po_some pe_int) po_none)))))
  (pss_cons (ps_if (pt_cmpR (opNeE (K := K) hr.units0) (pe_lc (own := [("_law_thing_here", 6)]) (g := gName 6) (by rfl) scL_is_step.nd (piTup (K := K) (pv 4)) (blkOk_by (own := [("_law_thing_here", 6)]) (N := nL_is_step) (sc := defScope sL_is_step) (by decide +kernel)) (fun _ _ _ _ _ => (pg_name (i := 6) scL_is_step.nd rfl (Or.inl rfl))) (fun _ _ _ _ _ => (pts_one (pt_not (pt_val (pcall C_law_is_thing (hr.mono (by first | exact Nat.le_of_ble_eq_true rfl | omega)) rfl (pa_cons (pv 6) (pa_cons (pe_ix (ixL (K := K)) (pv 0) (pv 1) (fun _ _ => rfl)) (pa_cons pe_int pa_nil)))))))) (fun _ _ _ _ _ => (pv 6))) (pe_lst pa_nil) (nomark _)) (pss_one (ps_ret pe_bl)) pss_nil)
  (Evl.pss_cut (ps_set (i := 5) scL_is_step.nd rfl (Or.inl rfl) (pe_ifExp (pt_cmpR op_eq (pe_ix (ixT (K := K)) (pv 2) pe_int (fun _ _ => rfl)) pe_str (nomark _)) (pe_slice (slA (K := K)) (pv 2) (po_some pe_int) po_none) (pe_tup pa_nil)))
  (Evl.pss_cut (ps_if (PW.pt (pw_and (pt_cmpR op_eq (pe_ix (ixT (K := K)) (pv 2) pe_int (fun _ _ => rfl)) pe_str (nomark _)) (pw_and1 (pt_cmpR (opNotIn (K := K)) (pe_ix (ixT (K := K)) (pe_ix (ixT (K := K)) (pv 2) pe_int (fun _ _ => rfl)) pe_int (fun _ _ => rfl)) (pe_tup (pa_cons pe_str (pa_cons pe_str (pa_cons pe_str pa_nil)))) (by with_unfolding_all rfl))))) (pss_one (ps_ret pe_bl)) pss_nil)
  (pss_one (ps_ret (pe_cmpR (opEqE (K := K) hr.units0) (pe_lc (own := [("_law_body_here", 7)]) (g := gName 7) (by rfl) scL_is_step.nd (piTup (K := K) (pv 5)) (blkOk_by (own := [("_law_body_here", 7)]) (N := nL_is_step) (sc := defScope sL_is_step) (by decide +kernel)) (fun _ _ _ _ _ => (pg_name (i := 7) scL_is_step.nd rfl (Or.inl rfl))) (fun _ _ _ _ _ => (pts_one (pt_not (pt_val (pcall C_law_is_body (hr.mono (by first | exact Nat.le_of_ble_eq_true rfl | omega)) rfl (pa_cons (pv 0) (pa_cons (pv 1) (pa_cons (pv 7) (pa_cons (pe_op op_add (pv 3) pe_int) pa_nil))))))))) (fun _ _ _ _ _ => (pv 7))) (pe_lst pa_nil) (nomark _)))))))))), ?_⟩
  walk_at "rd"
  rcases sq.cases with hf | rfl | ⟨x, ds, rfl, lds⟩
  · have e : okSt sh i (5 - h) d = false := by
      cases c : okSt sh i (5 - h) d with
      | false => rfl
      | true =>
        exfalso
        cases hk : 5 - h with
        | zero => rw [hk] at c; cases c
        | succ m =>
          rw [hk] at c
          unfold okSt at c
          cases d with
          | tuple _ => exact hf
          | list _ => exact hf
          | dict _ => exact hf
          | _ =>
            rw [if_neg (fun z => by cases z), if_neg (fun z => by cases z), if_neg (fun z => by cases z), Bool.and_eq_true] at c
            cases c.1
    rw [e] at q
    cases hR with
    | tup _ _ => exact hf.elim
    | _ =>
      refine r_or ?_
      walk_at "rd"
      exact q H Keep.refl
  · obtain ⟨a, xs, rfl, hT, hx⟩ := hR.tup_inv
    cases hx.inv0
    have e : okSt sh i (5 - h) (.tuple []) = false := by
      cases hk : 5 - h with
      | zero => rfl
      | succ m =>
        unfold okSt
        rw [if_neg (fun z => by obtain ⟨_, e, _⟩ := shaped_str z; cases e), if_neg (fun z => by obtain ⟨_, e, _⟩ := shaped_str z; cases e), if_neg (fun z => by obtain ⟨_, e, _⟩ := shaped_str z; cases e)]
        rfl
    rw [e] at q
    refine r_or ?_
    walk_at "rd"
    refine r_or ?_
    walk_at "rd"
    refine ite2 (fun c => ?_) (fun c => ?_)
    · walk_at "rd"
      exact q H Keep.refl
    · walk_at "rd"
      intro p1 H1 n1 h1 k1
      walk_at "rd"
      refine r_eqET ((keep_ts0 k1).sqT hT) (SqT.of h1) ?_
      walk_at "rd"
      exact q H1 k1
  obtain ⟨a, xs, rfl, hT, hx⟩ := hR.tup_inv
  obtain ⟨v0, r, rfl, h0, hr'⟩ := hx.inv
  cases h0.str_inv
  have lr := hr'.length
  have a0 : atI (V.str x :: r) 0 = some (.str x) := at0
  refine r_or ?_
  walk_at "rd"
  refine r_or ?_
  walk_at "rd"
  refine ite2 (fun c => ?_) (fun c => ?_)
  · have : (4 : Int) < (h : Int) := of_decide_eq_true c
    have e : 5 - h = 0 := by omega
    rw [e] at q
    walk_at "rd"
    exact q H Keep.refl
  have h4 : h ≤ 4 := by
    have : ¬ (4 : Int) < (h : Int) := fun z => c (decide_eq_true z)
    omega
  have e5 : 5 - h = (4 - h) + 1 := by omega
  have e4 : 5 - (h + 1) = 4 - h := by omega
  rw [e5] at q
  have no : ∀ H', Keep [] H H' → okSt sh i (4 - h + 1) (.tuple (.str x :: ds)) = false → Q (.bl false) H' := fun H' k e => by
    rw [e] at q
    exact q H' k
  walk_at "rd"
  intro p1 H1 n1 h1 k1
  have hT1 := (keep_ts0 k1).sqT hT
  walk_at "rd"
  refine r_eqET hT1 (SqT.of h1) ?_
  rw [show (V.str x :: r).isEmpty = false from rfl]
  walk_at "rd"
  refine r_or ?_
  walk_at "rd"
  intro p2 H2 n2 h2 k2
  have hT2 := (keep_ts0 k2).sqT hT1
  have k02 := k1.trans k2
  walk_at "rd"
  have ew : inV (V.str x) [V.str "set", V.str "say", V.str "if", V.str "call"] = decide (x ∈ (["set", "say", "if", "call"] : List Str)) := inV_strs' (l := ["set", "say", "if", "call"])
  rw [if_pos rfl, ew]
  by_cases cw : x ∈ (["set", "say", "if", "call"] : List Str)
  case neg =>
    rw [decide_eq_false cw]
    walk_at "rd"
    refine no H2 k02 ?_
    cases e : okSt sh i (4 - h + 1) (.tuple (.str x :: ds)) with
    | false => rfl
    | true =>
      refine absurd ?_ cw
      rcases okSt_inv e with ⟨rfl, _⟩ | ⟨rfl, _⟩ | ⟨rfl, _⟩ | ⟨rfl, _⟩ <;> simp
  rw [decide_eq_true cw]
  walk_at "rd"
  intro dp H3 n3 h3 k3
  have hT3 := (keep_ts0 k3).sqT hT2
  walk_at "rd"
  refine disp fourD h3 rfl (by show 4 ≤ 15; omega) (by show ([.inr ("set" : Str), .inr ("say" : Str), .inr ("if" : Str), .inr ("call" : Str)] : List Key).Nodup; decide +kernel) fun H4 h4' k4 => ?_
  have t34 : Tst H3 H4 := k4.ts fun y hy => by cases List.mem_singleton.mp hy; exact .inr (.inl ⟨_, h3⟩)
  have k24 : Keep [] H2 H4 := k3.fresh1 k4 n3
  have k04 := k02.trans k24
  have hT4 := (keep_ts0 k04).sqT hT
  have lx : ((V.str x :: r).length : Int) = (ds.length : Int) + 1 := by rw [List.length_cons, lr]; rfl
  walk_at "rd"
  refine r_dgetS h4' (four_val cw) ?_
  walk_at "rd"
  by_cases cl : (ds.length : Int) + 1 = sizeOf4 x
  case neg =>
    have e : decide (V.int ((V.str x :: r).length : Int) = V.int (sizeOf4 x)) = false := decide_eq_false fun z => cl (by have := V.int.inj z; omega)
    rw [e]
    walk_at "rd"
    refine no H4 k04 ?_
    cases e : okSt sh i (4 - h + 1) (.tuple (.str x :: ds)) with
    | false => rfl
    | true =>
      refine absurd ?_ cl
      rcases okSt_inv e with ⟨rfl, l⟩ | ⟨rfl, l⟩ | ⟨rfl, l⟩ | ⟨rfl, l⟩ <;> (rw [l]; decide +kernel)
  have e : decide (V.int ((V.str x :: r).length : Int) = V.int (sizeOf4 x)) = true := decide_eq_true (by rw [lx, cl])
  rw [e]
  walk_at "rd"
  refine cut (fun σ H' => ∃ (tp : Addr) (tvs : List V) (ts : List PyData), σ = [some (.ref s), some (.int (i : Int)), some (.ref a), some (.int (h : Int)), some (.ref tp), none, none, none] ∧ Keep [] H H' ∧ SqT K H' tp tvs ∧ Rps K H' tvs ts ∧ (∀ t ∈ ts, Tq t) ∧ ts.length ≤ 90000 ∧ (x = "set" → ts = ds) ∧
    okSt sh i (4 - h + 1) (.tuple (.str x :: ds)) = (ts.all (okT sh i) && (if x = "set" then placeD (ds.getD 0 .none) else if x = "if" then (ds.drop 1).all (bodyD (okSt sh i (4 - h))) else true))) ?_ ?_
  · have hS4 := hS.keep0 k04
    have g4 := fun {v : V} {d : PyData} (g : Rp K H v d) => g.ts (keep_ts0 k04)
    have t4 : Rps K H4 r ds := hr'.ts (keep_ts0 k04)
    have cw' := cw
    simp only [List.mem_cons, List.not_mem_nil, or_false] at cw'
    rcases cw' with xs' | xs' | xs' | xs'
    · have nx : decide (V.str x = V.str "call") = false := decide_eq_false fun z => by have := V.str.inj z; rw [xs'] at this; exact absurd this (by decide +kernel)
      have ni : decide (V.str x = V.str "if") = false := decide_eq_false fun z => by have := V.str.inj z; rw [xs'] at this; exact absurd this (by decide +kernel)
      have l2 : ds.length = 2 := by
        have : sizeOf4 "set" = 3 := by decide +kernel
        rw [xs'] at cl
        omega
      walk_at "rd"
      rw [nx]
      walk_at "rd"
      rw [ni]
      walk_at "rd"
      intro tp H5 hTT k5 f5
      rw [cutV_tail'] at hTT
      walk_at "rd"
      refine ⟨tp, r, ds, rfl, k04.trans k5, hTT, t4.ts (keep_ts0 k5), sq.things (by rw [xs']; decide +kernel) (by rw [xs']; decide +kernel), by omega, fun _ => rfl, ?_⟩
      obtain ⟨d0, d1, rfl⟩ : ∃ d0 d1, ds = [d0, d1] := by
        match ds, l2 with
        | [d0, d1], _ => exact ⟨d0, d1, rfl⟩
      rw [if_pos xs', xs', okSt_set]
      show ((okT sh i d0 && placeD d0) && okT sh i d1) = ((okT sh i d0 && (okT sh i d1 && true)) && placeD d0)
      cases okT sh i d0 <;> cases okT sh i d1 <;> cases placeD d0 <;> rfl
    · have nx : decide (V.str x = V.str "call") = false := decide_eq_false fun z => by have := V.str.inj z; rw [xs'] at this; exact absurd this (by decide +kernel)
      have ni : decide (V.str x = V.str "if") = false := decide_eq_false fun z => by have := V.str.inj z; rw [xs'] at this; exact absurd this (by decide +kernel)
      have l1 : ds.length = 1 := by
        have : sizeOf4 "say" = 2 := by decide +kernel
        rw [xs'] at cl
        omega
      walk_at "rd"
      rw [nx]
      walk_at "rd"
      rw [ni]
      walk_at "rd"
      intro tp H5 hTT k5 f5
      rw [cutV_tail'] at hTT
      walk_at "rd"
      refine ⟨tp, r, ds, rfl, k04.trans k5, hTT, t4.ts (keep_ts0 k5), sq.things (by rw [xs']; decide +kernel) (by rw [xs']; decide +kernel), by omega, fun _ => rfl, ?_⟩
      obtain ⟨d0, rfl⟩ : ∃ d0, ds = [d0] := by
        match ds, l1 with
        | [d0], _ => exact ⟨d0, rfl⟩
      rw [if_neg (by rw [xs']; decide +kernel), if_neg (by rw [xs']; decide +kernel), xs', okSt_say]
      show okT sh i d0 = ((okT sh i d0 && true) && true)
      rw [Bool.and_true, Bool.and_true]
    · have nx : decide (V.str x = V.str "call") = false := decide_eq_false fun z => by have := V.str.inj z; rw [xs'] at this; exact absurd this (by decide +kernel)
      have ni : decide (V.str x = V.str "if") = true := decide_eq_true (by rw [xs'])
      have l3 : ds.length = 3 := by
        have : sizeOf4 "if" = 4 := by decide +kernel
        rw [xs'] at cl
        omega
      obtain ⟨d0, d1, d2, rfl⟩ : ∃ d0 d1 d2, ds = [d0, d1, d2] := by
        match ds, l3 with
        | [d0, d1, d2], _ => exact ⟨d0, d1, d2, rfl⟩
      obtain ⟨w0, r0, rfl, g0, gr⟩ := t4.inv
      have tq0 : Tq d0 := by
        have := sq
        rw [xs'] at this
        exact this.ites.1
      walk_at "rd"
      rw [nx]
      walk_at "rd"
      rw [ni]
      walk_at "rd"
      intro tp H5 hTT k5 f5
      have cv : cutV (V.str x :: w0 :: r0) (some 1) (some 2) = [w0] := by
        unfold cutV HT.sIx
        simp
        try (rw [show min 1 (r0.length + 1 + 1) = 1 by omega, show min 2 (r0.length + 1 + 1) = 2 by omega]; rfl)
      rw [cv] at hTT
      walk_at "rd"
      refine ⟨tp, [w0], [d0], rfl, k04.trans k5, hTT, .cons (g0.ts (keep_ts0 k5)) .nil, all_c tq0 all_n, by simp, fun z => absurd (xs'.symm.trans z) (by decide +kernel), ?_⟩
      rw [if_neg (by rw [xs']; decide +kernel), if_pos xs', xs', okSt_ite]
      show (okT sh i d0 && (bodyD (okSt sh i (4 - h)) d1 && bodyD (okSt sh i (4 - h)) d2)) = ((okT sh i d0 && true) && (bodyD (okSt sh i (4 - h)) d1 && (bodyD (okSt sh i (4 - h)) d2 && true)))
      rw [Bool.and_true, Bool.and_true]
    · have nx : decide (V.str x = V.str "call") = true := decide_eq_true (by rw [xs'])
      have l2 : ds.length = 2 := by
        have : sizeOf4 "call" = 3 := by decide +kernel
        rw [xs'] at cl
        omega
      obtain ⟨d0, d1, rfl⟩ : ∃ d0 d1, ds = [d0, d1] := by
        match ds, l2 with
        | [d0, d1], _ => exact ⟨d0, d1, rfl⟩
      obtain ⟨w0, r0, rfl, g0, gr⟩ := t4.inv
      obtain ⟨w1, r1, rfl, g1, gr1⟩ := gr.inv
      cases gr1.inv0
      have cq : Cq d1 := by
        have := sq
        rw [xs'] at this
        exact this.calls
      have ecall : okSt sh i (4 - h + 1) (.tuple [.str x, d0, d1]) = callD sh i d0 d1 := by rw [xs']; exact okSt_call
      rw [ecall] at no
      obtain ⟨sx, hsx, lsx, ats⟩ := hS4
      have ls' : ((sx.length : Nat) : Int) = (sh.length : Int) := by rw [lsx]
      have a1 : atI [V.str x, w0, w1] 1 = some w0 := at1
      have a2 : atI [V.str x, w0, w1] 2 = some w1 := at2
      walk_at "rd"
      rw [nx]
      walk_at "rd"
      refine r_or ?_
      walk_at "rd"
      refine ask ⟨w0, d0, ((sx.length : Nat) : Int), rfl, g0, ?_⟩
      walk_at "rd"
      refine cases_b (belowD ((sx.length : Nat) : Int) d0) (fun cb => ?_) (fun cb => ?_)
      case refine_2 =>
        rw [cb]
        walk_at "rd"
        refine no H4 k04 ?_
        cases d0 with
        | int c0 =>
          have e : (decide (0 ≤ c0) && decide (c0 < ((sx.length : Nat) : Int))) = false := cb
          rw [ls'] at e
          cases d1 <;> first | rfl | rw [callD_tup, e, Bool.false_and]
        | _ => unfold callD; rfl
      obtain ⟨k, rfl, hk⟩ := below_nat' cb
      cases g0.int_inv
      rw [cb]
      walk_at "rd"
      refine r_or ?_
      walk_at "rd"
      have e' : (decide (0 ≤ (k : Int)) && decide ((k : Int) < (sh.length : Int))) = true := by
        rw [Bool.and_eq_true, decide_eq_true_eq, decide_eq_true_eq]
        omega
      refine ite2 (fun z => ?_) (fun z => ?_)
      · walk_at "rd"
        refine no H4 k04 ?_
        have := of_decide_eq_true z
        have e3 : decide ((i : Int) < (k : Int)) = false := decide_eq_false (by omega)
        cases d1 <;> first | rfl | rw [callD_tup, e3, Bool.false_and, Bool.and_false]
      have ik : (i : Int) < (k : Int) := by
        have : ¬ (k : Int) ≤ (i : Int) := fun y => z (decide_eq_true y)
        omega
      have unf : ∀ ts, callD sh i (.int (k : Int)) (.tuple ts) = (decide (ts.length = (shOf sh k).1) && ts.all (okT sh i)) := fun ts => by
        rw [callD_tup, e', decide_eq_true ik, Bool.true_and, Bool.true_and, Int.toNat_natCast]
      cases d1 with
      | list _ => cases g1
      | dict _ => cases g1
      | none =>
        cases g1
        walk_at "rd"
        exact no H4 k04 rfl
      | bool _ =>
        cases g1
        walk_at "rd"
        exact no H4 k04 rfl
      | int _ =>
        cases g1
        walk_at "rd"
        exact no H4 k04 rfl
      | str _ =>
        cases g1
        walk_at "rd"
        exact no H4 k04 rfl
      | tuple ts =>
        obtain ⟨tp, tvs, rfl, hTT, rts⟩ := g1.tup_inv
        obtain ⟨lts, tqt⟩ := cq ts rfl
        have lt := rts.length
        rw [unf ts] at no ecall
        obtain ⟨cp, eC, hC⟩ := ats k (by omega)
        have z0 : atI [V.int ((shOf sh k).1 : Int), .int ((shOf sh k).2 : Int)] 0 = some (.int ((shOf sh k).1 : Int)) := at0
        walk_at "rd"
        by_cases cl2 : ts.length = (shOf sh k).1
        case neg =>
          have e : decide (V.int (tvs.length : Int) = V.int ((shOf sh k).1 : Int)) = false := decide_eq_false fun z => cl2 (by have := V.int.inj z; omega)
          rw [e]
          walk_at "rd"
          refine no H4 k04 ?_
          rw [decide_eq_false cl2, Bool.false_and]
        have e : decide (V.int (tvs.length : Int) = V.int ((shOf sh k).1 : Int)) = true := decide_eq_true (by rw [lt, cl2])
        rw [e]
        walk_at "rd"
        refine ⟨tp, tvs, ts, rfl, k04, hTT, rts, tqt, lts, fun z => absurd (xs'.symm.trans z) (by decide +kernel), ?_⟩
        rw [if_neg (by rw [xs']; decide +kernel), if_neg (by rw [xs']; decide +kernel), ecall, decide_eq_true cl2, Bool.true_and, Bool.and_true]
  · rintro σ H5 ⟨tp, tvs, ts, rfl, k5, hTT, rts, tqt, lts, tset, eall⟩
    rw [eall] at q
    have lt := rts.length
    have hT5 := (keep_ts0 k5).sqT hT
    obtain ⟨sx, hsx, lsx, ats⟩ := hS.keep0 k5
    obtain ⟨wp, ewp, hwp⟩ := ats i hi
    walk_at "rd"
    refine lcTi' (xs := tvs) (fun E j H' => ∃ ys : List V, H5 E = none ∧ Keep [] H5 H' ∧ H' E = some (.lst ys) ∧ ys.length ≤ j ∧ ys.isEmpty = (ts.take j).all (okT sh i)) (fun E H6 nE e6 k6 => ⟨[], nE, k6, e6, Nat.le_refl _, rfl⟩) (fun E j H6 _ hp => ?_) (fun E j y H6 hy hp => ?_) (fun E H6 hp => ?_)
    · obtain ⟨ys, nE, k6, _⟩ := hp
      exact (keep_ts0 k6).sqT hTT
    · obtain ⟨ys, nE, k6, h6, ly, ey⟩ := hp
      obtain ⟨dd, ed, rd⟩ := rts.get' hy
      have mem := List.mem_of_getElem? ed
      have lt' : ys.length ≤ 90000 := by have := (List.getElem?_eq_some_iff.mp hy).1; omega
      have tk1 : ts.take (j + 1) = ts.take j ++ [dd] := by rw [List.take_add_one, ed]; rfl
      have al : (ts.take (j + 1)).all (okT sh i) = ((ts.take j).all (okT sh i) && okT sh i dd) := by
        rw [tk1, List.all_append]
        show (_ && (okT sh i dd && true)) = _
        rw [Bool.and_true]
      have hsx6 := k6.sqL (by simp) hsx
      walk_at "rd"
      refine ⟨rfl, ?_⟩
      walk_at "rd"
      refine ask ⟨y, wp, dd, _, _, 0, rfl, (keep_ts0 k6).sqT hwp, rd.ts (keep_ts0 k6), tqt dd mem, by omega, by omega, fun H7 k7 => ?_⟩
      have h7 := k7 _ _ h6 (by simp)
      walk_at "rd"
      refine cases_b (okT sh i dd) (fun c => ?_) (fun c => ?_)
      · have c' : okTh ((shOf sh i).1 : Int) ((shOf sh i).2 : Int) (5 - 0) dd = true := c
        rw [c', if_neg (by decide)]
        exact ⟨ys, nE, k6.trans k7, h7, by omega, by rw [al, c, Bool.and_true]; exact ey⟩
      · have c' : okTh ((shOf sh i).1 : Int) ((shOf sh i).2 : Int) (5 - 0) dd = false := c
        rw [c', if_pos (by decide)]
        walk_at "rd"
        intro H8 h8 k8
        refine ⟨_, nE, (k6.trans k7).fresh1 k8 nE, h8, by rw [List.length_append]; show ys.length + 1 ≤ _; omega, ?_⟩
        rw [al, c, Bool.and_false]
        cases ys <;> rfl
    obtain ⟨ys, nE, k6, h6, ly, ey⟩ := hp
    rw [List.take_of_length_le (by omega)] at ey
    walk_at "rd"
    intro el H7 nel hel k7
    have h7 := k7 _ _ h6 (by simp)
    have k57 := k6.trans k7
    have k07 := k5.trans k57
    have hT7 := (keep_ts0 k57).sqT hT5
    walk_at "rd"
    refine r_neE (SqL.of h7) (SqL.of hel) ?_
    rw [ey]
    refine cases_b (ts.all (okT sh i)) (fun ca => ?_) (fun ca => ?_)
    case refine_2 =>
      rw [ca] at q ⊢
      rw [Bool.false_and] at q
      walk_at "rd"
      exact q H7 k07
    rw [ca] at q ⊢
    rw [Bool.true_and] at q
    walk_at "rd"
    refine cut (fun σ H' => ∃ (bp : Addr) (bvs : List V) (bs : List PyData), σ = [some (.ref s), some (.int (i : Int)), some (.ref a), some (.int (h : Int)), some (.ref tp), some (.ref bp), none, none] ∧ Keep [] H7 H' ∧ SqT K H' bp bvs ∧ Rps K H' bvs bs ∧ (∀ b ∈ bs, Bq b) ∧ bs.length ≤ 90000 ∧ (x = "if" → bs = ds.drop 1) ∧ (x ≠ "if" → bs = [])) ?_ ?_
    · walk_at "rd"
      refine ite2 (fun ci => ?_) (fun ci => ?_)
      · have xi : x = "if" := V.str.inj (of_decide_eq_true ci)
        subst xi
        have l3 : ds.length = 3 := by
          have : sizeOf4 "if" = 4 := by decide +kernel
          omega
        obtain ⟨d0, d1, d2, rfl⟩ : ∃ d0 d1 d2, ds = [d0, d1, d2] := by
          match ds, l3 with
          | [d0, d1, d2], _ => exact ⟨d0, d1, d2, rfl⟩
        obtain ⟨w0, r0, rfl, g0, gr⟩ := hr'.inv
        obtain ⟨w1, r1, rfl, g1, gr1⟩ := gr.inv
        obtain ⟨w2, r2, rfl, g2, gr2⟩ := gr1.inv
        cases gr2.inv0
        obtain ⟨_, bq1, bq2⟩ := sq.ites
        walk_at "rd"
        intro bp H8 hb k8 fb
        have cv : cutV [V.str "if", w0, w1, w2] (some 2) none = [w1, w2] := rfl
        rw [cv] at hb
        walk_at "rd"
        have t8 := keep_ts0 (k07.trans k8)
        exact ⟨bp, [w1, w2], [d1, d2], rfl, k8, hb, .cons (g1.ts t8) (.cons (g2.ts t8) .nil), all_c bq1 (all_c bq2 all_n), by simp, fun _ => rfl, fun z => absurd rfl z⟩
      · have xi : x ≠ "if" := fun z => ci (decide_eq_true (congrArg V.str z))
        walk_at "rd"
        intro bp H8 nb hb k8
        exact ⟨bp, [], [], rfl, k8, SqT.of hb, .nil, all_n, Nat.zero_le _, fun z => absurd z xi, fun _ => rfl⟩
    · rintro σ H8 ⟨bp, bvs, bs, rfl, k8, hBB, rbs, bqs, lbs, b1, b2⟩
      have hT8 := (keep_ts0 k8).sqT hT7
      have k08 := k07.trans k8
      have hS8 := hS.keep0 k08
      refine cut (fun σ H' => σ = [some (.ref s), some (.int (i : Int)), some (.ref a), some (.int (h : Int)), some (.ref tp), some (.ref bp), none, none] ∧ Keep [] H8 H' ∧ (if x = "set" then placeD (ds.getD 0 .none) else if x = "if" then (ds.drop 1).all (bodyD (okSt sh i (4 - h))) else true) = bs.all (bodyD (okSt sh i (4 - h)))) ?_ ?_
      · walk_at "rd"
        refine r_and ?_
        walk_at "rd"
        refine ite2 (fun cs => ?_) (fun cs => ?_)
        · have xs' : x = "set" := V.str.inj (of_decide_eq_true cs)
          have eb := b2 (by rw [xs']; decide +kernel)
          have ets := tset xs'
          have l2 : ds.length = 2 := by
            have : sizeOf4 "set" = 3 := by decide +kernel
            rw [xs'] at cl
            omega
          obtain ⟨d0, d1, rfl⟩ : ∃ d0 d1, ds = [d0, d1] := by
            match ds, l2 with
            | [d0, d1], _ => exact ⟨d0, d1, rfl⟩
          subst eb
          subst ets
          obtain ⟨w0, r0, rfl, g0, gr⟩ := hr'.inv
          have ok0 : okT sh i d0 = true := by
            have := ca
            rw [List.all_cons, Bool.and_eq_true] at this
            exact this.1
          obtain ⟨y, es, rfl⟩ := okTh_str ok0
          obtain ⟨pp, ys, rfl, hPP, hy⟩ := (g0.ts (keep_ts0 k08)).tup_inv
          obtain ⟨y0, yr, rfl, gy, _⟩ := hy.inv
          cases gy.str_inv
          have a1 : atI (V.str x :: V.ref pp :: r0) 1 = some (.ref pp) := at1
          have a00 : atI (V.str y :: yr) 0 = some (.str y) := at0
          walk_at "rd"
          intro p9 H9 n9 h9 k9
          walk_at "rd"
          rw [if_pos rfl]
          rw [if_pos xs'] at q ⊢
          have epl : placeD (([.tuple (.str y :: es), d1] : List PyData).getD 0 .none) = inV (V.str y) [V.str "cell", V.str "own", V.str "par"] := rfl
          rw [epl] at q ⊢
          refine cases_b (inV (V.str y) [V.str "cell", V.str "own", V.str "par"]) (fun cp => ?_) (fun cp => ?_)
          · rw [cp, if_neg (by decide)]
            walk_at "rd"
            exact ⟨rfl, k9, rfl⟩
          · rw [cp] at q
            rw [cp, if_pos (by decide)]
            walk_at "rd"
            exact q H9 (k08.trans k9)
        · have xs' : ¬ x = "set" := fun z => cs (decide_eq_true (congrArg V.str z))
          walk_at "rd"
          refine ⟨rfl, Keep.refl, ?_⟩
          rw [if_neg xs']
          by_cases xi : x = "if"
          · rw [if_pos xi, b1 xi]
          · rw [if_neg xi, b2 xi]
            rfl
      · rintro σ H9 ⟨rfl, k9, elast⟩
        rw [elast] at q
        have hBB9 := (keep_ts0 k9).sqT hBB
        have k09 := k08.trans k9
        have lb := rbs.length
        walk_at "rd"
        refine lcTi' (xs := bvs) (fun E j H' => ∃ ys : List V, H9 E = none ∧ Keep [] H9 H' ∧ H' E = some (.lst ys) ∧ ys.length ≤ j ∧ ys.isEmpty = (bs.take j).all (bodyD (okSt sh i (4 - h)))) (fun E H6 nE e6 k6 => ⟨[], nE, k6, e6, Nat.le_refl _, rfl⟩) (fun E j H6 _ hp => ?_) (fun E j y H6 hy hp => ?_) (fun E H6 hp => ?_)
        · obtain ⟨ys, nE, k6, _⟩ := hp
          exact (keep_ts0 k6).sqT hBB9
        · obtain ⟨ys, nE, k6, h6, ly, ey⟩ := hp
          obtain ⟨dd, ed, rd⟩ := rbs.get' hy
          have mem := List.mem_of_getElem? ed
          have lt' : ys.length ≤ 90000 := by have := (List.getElem?_eq_some_iff.mp hy).1; omega
          have tk1 : bs.take (j + 1) = bs.take j ++ [dd] := by rw [List.take_add_one, ed]; rfl
          have al : (bs.take (j + 1)).all (bodyD (okSt sh i (4 - h))) = ((bs.take j).all (bodyD (okSt sh i (4 - h))) && bodyD (okSt sh i (4 - h)) dd) := by
            rw [tk1, List.all_append]
            show (_ && (bodyD (okSt sh i (4 - h)) dd && true)) = _
            rw [Bool.and_true]
          walk_at "rd"
          refine ⟨rfl, ?_⟩
          walk_at "rd"
          refine ask ⟨s, sh, i, h + 1, y, dd, by rw [Int.natCast_add]; rfl, hS.keep0 (k09.trans k6), hi, rd.ts (keep_ts0 (k9.trans k6)), bqs dd mem, by omega, by omega, fun H7' k7' => ?_⟩
          have h7' := k7' _ _ h6 (by simp)
          rw [e4]
          walk_at "rd"
          refine cases_b (bodyD (okSt sh i (4 - h)) dd) (fun c => ?_) (fun c => ?_)
          · rw [c, if_neg (by decide)]
            exact ⟨ys, nE, k6.trans k7', h7', by omega, by rw [al, c, Bool.and_true]; exact ey⟩
          · rw [c, if_pos (by decide)]
            walk_at "rd"
            intro H8' h8' k8'
            refine ⟨_, nE, (k6.trans k7').fresh1 k8' nE, h8', by rw [List.length_append]; show ys.length + 1 ≤ _; omega, ?_⟩
            rw [al, c, Bool.and_false]
            cases ys <;> rfl
        · obtain ⟨ys, nE, k6, h6, ly, ey⟩ := hp
          rw [List.take_of_length_le (by omega)] at ey
          walk_at "rd"
          intro el' H7' nel' hel' k7'
          have h7' := k7' _ _ h6 (by simp)
          walk_at "rd"
          refine r_eqEL (SqL.of h7') (SqL.of hel') ?_
          rw [ey]
          exact q H7' ((k09.trans k6).trans k7')
end
end
section
section
variable {P : Program} {w : World} {K : PySem.W.Frag} {mg : Str → Option Value} {base : Heap}
theorem okSt_if {sh : List (Nat × Nat)} {i m : Nat} {ds : List PyData} (h : okSt sh i (m + 1) (.tuple (.str "if" :: ds)) = true) : ∃ t b c, ds = [t, b, c] ∧ bodyD (okSt sh i m) b = true ∧ bodyD (okSt sh i m) c = true ∧ cntSt (m + 1) (.tuple (.str "if" :: ds)) = 1 + (cntB (cntSt m) b + cntB (cntSt m) c) := by
  have l3 : ds.length = 3 := by
    rcases okSt_inv h with ⟨z, _⟩ | ⟨z, _⟩ | ⟨_, l⟩ | ⟨z, _⟩
    · exact absurd z (by decide +kernel)
    · exact absurd z (by decide +kernel)
    · exact l
    · exact absurd z (by decide +kernel)
  obtain ⟨t, b, c, rfl⟩ : ∃ t b c, ds = [t, b, c] := by
    match ds, l3 with
    | [t, b, c], _ => exact ⟨t, b, c, rfl⟩
  rw [okSt_ite, Bool.and_eq_true, Bool.and_eq_true] at h
  refine ⟨t, b, c, rfl, h.2.1, h.2.2, ?_⟩
  show (if shapedD (.str "if") 4 (.tuple [.str "if", t, b, c]) = true then _ else 1) = _
  rw [if_pos (sd_yes (x := "if") (ds := [t, b, c]) (k := 4) rfl)]
  rfl
theorem cntSt_no {m : Nat} {x : Str} {ds : List PyData} (h : ¬ x = "if") : cntSt (m + 1) (.tuple (.str x :: ds)) = 1 := by
  show (if shapedD (.str "if") 4 (.tuple (.str x :: ds)) = true then _ else 1) = 1
  rw [if_neg (sd_no h)]
theorem okSt_str {sh : List (Nat × Nat)} {i : Nat} : ∀ {n : Nat} {d : PyData}, okSt sh i n d = true → ∃ x ds, d = .tuple (.str x :: ds)
  | 0, d, h => by cases h
  | n + 1, d, h => by
    unfold okSt at h
    split at h
    · rename_i c; obtain ⟨ds, e, _⟩ := shaped_str c; exact ⟨_, ds, e⟩
    split at h
    · rename_i c; obtain ⟨ds, e, _⟩ := shaped_str c; exact ⟨_, ds, e⟩
    split at h
    · rename_i c; obtain ⟨ds, e, _⟩ := shaped_str c; exact ⟨_, ds, e⟩
    · rw [Bool.and_eq_true] at h
      obtain ⟨ds, e, _⟩ := shaped_str h.1
      exact ⟨_, ds, e⟩
noncomputable def spLawCount (K : PySem.W.Frag) (n : Nat) : Sp := fun vs H Q _ => ∃ (v : V) (sh : List (Nat × Nat)) (i m : Nat) (d : PyData), vs = [v] ∧ Rp K H v d ∧ bodyD (okSt sh i m) d = true ∧ m < n ∧ Q (.int ((cntB (cntSt m) d : Nat) : Int)) H
noncomputable abbrev sL_count : Stmt := top 100
noncomputable abbrev nL_count : List Str := ["_law_body_here", "_law_found", "_law_step_here"]
noncomputable abbrev pL_count : List Str := ["_law_body_here"]
theorem scL_count : FnScope nL_count pL_count (defScope sL_count) := ⟨rfl, rfl, rfl, by decide +kernel, rfl, by decide +kernel, by decide +kernel⟩
noncomputable abbrev sL_is_program : Stmt := top 101
noncomputable abbrev nL_is_program : List Str := ["_law_program_here", "_law_shapes", "_law_at", "_law_work", "_law_one"]
noncomputable abbrev pL_is_program : List Str := ["_law_program_here"]
theorem scL_is_program : FnScope nL_is_program pL_is_program (defScope sL_is_program) := ⟨rfl, rfl, rfl, by decide +kernel, rfl, by decide +kernel, by decide +kernel⟩
theorem okLawCount (D : DefAt K mg "_law_count" sL_count pL_count) (T : Blt mg) : ∀ n : Nat, Callee P w K mg base "_law_count" (n + 1) pL_count (spLawCount K n)
  | 0 => D.none fun vs H Q E h => by
    obtain ⟨v, sh, i, m, d, rfl, _, _, z, _⟩ := h
    omega
  | n + 1 => by
    have C_law_count := okLawCount D T n
    refine D.ok scL_count (fun vs H Q E h => ?_) (fun f cdv A outer s H vs Q E hr h => ?_)
    · obtain ⟨v, sh, i, m, d, rfl, _⟩ := h
      rfl
    obtain ⟨v, sh, i, m, d, rfl, hR, hb, mn, q⟩ := h
    refine ⟨_, (pss_cons (ps_set (i := 1) scL_count.nd rfl (Or.inl rfl) (pe_callB (cLen (K := K)) (by rfl) T.len PySem.boot_len (pa_cons (pv 0) pa_nil)))
  (pss_cons (ps_for PassesOwn.never rfl (piTup (K := K) (pv 0)) (pg_name (i := 2) scL_count.nd rfl (Or.inl rfl))
   (pss_one (ps_if (pt_cmpR op_eq (pe_ix (ixT (K := K)) (pv 2) pe_int (fun _ _ => rfl)) pe_str (nomark _)) (pss_one (ps_set (i := 1) scL_count.nd rfl (Or.inl rfl) (pe_op op_add (pe_op op_add (pv 1) (pcall C_law_count (hr.mono (by first | exact Nat.le_of_ble_eq_true rfl | omega)) rfl (pa_cons (pe_ix (ixT (K := K)) (pv 2) pe_int (fun _ _ => rfl)) pa_nil))) (pcall C_law_count (hr.mono (by first | exact Nat.le_of_ble_eq_true rfl | omega)) rfl (pa_cons (pe_ix (ixT (K := K)) (pv 2) pe_int (fun _ _ => rfl)) pa_nil))))) pss_nil)))
  (pss_one (ps_ret (pv 1))))), ?_⟩
    cases d with
    | tuple ss =>
      have hb' : ss.all (okSt sh i m) = true := hb
      obtain ⟨a, xs, rfl, hT, hx⟩ := hR.tup_inv
      have lx := hx.length
      have ec : cntB (cntSt m) (.tuple ss) = (ss.map (cntSt m)).sum := rfl
      rw [ec] at q
      walk_at "rd"
      refine forT (xs := xs) (fun j σ H' => H' = H ∧ ∃ (x2 : Option V) (k : Nat), σ = [some (.ref a), some (.int (k : Int)), x2] ∧ k + j = ss.length + ((ss.take j).map (cntSt m)).sum) ⟨rfl, none, xs.length, rfl, by rw [List.take_zero]; show xs.length + 0 = ss.length + 0; omega⟩ (fun j σ H' _ hp => ?_) (fun j x σ H' hx' hp => ?_) (fun σ H' hp => ?_)
      · obtain ⟨rfl, _⟩ := hp
        exact hT
      · obtain ⟨rfl, x2, k, rfl, ek⟩ := hp
        obtain ⟨d, ed, rd⟩ := hx.get' hx'
        have ok := List.all_eq_true.mp hb' d (List.mem_of_getElem? ed)
        obtain ⟨y, ds, rfl⟩ := okSt_str ok
        obtain ⟨p, ys, rfl, hP, hy⟩ := rd.tup_inv
        obtain ⟨y0, yr, rfl, gy, gr⟩ := hy.inv
        cases gy.str_inv
        have a0 : atI (V.str y :: yr) 0 = some (.str y) := at0
        have sm : ((ss.take (j + 1)).map (cntSt m)).sum = ((ss.take j).map (cntSt m)).sum + cntSt m (.tuple (.str y :: ds)) := by
          rw [List.take_add_one, ed, List.map_append, List.sum_append]
          show _ + (cntSt m (.tuple (.str y :: ds)) + 0) = _
          omega
        obtain ⟨m', rfl⟩ : ∃ m', m = m' + 1 := by
          cases m with
          | zero => cases ok
          | succ m' => exact ⟨m', rfl⟩
        walk_at "rd"
        refine ite2 (fun c => ?_) (fun c => ?_)
        · have yi : y = "if" := V.str.inj (of_decide_eq_true c)
          subst yi
          obtain ⟨t, b, e, rfl, h1, h2, h3⟩ := okSt_if ok
          obtain ⟨w0, r0, rfl, g0, gr0⟩ := gr.inv
          obtain ⟨w1, r1, rfl, g1, gr1⟩ := gr0.inv
          obtain ⟨w2, r2, rfl, g2, gr2⟩ := gr1.inv
          cases gr2.inv0
          have a2 : atI [V.str "if", w0, w1, w2] 2 = some w1 := at2
          have a3 : atI [V.str "if", w0, w1, w2] 3 = some w2 := at3
          walk_at "rd"
          refine ask ⟨w1, sh, i, m', b, rfl, g1, h1, by omega, ?_⟩
          walk_at "rd"
          refine ask ⟨w2, sh, i, m', e, rfl, g2, h2, by omega, ?_⟩
          walk_at "rd"
          refine ⟨rfl, _, k + cntB (cntSt m') b + cntB (cntSt m') e, rfl, ?_⟩
          rw [sm, h3]
          omega
        · have yi : ¬ y = "if" := fun z => c (decide_eq_true (congrArg V.str z))
          walk_at "rd"
          refine ⟨rfl, _, k, rfl, ?_⟩
          rw [sm, cntSt_no yi]
          omega
      · obtain ⟨rfl, x2, k, rfl, ek⟩ := hp
        rw [List.take_of_length_le (by omega)] at ek
        have : k = (ss.map (cntSt m)).sum := by omega
        walk_at "rd"
        rw [this]
        exact q
    | _ => cases hb
/-- the program's works, as they are told -/
structure Wq (d : PyData) : Prop where
  is : ∃ (p o : Int) (b : PyData), d = .tuple [.int p, .int o, b] ∧ Bq b
noncomputable def spLawIsProgram (K : PySem.W.Frag) : Sp := fun vs H Q _ => ∃ (v : V) (ws : List PyData), vs = [v] ∧ Rp K H v (.tuple ws) ∧ (∀ d ∈ ws, Wq d) ∧ ws.length ≤ 90000 ∧ ∀ (b : Bool) (H' : Hp), (b = true ↔ OkProg (.tuple ws)) → Keep [] H H' → Q (.bl b) H'
theorem lcLi' {σ : L2.St} {H : Hp} {Q : VK} {te : TE} {a : Addr} {xs : List V} {g : TG} {tt : TT} {vs : List Nat} (Pv : Addr → Nat → Hp → Prop) (h0 : ∀ E H1, H E = none → H1 E = some (.lst []) → Keep [] H H1 → Pv E 0 H1) (hG : ∀ E i H, i ≤ xs.length → Pv E i H → SqL K H a xs)
    (hs : ∀ E i x H, xs[i]? = some x → Pv E i H → g x (wipe σ vs) H fun σ2 H2 => wipe σ2 vs = wipe σ vs ∧ tt σ2 H2 fun b H3 => if b = true then te σ2 H3 fun y H4 => Acc E y H4 (Pv E (i + 1)) else Pv E (i + 1) H3) (hd : ∀ E H, Pv E xs.length H → Q (.ref E) H) : LcIt (Itl K a) g tt te vs σ H Q :=
  lcYi walk_list Pv h0 hG (fun E i x H H' hi p y => by
    obtain ⟨rfl, e⟩ := y
    exact hs E i x H' e p) hd
noncomputable def goodPO (p o : Int) : Bool := (decide (0 ≤ p) && decide (p ≤ 3)) && (decide (0 ≤ o) && decide (o ≤ 99))
noncomputable def goodW (d : PyData) : Bool := match d with
  | .tuple [.int p, .int o, _] => goodPO p o
  | _ => false
theorem headD_good {i : Nat} {p o : Int} {b : PyData} : headD i (.tuple [.int p, .int o, b]) = true ↔ goodPO p o = true ∧ (i = 0 → p = 0) := by
  rw [headD_3]
  have e1 : belowD (if i = 0 then 0 + 1 else 3 + 1) (.int p) = (decide (0 ≤ p) && decide (p < if i = 0 then 0 + 1 else 3 + 1)) := rfl
  have e2 : belowD (99 + 1) (.int o) = (decide (0 ≤ o) && decide (o < 99 + 1)) := rfl
  unfold goodPO
  rw [e1, e2]
  simp only [Bool.and_eq_true, decide_eq_true_eq]
  by_cases z : i = 0
  · rw [if_pos z]
    constructor
    · intro h
      exact ⟨by omega, fun _ => by omega⟩
    · intro h
      have := h.2 z
      omega
  · rw [if_neg z]
    constructor
    · intro h
      exact ⟨by omega, fun y => absurd y z⟩
    · intro h
      omega
theorem okLawIsProgram (D : DefAt K mg "_law_is_program" sL_is_program pL_is_program) (T : Blt mg) (C_law_is_body : Callee P w K mg base "_law_is_body" 21 pL_is_body (spLawIsBody K 6)) (C_law_count : Callee P w K mg base "_law_count" 7 pL_count (spLawCount K 6)) : Callee P w K mg base "_law_is_program" 22 pL_is_program (spLawIsProgram K) := by
  refine D.ok scL_is_program (fun vs H Q E h => ?_) (fun f cdv A outer s H vs Q E hr h => ?_)
  · obtain ⟨v, ws, rfl, _⟩ := h
    rfl
  obtain ⟨v, ws, rfl, hR, wq, lw, q⟩ := h
  obtain ⟨a, xs, rfl, hT, hx⟩ := hR.tup_inv
  have lx := hx.length
  refine ⟨_, (pss_cons (ps_setLc (i := 1) (own := [("_law_work", 3)]) (g := gName 3) (by rfl) scL_is_program.nd rfl rfl (sw_true rfl rfl rfl (by decide +kernel)) (piTup (K := K) (pv 0)) (blkOk_by (own := [("_law_work", 3)]) (N := nL_is_program) (sc := defScope sL_is_program) (by decide +kernel)) (fun _ _ _ _ _ => (pg_name (i := 3) scL_is_program.nd rfl (Or.inl rfl))) (fun _ _ _ _ _ => pts_nil) (fun _ _ _ _ _ => (pe_slice (slA (K := K)) (pv 3) po_none (po_some pe_int))))
  (pss_cons (ps_if (PW.pt (pw_or (pt_not (pt_chain op_le op_le pe_int (pe_callB (cLen (K := K)) (by rfl) T.len PySem.boot_len (pa_cons (pv 1) pa_nil)) pe_int)) (pw_or1 (pt_cmpR op_ne (pe_ix (ixT (K := K)) (pe_ix (ixL (K := K)) (pv 1) pe_int (fun _ _ => rfl)) pe_int (fun _ _ => rfl)) pe_int (nomark _))))) (pss_one (ps_ret pe_bl)) pss_nil)
  (pss_cons (ps_if (pt_cmpR (opNeE (K := K) hr.units0) (pe_lc (own := [("_law_one", 4)]) (g := gName 4) (by rfl) scL_is_program.nd (piList (K := K) (pv 1)) (blkOk_by (own := [("_law_one", 4)]) (N := nL_is_program) (sc := defScope sL_is_program) (by decide +kernel)) (fun _ _ _ _ _ => (pg_name (i := 4) scL_is_program.nd rfl (Or.inl rfl))) (fun _ _ _ _ _ => (pts_one (PW.pt (pw_or (pt_not (pt_chain op_le op_le pe_int (pe_ix (ixT (K := K)) (pv 4) pe_int (fun _ _ => rfl)) pe_int)) (pw_or1 (pt_not (pt_chain op_le op_le pe_int (pe_ix (ixT (K := K)) (pv 4) pe_int (fun _ _ => rfl)) pe_int))))))) (fun _ _ _ _ _ => (pv 4))) (pe_lst pa_nil) (nomark _)) (pss_one (ps_ret pe_bl)) pss_nil)
  (pss_cons (ps_for PassesOwn.never rfl (pi_range1 rfl T.range (pa_cons (pe_callB (cLen (K := K)) (by rfl) T.len PySem.boot_len (pa_cons (pv 0) pa_nil)) pa_nil)) (pg_name (i := 2) scL_is_program.nd rfl (Or.inl rfl))
   (pss_one (ps_if (PW.pt (pw_or (pt_not (pt_val (pcall C_law_is_body (hr.mono (by first | exact Nat.le_of_ble_eq_true rfl | omega)) rfl (pa_cons (pv 1) (pa_cons (pv 2) (pa_cons (pe_ix (ixT (K := K)) (pe_ix (ixT (K := K)) (pv 0) (pv 2) (fun _ _ => rfl)) pe_int (fun _ _ => rfl)) (pa_cons pe_int pa_nil))))))) (pw_or1 (pt_cmpR op_gt (pcall C_law_count (hr.mono (by first | exact Nat.le_of_ble_eq_true rfl | omega)) rfl (pa_cons (pe_ix (ixT (K := K)) (pe_ix (ixT (K := K)) (pv 0) (pv 2) (fun _ _ => rfl)) pe_int (fun _ _ => rfl)) pa_nil)) pe_int (nomark _))))) (pss_one (ps_ret pe_bl)) pss_nil)))
  (pss_one (ps_ret pe_bl)))))), ?_⟩
  walk_at "rd"
  refine lcT (xs := xs) (fun E j H' => ∃ ys : List V, H E = none ∧ Keep [] H H' ∧ H' E = some (.lst ys) ∧ ys.length = j ∧ ∀ (m : Nat) (p o : Int) (b : PyData), m < j → ws[m]? = some (.tuple [.int p, .int o, b]) → ∃ t, ys[m]? = some (.ref t) ∧ SqT K H' t [.int p, .int o]) (fun E H1 nE e1 k1 => ⟨[], nE, k1, e1, rfl, fun m p o b z => by omega⟩) (fun E j H1 _ hp => ?_) (fun E j x H1 hx' hp => ?_) (fun E H1 hp => ?_)
  · obtain ⟨ys, nE, k1, _⟩ := hp
    exact (keep_ts0 k1).sqT hT
  · obtain ⟨ys, nE, k1, h1, ly, at_⟩ := hp
    obtain ⟨d, ed, rd⟩ := hx.get' hx'
    obtain ⟨p, o, b, rfl, _⟩ := (wq d (List.mem_of_getElem? ed)).is
    obtain ⟨wp, zs, rfl, hW, hz⟩ := (rd.ts (keep_ts0 k1)).tup_inv
    obtain ⟨v0, r0, rfl, g0, gr⟩ := hz.inv
    obtain ⟨v1, r1, rfl, g1, gr1⟩ := gr.inv
    obtain ⟨v2, r2, rfl, g2, gr2⟩ := gr1.inv
    cases gr2.inv0
    cases g0.int_inv
    cases g1.int_inv
    have lt : ys.length ≤ 90000 := by have := (List.getElem?_eq_some_iff.mp hx').1; omega
    walk_at "rd"
    refine ⟨rfl, ?_⟩
    walk_at "rd"
    intro sl H2 hsl k2 f2
    rw [show cutV [V.int p, .int o, v2] none (some 2) = [.int p, .int o] from rfl] at hsl
    have h2 := k2 _ _ h1 (by simp)
    walk_at "rd"
    intro H3 h3 k3
    have t23 : Tst H2 H3 := k3.ts fun y hy => by cases List.mem_singleton.mp hy; exact .inl ⟨_, h2⟩
    refine ⟨_, nE, (k1.trans k2).fresh1 k3 nE, h3, by rw [List.length_append, ly]; rfl, fun m p' o' b' hm em => ?_⟩
    by_cases z : m < j
    · obtain ⟨t, e1, e2⟩ := at_ m p' o' b' z em
      exact ⟨t, by rw [List.getElem?_append_left (by omega)]; exact e1, ((keep_ts0 k2).trans t23).sqT e2⟩
    · have : m = j := by omega
      subst this
      rw [ed] at em
      cases em
      exact ⟨sl, by rw [List.getElem?_append_right (by omega), ly, Nat.sub_self]; rfl, t23.sqT hsl⟩
  obtain ⟨ys, nE, k1, h1, ly, at_⟩ := hp
  have lyw : ys.length = ws.length := by omega
  have ely : ((ys.length : Nat) : Int) = (ws.length : Int) := by rw [lyw]
  have sE : SqL K H1 E ys := SqL.of h1
  walk_at "rd"
  refine r_or ?_
  walk_at "rd"
  by_cases c1 : 1 ≤ ws.length
  case neg =>
    rw [if_neg (fun z => c1 (by have := of_decide_eq_true z; omega))]
    walk_at "rd"
    exact q false H1 ⟨fun z => Bool.noConfusion z, fun ⟨_, z, z2, _⟩ => by cases z; exact absurd z2.1 c1⟩ k1
  rw [if_pos (decide_eq_true (by omega))]
  walk_at "rd"
  by_cases c4 : ws.length ≤ 4
  case neg =>
    rw [decide_eq_false (show ¬ (ys.length : Int) ≤ 4 by omega)]
    walk_at "rd"
    exact q false H1 ⟨fun z => Bool.noConfusion z, fun ⟨_, z, z2, _⟩ => by cases z; exact absurd z2.2 c4⟩ k1
  rw [decide_eq_true (show (ys.length : Int) ≤ 4 by omega)]
  obtain ⟨p0, o0, b0, ew0, _⟩ := (wq ws[0] (List.getElem_mem (by omega))).is
  have ew0' : ws[0]? = some (.tuple [.int p0, .int o0, b0]) := by rw [List.getElem?_eq_getElem (by omega), ew0]
  obtain ⟨t0, et0, ht0⟩ := at_ 0 p0 o0 b0 (by omega) ew0'
  have at00 : atI ys 0 = some (.ref t0) := atI_nat (j := 0) et0
  have at0p : atI [V.int p0, .int o0] 0 = some (.int p0) := at0
  walk_at "rd"
  by_cases cp : p0 = 0
  case neg =>
    rw [decide_eq_false (show ¬ V.int p0 = V.int 0 from fun z => cp (V.int.inj z))]
    walk_at "rd"
    refine q false H1 ⟨fun z => Bool.noConfusion z, fun ⟨_, z, _, z3, _⟩ => ?_⟩ k1
    cases z
    exact absurd ((headD_good.mp (z3 0 _ ew0')).2 rfl) cp
  rw [decide_eq_true (congrArg V.int cp)]
  walk_at "rd"
  refine lcLi' (xs := ys) (fun F j H' => ∃ zs : List V, H1 F = none ∧ Keep [] H1 H' ∧ H' F = some (.lst zs) ∧ zs.length ≤ j ∧ zs.isEmpty = (ws.take j).all goodW) (fun F H2 nF e2 k2 => ⟨[], nF, k2, e2, Nat.le_refl _, rfl⟩) (fun F j H2 _ hp => ?_) (fun F j x H2 hx' hp => ?_) (fun F H2 hp => ?_)
  · obtain ⟨zs, nF, k2, _⟩ := hp
    exact k2.sqL (by simp) sE
  · obtain ⟨zs, nF, k2, h2, lz, ez⟩ := hp
    have hj := (List.getElem?_eq_some_iff.mp hx').1
    rw [lyw] at hj
    obtain ⟨p, o, b, ew, _⟩ := (wq ws[j] (List.getElem_mem hj)).is
    have ew' : ws[j]? = some (.tuple [.int p, .int o, b]) := by rw [List.getElem?_eq_getElem hj, ew]
    obtain ⟨t, et, ht⟩ := at_ j p o b (by omega) ew'
    rw [hx'] at et
    cases et
    have ht2 := (keep_ts0 k2).sqT ht
    have ap : atI [V.int p, .int o] 0 = some (.int p) := at0
    have ao : atI [V.int p, .int o] 1 = some (.int o) := at1
    have lt : zs.length ≤ 90000 := by omega
    have al : (ws.take (j + 1)).all goodW = ((ws.take j).all goodW && goodPO p o) := by
      rw [List.take_add_one, ew', List.all_append]
      show (_ && (goodPO p o && true)) = _
      rw [Bool.and_true]
    have good : goodPO p o = true → ∃ zs : List V, H1 F = none ∧ Keep [] H1 H2 ∧ H2 F = some (.lst zs) ∧ zs.length ≤ j + 1 ∧ zs.isEmpty = (ws.take (j + 1)).all goodW := fun g => ⟨zs, nF, k2, h2, by omega, by rw [al, g, Bool.and_true]; exact ez⟩
    have bad : goodPO p o = false → ∀ H3, H3 F = some (.lst (zs ++ [V.ref t])) → Keep [F] H2 H3 → ∃ zs : List V, H1 F = none ∧ Keep [] H1 H3 ∧ H3 F = some (.lst zs) ∧ zs.length ≤ j + 1 ∧ zs.isEmpty = (ws.take (j + 1)).all goodW := fun g H3 h3 k3 => by
      refine ⟨_, nF, k2.fresh1 k3 nF, h3, by rw [List.length_append]; show zs.length + 1 ≤ _; omega, ?_⟩
      rw [al, g, Bool.and_false]
      cases zs <;> rfl
    unfold goodPO at good bad
    walk_at "rd"
    refine ⟨rfl, ?_⟩
    walk_at "rd"
    refine r_or ?_
    walk_at "rd"
    refine cases_b (decide (0 ≤ p)) (fun d1 => ?_) (fun d1 => ?_)
    case refine_2 =>
      rw [d1, if_neg (by decide)]
      rw [d1] at bad
      walk_at "rd"
      exact bad rfl
    rw [d1, if_pos rfl]
    walk_at "rd"
    refine cases_b (decide (p ≤ 3)) (fun d2 => ?_) (fun d2 => ?_)
    case refine_2 =>
      rw [d2]
      rw [d1, d2] at bad
      walk_at "rd"
      exact bad rfl
    rw [d2]
    walk_at "rd"
    refine cases_b (decide (0 ≤ o)) (fun d3 => ?_) (fun d3 => ?_)
    case refine_2 =>
      rw [d3, if_neg (by decide)]
      rw [d1, d2, d3] at bad
      walk_at "rd"
      exact bad rfl
    rw [d3, if_pos rfl]
    walk_at "rd"
    refine cases_b (decide (o ≤ 99)) (fun d4 => ?_) (fun d4 => ?_)
    case refine_2 =>
      rw [d4]
      rw [d1, d2, d3, d4] at bad
      walk_at "rd"
      exact bad rfl
    rw [d4]
    rw [d1, d2, d3, d4] at good
    walk_at "rd"
    exact good rfl
  obtain ⟨zs, nF, k2, h2, lz, ez⟩ := hp
  rw [List.take_of_length_le (by omega)] at ez
  walk_at "rd"
  intro el H3 nel hel k3
  have h3 := k3 _ _ h2 (by simp)
  have k13 := k2.trans k3
  have k03 := k1.trans k13
  walk_at "rd"
  refine r_neE (SqL.of h3) (SqL.of hel) ?_
  rw [ez]
  refine cases_b (ws.all goodW) (fun ca => ?_) (fun ca => ?_)
  case refine_2 =>
    rw [ca]
    walk_at "rd"
    refine q false H3 ⟨fun z => Bool.noConfusion z, fun ⟨_, z, _, z3, _⟩ => ?_⟩ k03
    cases z
    have : ws.all goodW = true := by
      rw [List.all_eq_true]
      intro d hd
      obtain ⟨j, ej⟩ := List.mem_iff_getElem?.mp hd
      obtain ⟨p, o, b, rfl, _⟩ := (wq d hd).is
      exact (headD_good.mp (z3 j _ ej)).1
    rw [ca] at this
    cases this
  rw [ca]
  have heads : ∀ (j : Nat) (x : PyData), ws[j]? = some x → headD j x = true := fun j x e => by
    have hx2 := List.all_eq_true.mp ca x (List.mem_of_getElem? e)
    obtain ⟨p, o, b, rfl, _⟩ := (wq x (List.mem_of_getElem? e)).is
    refine headD_good.mpr ⟨hx2, fun z => ?_⟩
    subst z
    rw [ew0'] at e
    cases e
    exact cp
  have ls : (shD ws).length = ws.length := List.length_map _
  have shs : Shs K H3 E (shD ws) := by
    refine ⟨ys, k13.sqL (by simp) sE, by omega, fun i hi => ?_⟩
    have hi' : i < ws.length := by omega
    have ew := List.getElem?_eq_getElem hi'
    obtain ⟨p, o, b, e, _⟩ := headD_inv (heads i _ ew)
    rw [e] at ew
    obtain ⟨t, et, ht⟩ := at_ i p o b (by omega) ew
    have es : shOf (shD ws) i = (p, o) := by
      unfold shOf shD
      rw [List.getD_eq_getElem?_getD, List.getElem?_map, ew]
      rfl
    rw [es]
    exact ⟨t, atI_nat et, (keep_ts0 k13).sqT ht⟩
  have hT3 := (keep_ts0 k03).sqT hT
  have elx : ((xs.length : Nat) : Int) = (ws.length : Int) := by rw [lx]
  walk_at "rd"
  rw [Int.toNat_natCast]
  refine forR (fun j σ H' => (∃ x2 : Option V, σ = [some (.ref a), some (.ref E), x2, none, none]) ∧ Keep [] H3 H' ∧ ∀ (m : Nat) (x : PyData), m < j → ws[m]? = some x → bodyD (okSt (shD ws) m 5) (itemD x 2) = true ∧ cntB (cntSt 5) (itemD x 2) ≤ 100) ⟨⟨_, rfl⟩, Keep.refl, fun m x z => by omega⟩ (fun j σ H4 hj hp => ?_) (fun σ H4 hp => ?_)
  · obtain ⟨⟨x2, rfl⟩, k4, okb⟩ := hp
    have hj' : j < ws.length := by omega
    have ew := List.getElem?_eq_getElem hj'
    obtain ⟨u, eu, hu⟩ := hx.get ew
    obtain ⟨p, o, b, e, bq⟩ := (wq ws[j] (List.getElem_mem hj')).is
    have eb : itemD ws[j] 2 = b := by rw [e]; rfl
    have k04 := k03.trans k4
    have hu4 := hu.ts (keep_ts0 k04)
    rw [e] at hu4
    obtain ⟨wp, zs', rfl, hW, hz⟩ := hu4.tup_inv
    obtain ⟨v0, r0, rfl, g0, gr⟩ := hz.inv
    obtain ⟨v1, r1, rfl, g1, gr1⟩ := gr.inv
    obtain ⟨v2, r2, rfl, g2, gr2⟩ := gr1.inv
    cases gr2.inv0
    have hT4 := (keep_ts0 k4).sqT hT3
    have au := atI_nat eu
    have a2 : atI [v0, v1, v2] 2 = some v2 := at2
    walk_at "rd"
    refine r_or ?_
    walk_at "rd"
    refine ask ⟨E, shD ws, j, 0, v2, b, rfl, shs.keep0 k4, by omega, g2, bq, by omega, by omega, fun H5 k5 => ?_⟩
    have hT5 := (keep_ts0 k5).sqT hT4
    have hW5 := (keep_ts0 k5).sqT hW
    walk_at "rd"
    refine cases_b (bodyD (okSt (shD ws) j (5 - 0)) b) (fun cb => ?_) (fun cb => ?_)
    case refine_2 =>
      rw [cb]
      walk_at "rd"
      refine q false H5 ⟨fun z => Bool.noConfusion z, fun ⟨_, z, _, _, z4⟩ => ?_⟩ (k04.trans k5)
      cases z
      have := (z4 j _ ew).1
      rw [eb] at this
      have cb' : bodyD (okSt (shD ws) j 5) b = false := cb
      rw [cb'] at this
      cases this
    rw [cb]
    walk_at "rd"
    refine ask ⟨v2, shD ws, j, 5, b, rfl, g2.ts (keep_ts0 k5), cb, by omega, ?_⟩
    walk_at "rd"
    refine ite2 (fun c => ?_) (fun c => ?_)
    · walk_at "rd"
      refine q false H5 ⟨fun z => Bool.noConfusion z, fun ⟨_, z, _, _, z4⟩ => ?_⟩ (k04.trans k5)
      cases z
      have := (z4 j _ ew).2
      rw [eb] at this
      have := of_decide_eq_true c
      omega
    · have c' : ¬ (100 : Int) < ((cntB (cntSt 5) b : Nat) : Int) := fun z => c (decide_eq_true z)
      walk_at "rd"
      refine ⟨⟨_, rfl⟩, k4.trans k5, fun m x hm em => ?_⟩
      by_cases z : m < j
      · exact okb m x z em
      · have : m = j := by omega
        subst this
        rw [ew] at em
        cases em
        rw [eb]
        exact ⟨cb, by omega⟩
  · obtain ⟨⟨x2, rfl⟩, k4, okb⟩ := hp
    walk_at "rd"
    exact q true H4 ⟨fun _ => ⟨ws, rfl, ⟨c1, c4⟩, heads, fun i x e => okb i x (by have := (List.getElem?_eq_some_iff.mp e).1; omega) e⟩, fun _ => rfl⟩ (k03.trans k4)
end
end
section
section
variable {P : Program} {w : World} {K : PySem.W.Frag} {mg : Str → Option Value} {base : Heap}
noncomputable def vws (ws : List Str) : List V := ws.map V.str
theorem vws_len {ws : List Str} : (vws ws).length = ws.length := List.length_map _
theorem vws_app {a b : List Str} : vws (a ++ b) = vws a ++ vws b := List.map_append
noncomputable def spThingWords (K : PySem.W.Frag) (n : Nat) : Sp := fun vs H Q _ => ∃ (v : V) (t : Th) (p o d : Nat), vs = [v] ∧ Rp K H v t.enc ∧ Th.ok p o d t ∧ p ≤ 100 ∧ o ≤ 100 ∧ d ≤ 4 ∧ d < n ∧ ∀ (a : Addr) (H' : Hp), Keep [] H H' → H a = none → H' a = some (.lst (vws t.words)) → Q (.ref a) H'
noncomputable def spThingsWords (K : PySem.W.Frag) (n : Nat) : Sp := fun vs H Q _ => ∃ (v : V) (ts : List Th) (p o d : Nat), vs = [v] ∧ Rp K H v (.tuple (ts.map Th.enc)) ∧ (∀ t ∈ ts, Th.ok p o d t) ∧ ts.length ≤ 3 ∧ p ≤ 100 ∧ o ≤ 100 ∧ d ≤ 4 ∧ d < n ∧ ∀ (a : Addr) (H' : Hp), Keep [] H H' → H a = none → H' a = some (.lst (vws (wordsOf ts))) → Q (.ref a) H'
theorem wB_4 {d : Nat} (h : d ≤ 4) : wB d ≤ 47 := by
  match d, h with
  | 0, _ => decide
  | 1, _ => decide
  | 2, _ => decide
  | 3, _ => decide
  | 4, _ => decide
theorem th_w47 {p o d : Nat} {t : Th} (ok : Th.ok p o d t) (h : d ≤ 4) : t.words.length ≤ 47 := Nat.le_trans (th_words ok) (wB_4 h)
theorem wordsOf_take {ts : List Th} {i : Nat} {t : Th} (h : ts[i]? = some t) : wordsOf (ts.take (i + 1)) = wordsOf (ts.take i) ++ t.words := by
  unfold wordsOf
  rw [List.take_succ, h, List.map_append, List.flatten_append]
  show _ ++ (t.words ++ []) = _
  rw [List.append_nil]
theorem ths_w {p o d : Nat} (h4 : d ≤ 4) : ∀ {ts : List Th}, (∀ t ∈ ts, Th.ok p o d t) → (wordsOf ts).length ≤ 47 * ts.length
  | [], _ => Nat.le_refl _
  | t :: ts, h => by
    have a := th_w47 (h t List.mem_cons_self) h4
    have b := ths_w h4 (ts := ts) fun u hu => h u (List.mem_cons_of_mem _ hu)
    show (t.words ++ wordsOf ts).length ≤ 47 * (ts.length + 1)
    rw [List.length_append]
    omega
noncomputable abbrev sthing_words : Stmt := top 81
noncomputable abbrev nthing_words : List Str := ["thing", "word"]
noncomputable abbrev pthing_words : List Str := ["thing"]
theorem scthing_words : FnScope nthing_words pthing_words (defScope sthing_words) := ⟨rfl, rfl, rfl, by decide +kernel, rfl, by decide +kernel, by decide +kernel⟩
noncomputable abbrev sthings_words : Stmt := top 80
noncomputable abbrev nthings_words : List Str := ["things", "words", "thing"]
noncomputable abbrev pthings_words : List Str := ["things"]
theorem scthings_words : FnScope nthings_words pthings_words (defScope sthings_words) := ⟨rfl, rfl, rfl, by decide +kernel, rfl, by decide +kernel, by decide +kernel⟩
theorem okThingsWords {n : Nat} (D : DefAt K mg "things_words" sthings_words pthings_words) (C_thing_words : Callee P w K mg base "thing_words" (2 * n + 1) pthing_words (spThingWords K n)) : Callee P w K mg base "things_words" (2 * n + 2) pthings_words (spThingsWords K n) := by
  refine D.ok scthings_words (fun vs H Q E h => ?_) (fun f cdv A outer s H vs Q E hr h => ?_)
  · obtain ⟨v, ts, p, o, d, rfl, _⟩ := h
    rfl
  obtain ⟨v, ts, p, o, d, rfl, hv, ok, l3, p1, o1, d4, dn, q⟩ := h
  refine ⟨_, (pss_cons (ps_set (i := 1) scthings_words.nd rfl (Or.inl rfl) (pe_lst pa_nil))
  (pss_cons (ps_for PassesOwn.never rfl (piTup (K := K) (pv 0)) (pg_name (i := 2) scthings_words.nd rfl (Or.inl rfl))
   (pss_one (ps_expr (peExt (K := K) (pv 1) (pcall C_thing_words (hr.mono (by first | exact Nat.le_of_ble_eq_true rfl | omega)) rfl (pa_cons (pv 2) pa_nil))))))
  (pss_one (ps_ret (pv 1))))), ?_⟩
  obtain ⟨a, xs, rfl, hS, hx⟩ := hv.tup_inv
  have lx : xs.length = ts.length := by rw [hx.length, List.length_map]
  walk_at "rd"
  intro b H1 nb hb k1
  have hS1 := (keep_ts0 k1).sqT hS
  walk_at "rd"
  refine forT (xs := xs) (fun j σ H' => ∃ x2 : Option V, σ = [some (.ref a), some (.ref b), x2] ∧ Keep [b] H1 H' ∧ H' b = some (.lst (vws (wordsOf (ts.take j))))) ⟨_, rfl, Keep.refl, hb⟩ (fun j σ H' _ hp => ?_) (fun j x σ H2 hx2 hp => ?_) (fun σ H' hp => ?_)
  · obtain ⟨x2, rfl, k, _⟩ := hp
    exact (k.ts fun x hx => by cases List.mem_singleton.mp hx; exact .inl ⟨_, hb⟩).sqT hS1
  · obtain ⟨x2, rfl, k2, h2⟩ := hp
    have hj : j < ts.length := by rw [← lx]; exact (List.getElem?_eq_some_iff.mp hx2).1
    have et := List.getElem?_eq_getElem hj
    obtain ⟨dd, ed, rd⟩ := hx.get' hx2
    rw [List.getElem?_map, et] at ed
    cases ed
    have okt := ok _ (List.getElem_mem hj)
    have t12 : Tst H1 H2 := k2.ts fun x hx => by cases List.mem_singleton.mp hx; exact .inl ⟨_, hb⟩
    walk_at "rd"
    refine ask ⟨x, ts[j], p, o, d, rfl, (rd.ts (keep_ts0 k1)).ts t12, okt, p1, o1, d4, dn, fun c H3 k3 nc hc => ?_⟩
    have h23 := k3 _ _ h2 (by simp)
    have l1 := ths_w d4 (ts := ts.take j) fun u hu => ok u (List.mem_of_mem_take hu)
    have l2 := th_w47 okt d4
    have l4 : (ts.take j).length ≤ 3 := by rw [List.length_take]; omega
    walk_at "rd"
    refine r_ext h23 hc (Nat.le_trans (show (vws (wordsOf (ts.take j))).length + (vws ts[j].words).length ≤ 1000 by rw [vws_len, vws_len]; omega) (small (by omega))) fun H4 e4 k4 => ?_
    walk_at "rd"
    refine ⟨_, rfl, (k2.trans (k3.mono (by simp))).trans k4, ?_⟩
    rw [wordsOf_take et, vws_app]
    exact e4
  · obtain ⟨x2, rfl, k2, h2⟩ := hp
    rw [List.take_of_length_le (by omega)] at h2
    walk_at "rd"
    exact q b H' ((((k1.mono (by simp) : Keep [b] H H1)).trans k2).loseN fun x hx => by cases List.mem_singleton.mp hx; exact .inr nb) nb h2
theorem okThingWords (D : DefAt K mg "thing_words" sthing_words pthing_words) (T : Blt mg) (Ds : DefAt K mg "things_words" sthings_words pthings_words) : ∀ n, Callee P w K mg base "thing_words" (2 * n + 1) pthing_words (spThingWords K n)
  | 0 => D.none fun vs H Q E h => by
    obtain ⟨_, _, _, _, _, rfl, _, _, _, _, _, z, _⟩ := h
    omega
  | n + 1 => by
    have C_thing_words := okThingWords D T Ds n
    have C_things_words := okThingsWords Ds C_thing_words
    refine D.ok scthing_words (fun vs H Q E h => ?_) (fun f cdv A outer s H vs Q E hr h => ?_)
    · obtain ⟨v, t, p, o, d, rfl, _⟩ := h
      rfl
    obtain ⟨v, t, p, o, d, rfl, hv, ok, p1, o1, d4, dn, q⟩ := h
    refine ⟨_, (pss_cons (ps_set (i := 1) scthing_words.nd rfl (Or.inl rfl) (pe_ix (ixT (K := K)) (pv 0) pe_int (fun _ _ => rfl)))
  (pss_cons (ps_if (pt_cmpR op_eq (pv 1) pe_str (nomark _)) (pss_one (ps_ret (pe_lst (pa_cons (pe_callTy cStr (by rfl) T.str (by decide +kernel) (pa_cons (pe_ix (ixT (K := K)) (pv 0) pe_int (fun _ _ => rfl)) pa_nil)) pa_nil)))) pss_nil)
  (pss_cons (ps_if (pt_cmpR op_eq (pv 1) pe_str (nomark _)) (pss_one (ps_ret (pe_op op_cat (pe_lst (pa_cons pe_str pa_nil)) (pcall C_things_words (hr.mono (by first | exact Nat.le_of_ble_eq_true rfl | omega)) rfl (pa_cons (pe_slice (slA (K := K)) (pv 0) (po_some pe_int) po_none) pa_nil))))) pss_nil)
  (pss_cons (ps_if (pt_cmpR op_eq (pv 1) pe_str (nomark _)) (pss_one (ps_ret (pe_op op_cat (pe_lst (pa_cons pe_str pa_nil)) (pcall C_thing_words (hr.mono (by first | exact Nat.le_of_ble_eq_true rfl | omega)) rfl (pa_cons (pe_ix (ixT (K := K)) (pv 0) pe_int (fun _ _ => rfl)) pa_nil))))) pss_nil)
  (pss_one (ps_ret (pe_lst (pa_cons (pv 1) (pa_cons (pe_callTy cStr (by rfl) T.str (by decide +kernel) (pa_cons (pe_ix (ixT (K := K)) (pv 0) pe_int (fun _ _ => rfl)) pa_nil)) pa_nil))))))))), ?_⟩
    cases t with
    | num k =>
      obtain ⟨a, rfl, hS⟩ := Th.inv_num hv
      have a0 : atI [V.str "num", V.int (k : Int)] 0 = some (.str "num") := at0
      have a1 : atI [V.str "num", V.int (k : Int)] 1 = some (.int (k : Int)) := at1
      have hk : k < 3 := by cases d <;> exact ok
      walk_at "rd"
      intro b H1 nb hb k1
      exact q b H1 k1 nb hb
    | own k =>
      obtain ⟨a, rfl, hS⟩ := Th.inv_own hv
      have a0 : atI [V.str "own", V.int (k : Int)] 0 = some (.str "own") := at0
      have a1 : atI [V.str "own", V.int (k : Int)] 1 = some (.int (k : Int)) := at1
      have hk : k < o := by cases d <;> exact ok
      walk_at "rd"
      intro b H1 nb hb k1
      exact q b H1 k1 nb hb
    | par k =>
      obtain ⟨a, rfl, hS⟩ := Th.inv_par hv
      have a0 : atI [V.str "par", V.int (k : Int)] 0 = some (.str "par") := at0
      have a1 : atI [V.str "par", V.int (k : Int)] 1 = some (.int (k : Int)) := at1
      have hk : k < p := by cases d <;> exact ok
      walk_at "rd"
      intro b H1 nb hb k1
      exact q b H1 k1 nb hb
    | cell x =>
      obtain ⟨a, vx, rfl, hS, hx⟩ := Th.inv_cell hv
      have a0 : atI [V.str "cell", vx] 0 = some (.str "cell") := at0
      have a1 : atI [V.str "cell", vx] 1 = some vx := at1
      cases d with
      | zero => exact ok.elim
      | succ d =>
      have l := th_w47 (t := x) (d := d) ok (by omega)
      walk_at "rd"
      intro b H1 nb hb k1
      have hS1 := (keep_ts0 k1).sqT hS
      walk_at "rd"
      refine ask ⟨vx, x, p, o, d, rfl, hx.ts (keep_ts0 k1), ok, p1, o1, by omega, by omega, fun c H2 k2 nc hc => ?_⟩
      have hb2 := k2 _ _ hb (by simp)
      walk_at "rd"
      refine r_cat hb2 hc (Nat.le_trans (show [V.str "cell"].length + (vws x.words).length ≤ 1000 by rw [vws_len, List.length_singleton]; omega) (small (by omega))) ?_
      walk_at "rd"
      intro e H3 ne he k3
      have k13 := (k1.trans k2).trans k3
      exact q e H3 k13 (free0 (k1.trans k2) ne) he
    | sum x y =>
      obtain ⟨a, vx, vy, rfl, hS, hx, hy⟩ := Th.inv_sum hv
      have a0 : atI [V.str "sum", vx, vy] 0 = some (.str "sum") := at0
      cases d with
      | zero => exact ok.elim
      | succ d =>
      have l1 := th_w47 (t := x) (d := d) ok.1 (by omega)
      have l2 := th_w47 (t := y) (d := d) ok.2 (by omega)
      walk_at "rd"
      intro b H1 nb hb k1
      have hS1 := (keep_ts0 k1).sqT hS
      walk_at "rd"
      intro c H2 s2 k2 f2
      have cut : cutV [V.str "sum", vx, vy] (some 1) none = [vx, vy] := cutV_tail
      rw [cut] at s2
      walk_at "rd"
      have k12 := k1.trans k2
      refine ask ⟨.ref c, [x, y], p, o, d, rfl, .tup s2 (.cons (hx.ts (keep_ts0 k12)) (.cons (hy.ts (keep_ts0 k12)) .nil)), fun u hu => ?_, by show 2 ≤ 3; omega, p1, o1, by omega, by omega, fun e H3 k3 ne he => ?_⟩
      · rcases List.mem_cons.mp hu with rfl | hu
        · exact ok.1
        · cases List.mem_singleton.mp hu
          exact ok.2
      have hb3 := k3 _ _ (k2 _ _ hb (by simp)) (by simp)
      have ew : wordsOf [x, y] = x.words ++ y.words := by
        show x.words ++ (y.words ++ []) = _
        rw [List.append_nil]
      walk_at "rd"
      refine r_cat hb3 he (Nat.le_trans (show [V.str "+"].length + (vws (wordsOf [x, y])).length ≤ 1000 by rw [vws_len, ew, List.length_singleton, List.length_append]; omega) (small (by omega))) ?_
      walk_at "rd"
      intro g H4 ng hg k4
      rw [ew] at hg
      exact q g H4 ((k12.trans k3).trans k4) (free0 (k12.trans k3) ng) hg
noncomputable def spStepWords (K : PySem.W.Frag) (n : Nat) : Sp := fun vs H Q _ => ∃ (v : V) (s : St) (sh : List (Nat × Nat)) (i d : Nat), vs = [v] ∧ Rp K H v s.enc ∧ St.ok sh i d s ∧ Sm sh ∧ s.many ≤ 100 ∧ d < n ∧ ∀ (a : Addr) (H' : Hp), Keep [] H H' → H a = none → H' a = some (.lst (vws s.words)) → Q (.ref a) H'
noncomputable def spBodyWords (K : PySem.W.Frag) (n : Nat) : Sp := fun vs H Q _ => ∃ (v : V) (b : Sts) (sh : List (Nat × Nat)) (i d : Nat), vs = [v] ∧ Rp K H v (.tuple b.encs) ∧ Sts.ok sh i d b ∧ Sm sh ∧ b.many ≤ 100 ∧ d < n ∧ ∀ (a : Addr) (H' : Hp), Keep [] H H' → H a = none → H' a = some (.lst (vws b.words)) → Q (.ref a) H'
theorem words_take : ∀ {b : Sts} {j : Nat} {s : St}, b.encs[j]? = some s.enc → b.drop j = .cons s (b.drop (j + 1)) → (b.take (j + 1)).words = (b.take j).words ++ s.words
  | .nil, j, s, h, _ => by simp [Sts.encs] at h
  | .cons t r, 0, s, _, e => by
    have : t = s := by
      have e' : Sts.cons t r = Sts.cons s r := e
      cases e'
      rfl
    subst this
    show t.words ++ (r.take 0).words = (Sts.nil).words ++ t.words
    rw [show r.take 0 = Sts.nil from rfl]
    show t.words ++ Sts.nil.words = Sts.nil.words ++ t.words
    unfold Sts.words
    rw [List.append_nil, List.nil_append]
  | .cons t r, j + 1, s, h, e => by
    show t.words ++ (r.take (j + 1)).words = (t.words ++ (r.take j).words) ++ s.words
    rw [words_take (b := r) (j := j) (s := s) h e, List.append_assoc]
noncomputable abbrev sstep_words : Stmt := top 79
noncomputable abbrev nstep_words : List Str := ["step", "word", "bodies"]
noncomputable abbrev pstep_words : List Str := ["step"]
theorem scstep_words : FnScope nstep_words pstep_words (defScope sstep_words) := ⟨rfl, rfl, rfl, by decide +kernel, rfl, by decide +kernel, by decide +kernel⟩
noncomputable abbrev sbody_words : Stmt := top 78
noncomputable abbrev nbody_words : List Str := ["body", "words", "step"]
noncomputable abbrev pbody_words : List Str := ["body"]
theorem scbody_words : FnScope nbody_words pbody_words (defScope sbody_words) := ⟨rfl, rfl, rfl, by decide +kernel, rfl, by decide +kernel, by decide +kernel⟩
noncomputable abbrev swork_words : Stmt := top 77
noncomputable abbrev nwork_words : List Str := ["work", "params", "owns", "body"]
noncomputable abbrev pwork_words : List Str := ["work"]
theorem scwork_words : FnScope nwork_words pwork_words (defScope swork_words) := ⟨rfl, rfl, rfl, by decide +kernel, rfl, by decide +kernel, by decide +kernel⟩
noncomputable abbrev swritten : Stmt := top 76
noncomputable abbrev nwritten : List Str := ["program", "work"]
noncomputable abbrev pwritten : List Str := ["program"]
theorem scwritten : FnScope nwritten pwritten (defScope swritten) := ⟨rfl, rfl, rfl, by decide +kernel, rfl, by decide +kernel, by decide +kernel⟩
theorem okBodyWords {n : Nat} (D : DefAt K mg "body_words" sbody_words pbody_words) (C_step_words : Callee P w K mg base "step_words" (2 * n + 13) pstep_words (spStepWords K n)) : Callee P w K mg base "body_words" (2 * n + 14) pbody_words (spBodyWords K n) := by
  refine D.ok scbody_words (fun vs H Q E h => ?_) (fun f cdv A outer s H vs Q E hr h => ?_)
  · obtain ⟨v, b, sh, i, d, rfl, _⟩ := h
    rfl
  obtain ⟨v, b, sh, i, d, rfl, hv, ok, sm, m1, dn, q⟩ := h
  refine ⟨_, (pss_cons (ps_set (i := 1) scbody_words.nd rfl (Or.inl rfl) (pe_lst pa_nil))
  (pss_cons (ps_for PassesOwn.never rfl (piTup (K := K) (pv 0)) (pg_name (i := 2) scbody_words.nd rfl (Or.inl rfl))
   (pss_one (ps_expr (peExt (K := K) (pv 1) (pcall C_step_words (hr.mono (by first | exact Nat.le_of_ble_eq_true rfl | omega)) rfl (pa_cons (pv 2) pa_nil))))))
  (pss_one (ps_ret (pv 1))))), ?_⟩
  obtain ⟨a, xs, rfl, hS, hx⟩ := hv.tup_inv
  have lx : xs.length = b.len := by rw [hx.length, Sts.encs_len]
  have lb := Sts.len_le_many b
  walk_at "rd"
  intro c H1 nb hb k1
  have hS1 := (keep_ts0 k1).sqT hS
  walk_at "rd"
  refine forT (xs := xs) (fun j σ H' => ∃ x2 : Option V, σ = [some (.ref a), some (.ref c), x2] ∧ Keep [c] H1 H' ∧ H' c = some (.lst (vws (b.take j).words))) ⟨_, rfl, Keep.refl, by rw [show b.take 0 = Sts.nil from rfl]; unfold Sts.words; exact hb⟩ (fun j σ H' _ hp => ?_) (fun j x σ H2 hx2 hp => ?_) (fun σ H' hp => ?_)
  · obtain ⟨x2, rfl, k, _⟩ := hp
    exact (k.ts fun x hx => by cases List.mem_singleton.mp hx; exact .inl ⟨_, hb⟩).sqT hS1
  · obtain ⟨x2, rfl, k2, h2⟩ := hp
    have hj : j < xs.length := (List.getElem?_eq_some_iff.mp hx2).1
    obtain ⟨dd, ed, rd⟩ := hx.get' hx2
    obtain ⟨st, rfl, est⟩ := Sts.drop_get ed
    have okd : Sts.ok sh i d (b.drop j) := Sts.ok_drop ok
    rw [est] at okd
    unfold Sts.ok at okd
    have t12 : Tst H1 H2 := k2.ts fun x hx => by cases List.mem_singleton.mp hx; exact .inl ⟨_, hb⟩
    have ms : (b.take j).many + st.many ≤ 100 := by
      have := Sts.many_cut b j
      rw [est] at this
      have e2 : (Sts.cons st (b.drop (j + 1))).many = st.many + (b.drop (j + 1)).many := rfl
      omega
    walk_at "rd"
    refine ask ⟨x, st, sh, i, d, rfl, (rd.ts (keep_ts0 k1)).ts t12, okd.1, sm, by omega, dn, fun e H3 k3 ne he => ?_⟩
    have h23 := k3 _ _ h2 (by simp)
    have l1 := sts_words sm (Sts.ok_take j ok)
    have l2 := st_words sm okd.1
    walk_at "rd"
    refine r_ext h23 he (Nat.le_trans (show (vws (b.take j).words).length + (vws st.words).length ≤ 15000 by rw [vws_len, vws_len]; omega) (small (by omega))) fun H4 e4 k4 => ?_
    walk_at "rd"
    refine ⟨_, rfl, (k2.trans (k3.mono (by simp))).trans k4, ?_⟩
    rw [words_take ed est, vws_app]
    exact e4
  · obtain ⟨x2, rfl, k2, h2⟩ := hp
    rw [lx, Sts.take_all] at h2
    walk_at "rd"
    exact q c H' ((((k1.mono (by simp) : Keep [c] H H1)).trans k2).loseN fun x hx => by cases List.mem_singleton.mp hx; exact .inr nb) nb h2
end
end
section
section
variable {P : Program} {w : World} {K : PySem.W.Frag} {mg : Str → Option Value} {base : Heap}
theorem th_one : ∀ {t : Th}, 1 ≤ t.words.length
  | .num _ => Nat.le_refl _
  | .own _ => by show 1 ≤ 2; omega
  | .par _ => by show 1 ≤ 2; omega
  | .cell t => by show 1 ≤ t.words.length + 1; omega
  | .sum t u => by show 1 ≤ (t.words ++ u.words).length + 1; omega
theorem st_one : ∀ {s : St}, 1 ≤ s.words.length := fun {s} => by
  cases s <;> (rw [St.words]; simp)
theorem hh_int {i : Int} : Hh (.int i) := by unfold Hh; trivial
theorem hh_str {x : Str} : Hh (.str x) := by unfold Hh; trivial
theorem hhs_nil : Hhs [] := by unfold Hhs; trivial
theorem hhs_cons {d : PyData} {ds : List PyData} (h : Hh d) (g : Hhs ds) : Hhs (d :: ds) := by unfold Hhs; exact ⟨h, g⟩
theorem hhs_of : ∀ {ds : List PyData}, (∀ d ∈ ds, Hh d) → Hhs ds
  | [], _ => hhs_nil
  | d :: ds, h => hhs_cons (h d List.mem_cons_self) (hhs_of fun e he => h e (List.mem_cons_of_mem _ he))
theorem hh_tup {ds : List PyData} (h : headOk (.tuple ds)) (g : Hhs ds) : Hh (.tuple ds) := by unfold Hh; exact ⟨h, g⟩
theorem th_hh : ∀ t : Th, Hh t.enc
  | .num n => hh_tup (Th.headOk (.num n)) (hhs_cons hh_str (hhs_cons hh_int hhs_nil))
  | .own n => hh_tup (Th.headOk (.own n)) (hhs_cons hh_str (hhs_cons hh_int hhs_nil))
  | .par n => hh_tup (Th.headOk (.par n)) (hhs_cons hh_str (hhs_cons hh_int hhs_nil))
  | .cell t => hh_tup (Th.headOk (.cell t)) (hhs_cons hh_str (hhs_cons (th_hh t) hhs_nil))
  | .sum a b => hh_tup (Th.headOk (.sum a b)) (hhs_cons hh_str (hhs_cons (th_hh a) (hhs_cons (th_hh b) hhs_nil)))
theorem head_tup {ds : List PyData} (h : ∀ d ∈ ds, ∃ es, d = .tuple es) : headOk (.tuple ds) := by
  cases ds with
  | nil => trivial
  | cons d ds => exact .inr (h d List.mem_cons_self)
theorem st_tup : ∀ s : St, ∃ es, s.enc = .tuple es
  | .set _ _ => ⟨_, by unfold St.enc; rfl⟩
  | .say _ => ⟨_, by unfold St.enc; rfl⟩
  | .ite _ _ _ => ⟨_, by unfold St.enc; rfl⟩
  | .call _ _ => ⟨_, by unfold St.enc; rfl⟩
theorem encs_tup : ∀ {b : Sts}, ∀ d ∈ b.encs, ∃ es, d = .tuple es
  | .nil, d, h => by unfold Sts.encs at h; cases h
  | .cons s r, d, h => by
    unfold Sts.encs at h
    rcases List.mem_cons.mp h with rfl | h
    · exact st_tup s
    · exact encs_tup d h
mutual
theorem st_hh : ∀ s : St, Hh s.enc
  | .set p t => by
    have h := St.headOk (.set p t)
    unfold St.enc at h ⊢
    exact hh_tup h (hhs_cons hh_str (hhs_cons (th_hh p) (hhs_cons (th_hh t) hhs_nil)))
  | .say t => by
    have h := St.headOk (.say t)
    unfold St.enc at h ⊢
    exact hh_tup h (hhs_cons hh_str (hhs_cons (th_hh t) hhs_nil))
  | .ite t a b => by
    have h := St.headOk (.ite t a b)
    unfold St.enc at h ⊢
    exact hh_tup h (hhs_cons hh_str (hhs_cons (th_hh t) (hhs_cons (hh_tup (head_tup encs_tup) (sts_hh a)) (hhs_cons (hh_tup (head_tup encs_tup) (sts_hh b)) hhs_nil))))
  | .call w ts => by
    have h := St.headOk (.call w ts)
    unfold St.enc at h ⊢
    refine hh_tup h (hhs_cons hh_str (hhs_cons hh_int (hhs_cons (hh_tup (head_tup fun d hd => ?_) (hhs_of fun d hd => ?_)) hhs_nil)))
    · obtain ⟨x, _, rfl⟩ := List.mem_map.mp hd
      cases x <;> exact ⟨_, rfl⟩
    · obtain ⟨x, _, rfl⟩ := List.mem_map.mp hd
      exact th_hh x
theorem sts_hh : ∀ b : Sts, Hhs b.encs
  | .nil => by unfold Sts.encs; exact hhs_nil
  | .cons s r => by
    unfold Sts.encs
    exact hhs_cons (st_hh s) (sts_hh r)
end
theorem flat_int {i : Int} : Tq (.int i) := .flat (by first | trivial | (unfold flatD; trivial) | (unfold flatD; rfl) | rfl)
theorem th_tq : ∀ t : Th, Tq t.enc
  | .num n => .str (by show 1 ≤ 90000; omega) fun e he => by
    rw [List.mem_singleton.mp he]
    exact flat_int
  | .own n => .str (by show 1 ≤ 90000; omega) fun e he => by
    rw [List.mem_singleton.mp he]
    exact flat_int
  | .par n => .str (by show 1 ≤ 90000; omega) fun e he => by
    rw [List.mem_singleton.mp he]
    exact flat_int
  | .cell t => .str (by show 1 ≤ 90000; omega) fun e he => by
    rw [List.mem_singleton.mp he]
    exact th_tq t
  | .sum a b => .str (by show 2 ≤ 90000; omega) fun e he => by
    rcases List.mem_cons.mp he with rfl | he
    · exact th_tq a
    · rw [List.mem_singleton.mp he]
      exact th_tq b
theorem encs_words : ∀ {b : Sts}, b.encs.length ≤ b.words.length
  | .nil => by unfold Sts.encs; exact Nat.zero_le _
  | .cons s r => by
    have := encs_words (b := r)
    have := st_one (s := s)
    unfold Sts.encs Sts.words
    rw [List.length_cons, List.length_append]
    omega
theorem ths_count : ∀ {ts : List Th}, ts.length ≤ (wordsOf ts).length
  | [] => Nat.zero_le _
  | t :: ts => by
    have := ths_count (ts := ts)
    have := th_one (t := t)
    show (t :: ts).length ≤ (t.words ++ wordsOf ts).length
    rw [List.length_cons, List.length_append]
    omega
mutual
theorem st_sq : ∀ {s : St}, s.words.length ≤ 90000 → Sq s.enc
  | .set p t, _ => by
    unfold St.enc
    exact .other (by decide +kernel) (by decide +kernel) (by show 2 ≤ 90000; omega) fun e he => by
      rcases List.mem_cons.mp he with rfl | he
      · exact th_tq p
      · rw [List.mem_singleton.mp he]
        exact th_tq t
  | .say t, _ => by
    unfold St.enc
    exact .other (by decide +kernel) (by decide +kernel) (by show 1 ≤ 90000; omega) fun e he => by
      rw [List.mem_singleton.mp he]
      exact th_tq t
  | .ite t a b, h => by
    unfold St.words at h
    simp only [List.length_cons, List.length_append, List.length_nil] at h
    have la := encs_words (b := a)
    have lb := encs_words (b := b)
    have ia := sts_sq (b := a) (by omega)
    have ib := sts_sq (b := b) (by omega)
    unfold St.enc
    exact .ite (by show 2 ≤ 90000; omega) (th_tq t) fun e he => by
      rcases List.mem_cons.mp he with rfl | he
      · exact .tup (by omega) ia
      · rw [List.mem_singleton.mp he]
        exact .tup (by omega) ib
  | .call w ts, h => by
    unfold St.words at h
    simp only [List.length_cons, List.length_append, List.length_nil] at h
    have l := ths_count (ts := ts)
    unfold St.enc
    exact .call (by show 2 ≤ 90000; omega) fun e he => by
      cases he
      intro us hu
      cases hu
      refine ⟨by rw [List.length_map]; omega, fun t ht => ?_⟩
      obtain ⟨x, _, rfl⟩ := List.mem_map.mp ht
      exact th_tq x
theorem sts_sq : ∀ {b : Sts}, b.words.length ≤ 90000 → ∀ e ∈ b.encs, Sq e
  | .nil, _, e, he => by
    unfold Sts.encs at he
    cases he
  | .cons s r, h, e, he => by
    unfold Sts.words at h
    rw [List.length_append] at h
    unfold Sts.encs at he
    rcases List.mem_cons.mp he with rfl | he
    · exact st_sq (by omega)
    · exact sts_sq (by omega) e he
end
end
end
section
section
variable {P : Program} {w : World} {K : PySem.W.Frag} {mg : Str → Option Value} {base : Heap}
noncomputable def Tg (d : PyData) : Prop := Tq d ∧ Hh d
theorem tg_str {x : Str} {ds : List PyData} (l : ds.length ≤ 90000) (h : ∀ e ∈ ds, Tg e) (sx : SeqAt.shaped (.str x) = true := by decide +kernel) : Tg (.tuple (.str x :: ds)) := ⟨.str l fun e he => (h e he).1, hh_tup (.inl sx) (hhs_cons hh_str (hhs_of fun e he => (h e he).2))⟩
theorem tg_int {i : Int} : Tg (.int i) := ⟨flat_int, hh_int⟩
theorem tg_1 {x : Str} {d : PyData} (h : Tg d) (sx : SeqAt.shaped (.str x) = true := by decide +kernel) : Tg (.tuple [.str x, d]) := tg_str (by show 1 ≤ 90000; omega) (fun e he => by rw [List.mem_singleton.mp he]; exact h) sx
theorem tg_2 {x : Str} {d e : PyData} (h : Tg d) (g : Tg e) (sx : SeqAt.shaped (.str x) = true := by decide +kernel) : Tg (.tuple [.str x, d, e]) := tg_str (by show 2 ≤ 90000; omega) (fun c hc => by
  rcases List.mem_cons.mp hc with rfl | hc
  · exact h
  · rw [List.mem_singleton.mp hc]; exact g) sx
theorem r_ne_new {H : Hp} {r p : Addr} (R : Row K H r) (n : H p = none) : p ∉ [r] := by
  simp only [List.mem_singleton]
  intro z
  exact R.ne (by rw [← z]; exact n)
theorem three_at {a b c : V} {z : Int} (h0 : 0 ≤ z) (h1 : z < 3) : ∃ v, atI [a, b, c] z = some v ∧ (v = a ∨ v = b ∨ v = c) := by
  have : z = 0 ∨ z = 1 ∨ z = 2 := by omega
  rcases this with rfl | rfl | rfl
  · exact ⟨a, rfl, .inl rfl⟩
  · exact ⟨b, rfl, .inr (.inl rfl)⟩
  · exact ⟨c, rfl, .inr (.inr rfl)⟩
noncomputable def spLawDeep (K : PySem.W.Frag) : Sp := fun vs H Q _ => ∃ (r : Addr) (v : V) (d : PyData) (n : Nat), vs = [.ref r, v, .int (n : Int)] ∧ Row K H r ∧ Rp K H v d ∧ Tg d ∧ n ≤ 10 ∧ ∀ v' d' H', Keep [r] H H' → Row K H' r → Rp K H' v' d' → Tg d' → Q v' H'
noncomputable abbrev sL_deep : Stmt := top 102
noncomputable abbrev nL_deep : List Str := ["_law_row", "_law_thing_here", "_law_many", "_law_turn"]
noncomputable abbrev pL_deep : List Str := ["_law_row", "_law_thing_here", "_law_many"]
theorem scL_deep : FnScope nL_deep pL_deep (defScope sL_deep) := ⟨rfl, rfl, rfl, by decide +kernel, rfl, by decide +kernel, by decide +kernel⟩
noncomputable abbrev sL_around : Stmt := top 103
noncomputable abbrev nL_around : List Str := ["_law_row", "_law_step_here", "_law_many", "_law_turn", "_law_some"]
noncomputable abbrev pL_around : List Str := ["_law_row", "_law_step_here", "_law_many"]
theorem scL_around : FnScope nL_around pL_around (defScope sL_around) := ⟨rfl, rfl, rfl, by decide +kernel, rfl, by decide +kernel, by decide +kernel⟩
theorem okLawDeep (D : DefAt K mg "_law_deep" sL_deep pL_deep) (T : Blt mg) (C_law_taken : Callee P w K mg base "_law_taken" 1 pL_taken (spTaken K)) : Callee P w K mg base "_law_deep" 2 pL_deep (spLawDeep K) := by
  refine D.ok scL_deep (fun vs H Q E h => ?_) (fun f cdv A outer s H vs Q E hr h => ?_)
  · obtain ⟨r, v, d, n, rfl, _⟩ := h
    rfl
  obtain ⟨r, v, d, n, rfl, R, hR, tg, n10, q⟩ := h
  refine ⟨_, (pss_cons (ps_for PassesOwn.never rfl (pi_range1 rfl T.range (pa_cons (pv 2) pa_nil)) (pg_name (i := 3) scL_deep.nd rfl (Or.inl rfl))
   (pss_one (ps_set (i := 1) scL_deep.nd rfl (Or.inl rfl) (pe_ix (ixL (K := K)) (pe_lst (pa_cons (pe_tup (pa_cons pe_str (pa_cons (pv 1) pa_nil))) (pa_cons (pe_tup (pa_cons pe_str (pa_cons (pv 1) (pa_cons (pe_tup (pa_cons pe_str (pa_cons pe_int pa_nil))) pa_nil)))) (pa_cons (pe_tup (pa_cons pe_str (pa_cons (pe_tup (pa_cons pe_str (pa_cons pe_int pa_nil))) (pa_cons (pv 1) pa_nil)))) pa_nil)))) (pcall C_law_taken (hr.mono (by first | exact Nat.le_of_ble_eq_true rfl | omega)) rfl (pa_cons (pv 0) (pa_cons pe_int pa_nil))) (fun _ _ => rfl)))))
  (pss_one (ps_ret (pv 1)))), ?_⟩
  walk_at "rd"
  refine forR (fun i σ H' => ∃ (x3 : Option V) (v' : V) (d' : PyData), σ = [some (.ref r), some v', some (.int (n : Int)), x3] ∧ Keep [r] H H' ∧ Row K H' r ∧ Rp K H' v' d' ∧ Tg d') ⟨_, v, d, rfl, Keep.refl, R, hR, tg⟩ (fun i σ H' hi hp => ?_) (fun σ H' hp => ?_)
  · obtain ⟨x3, v', d', rfl, k, R, hR, tg⟩ := hp
    walk_at "rd"
    intro p1 H1 n1 h1 k1
    walk_at "rd"
    intro p2 H2 n2 h2 k2
    walk_at "rd"
    intro p3 H3 n3 h3 k3
    walk_at "rd"
    intro p4 H4 n4 h4 k4
    walk_at "rd"
    intro p5 H5 n5 h5 k5
    walk_at "rd"
    intro p6 H6 n6 h6 k6
    have t26 := ((keep_ts0 k3).trans (keep_ts0 k4)).trans ((keep_ts0 k5).trans (keep_ts0 k6))
    have t16 := (keep_ts0 k2).trans t26
    have k06 := ((k1.trans k2).trans k3).trans ((k4.trans k5).trans k6)
    have t06 := keep_ts0 k06
    have R6 := R.keep0 k06
    walk_at "rd"
    refine ask ⟨r, 3, rfl, by decide, by decide, R6, fun z H7 z0 z1 k7 R7 => ?_⟩
    have h67 := k7 _ _ h6 (r_ne_new (R.keep0 (((k1.trans k2).trans k3).trans (k4.trans k5))) n6)
    have t7 := R6.ts k7
    obtain ⟨v8, e8, o8⟩ := three_at (a := .ref p1) (b := .ref p3) (c := .ref p5) z0 z1
    have hd := hR.ts (t06.trans t7)
    have q1 : Rp K H7 (.ref p1) (.tuple [.str "cell", d']) := .tup ((t16.trans t7).sqT (SqT.of h1)) (.cons (.str _) (.cons hd .nil))
    have q2 : Rp K H7 (.ref p2) (.tuple [.str "num", .int 1]) := .tup ((t26.trans t7).sqT (SqT.of h2)) (.cons (.str _) (.cons (.int _) .nil))
    have q3 : Rp K H7 (.ref p3) (.tuple [.str "sum", d', .tuple [.str "num", .int 1]]) := .tup ((((keep_ts0 k4).trans ((keep_ts0 k5).trans (keep_ts0 k6))).trans t7).sqT (SqT.of h3)) (.cons (.str _) (.cons hd (.cons q2 .nil)))
    have q4 : Rp K H7 (.ref p4) (.tuple [.str "num", .int 2]) := .tup ((((keep_ts0 k5).trans (keep_ts0 k6)).trans t7).sqT (SqT.of h4)) (.cons (.str _) (.cons (.int _) .nil))
    have q5 : Rp K H7 (.ref p5) (.tuple [.str "sum", .tuple [.str "num", .int 2], d']) := .tup (((keep_ts0 k6).trans t7).sqT (SqT.of h5)) (.cons (.str _) (.cons q4 (.cons hd .nil)))
    walk_at "rd"
    have k07 := (k.by0 k06).trans k7
    rcases o8 with rfl | rfl | rfl
    · exact ⟨_, _, _, rfl, k07, R7, q1, tg_1 tg⟩
    · exact ⟨_, _, _, rfl, k07, R7, q3, tg_2 tg (tg_1 tg_int)⟩
    · exact ⟨_, _, _, rfl, k07, R7, q5, tg_2 (tg_1 tg_int) tg⟩
  · obtain ⟨x3, v', d', rfl, k, R, hR, tg⟩ := hp
    walk_at "rd"
    exact q _ _ _ k R hR tg
/-- as a step may lie -/
noncomputable def Sg (d : PyData) : Prop := Sq d ∧ Hh d ∧ ∃ es, d = .tuple es
theorem sg_if {t : PyData} {xs ys : List PyData} (ht : Tg t) (hx : ∀ e ∈ xs, Sg e) (hy : ∀ e ∈ ys, Sg e) (l1 : xs.length ≤ 90000) (l2 : ys.length ≤ 90000) : Sg (.tuple [.str "if", t, .tuple xs, .tuple ys]) := by
  have bd : ∀ {zs : List PyData}, (∀ e ∈ zs, Sg e) → Hh (.tuple zs) := fun {zs} h => hh_tup (head_tup fun e he => (h e he).2.2) (hhs_of fun e he => (h e he).2.1)
  refine ⟨.ite (by show 2 ≤ 90000; omega) ht.1 fun e he => ?_, hh_tup (.inl (by decide +kernel)) (hhs_cons hh_str (hhs_cons ht.2 (hhs_cons (bd hx) (hhs_cons (bd hy) hhs_nil)))), _, rfl⟩
  rcases List.mem_cons.mp he with rfl | he
  · exact .tup l1 fun s hs => (hx s hs).1
  · rw [List.mem_singleton.mp he]
    exact .tup l2 fun s hs => (hy s hs).1
theorem sg_say {t : PyData} (ht : Tg t) : Sg (.tuple [.str "say", t]) := ⟨.other (by decide +kernel) (by decide +kernel) (by show 1 ≤ 90000; omega) fun e he => by rw [List.mem_singleton.mp he]; exact ht.1, hh_tup (.inl (by decide +kernel)) (hhs_cons hh_str (hhs_cons ht.2 hhs_nil)), _, rfl⟩
end
end
section
section
variable {P : Program} {w : World} {K : PySem.W.Frag} {mg : Str → Option Value} {base : Heap}
theorem two_at {a b : V} {z : Int} (h0 : 0 ≤ z) (h1 : z < 2) : ∃ v, atI [a, b] z = some v ∧ (v = a ∨ v = b) := by
  have : z = 0 ∨ z = 1 := by omega
  rcases this with rfl | rfl
  · exact ⟨a, rfl, .inl rfl⟩
  · exact ⟨b, rfl, .inr rfl⟩
noncomputable def spLawAround (K : PySem.W.Frag) : Sp := fun vs H Q _ => ∃ (r : Addr) (v : V) (d : PyData) (n : Nat), vs = [.ref r, v, .int (n : Int)] ∧ Row K H r ∧ Rp K H v d ∧ Sg d ∧ n ≤ 10 ∧ ∀ v' d' H', Keep [r] H H' → Row K H' r → Rp K H' v' d' → Sg d' → Q v' H'
theorem okLawAround (D : DefAt K mg "_law_around" sL_around pL_around) (T : Blt mg) (C_law_taken : Callee P w K mg base "_law_taken" 1 pL_taken (spTaken K)) : Callee P w K mg base "_law_around" 2 pL_around (spLawAround K) := by
  refine D.ok scL_around (fun vs H Q E h => ?_) (fun f cdv A outer s H vs Q E hr h => ?_)
  · obtain ⟨r, v, d, n, rfl, _⟩ := h
    rfl
  obtain ⟨r, v, d, n, rfl, R, hR, sg, n10, q⟩ := h
  refine ⟨_, (pss_cons (ps_for PassesOwn.never rfl (pi_range1 rfl T.range (pa_cons (pv 2) pa_nil)) (pg_name (i := 3) scL_around.nd rfl (Or.inl rfl))
   (pss_cons (ps_set (i := 4) scL_around.nd rfl (Or.inl rfl) (pe_lst (pa_cons (pe_tup (pa_cons pe_str (pa_cons (pe_tup (pa_cons pe_str (pa_cons pe_int pa_nil))) (pa_cons (pe_tup (pa_cons (pv 1) pa_nil)) (pa_cons (pe_tup pa_nil) pa_nil))))) (pa_cons (pe_tup (pa_cons pe_str (pa_cons (pe_tup (pa_cons pe_str (pa_cons pe_int pa_nil))) (pa_cons (pe_tup pa_nil) (pa_cons (pe_tup (pa_cons (pv 1) (pa_cons (pe_tup (pa_cons pe_str (pa_cons (pe_tup (pa_cons pe_str (pa_cons pe_int pa_nil))) pa_nil))) pa_nil))) pa_nil))))) pa_nil))))
  (pss_one (ps_set (i := 1) scL_around.nd rfl (Or.inl rfl) (pe_ix (ixL (K := K)) (pv 4) (pcall C_law_taken (hr.mono (by first | exact Nat.le_of_ble_eq_true rfl | omega)) rfl (pa_cons (pv 0) (pa_cons pe_int pa_nil))) (fun _ _ => rfl))))))
  (pss_one (ps_ret (pv 1)))), ?_⟩
  walk_at "rd"
  refine forR (fun i σ H' => ∃ (x3 x4 : Option V) (v' : V) (d' : PyData), σ = [some (.ref r), some v', some (.int (n : Int)), x3, x4] ∧ Keep [r] H H' ∧ Row K H' r ∧ Rp K H' v' d' ∧ Sg d') ⟨_, _, v, d, rfl, Keep.refl, R, hR, sg⟩ (fun i σ H' hi hp => ?_) (fun σ H' hp => ?_)
  · obtain ⟨x3, x4, v', d', rfl, k, R, hR, sg⟩ := hp
    walk_at "rd"
    intro p1 H1 n1 h1 k1
    walk_at "rd"
    intro p2 H2 n2 h2 k2
    walk_at "rd"
    intro p3 H3 n3 h3 k3
    walk_at "rd"
    intro p4 H4 n4 h4 k4
    walk_at "rd"
    intro p5 H5 n5 h5 k5
    walk_at "rd"
    intro p6 H6 n6 h6 k6
    walk_at "rd"
    intro p7 H7 n7 h7 k7
    walk_at "rd"
    intro p8 H8 n8 h8 k8
    walk_at "rd"
    intro p9 H9 n9 h9 k9
    walk_at "rd"
    intro p10 H10 n10 h10 k10
    walk_at "rd"
    intro p11 H11 n11 h11 k11
    have u11 : Keep [] H10 H11 := k11
    have u10 := k10.trans u11
    have u9 := k9.trans u10
    have u8 := k8.trans u9
    have u7 := k7.trans u8
    have u6 := k6.trans u7
    have u5 := k5.trans u6
    have u4 := k4.trans u5
    have u3 := k3.trans u4
    have u2 := k2.trans u3
    have u1 := k1.trans u2
    have R11 := R.keep0 u1
    walk_at "rd"
    refine ask ⟨r, 2, rfl, by decide, by decide, R11, fun z H12 z0 z1 k12 R12 => ?_⟩
    have h11' := k12 _ _ h11 (r_ne_new (R.keep0 ((((((((((k1.trans k2).trans k3).trans k4).trans k5).trans k6).trans k7).trans k8).trans k9).trans k10))) n11)
    have t12 := R11.ts k12
    obtain ⟨v8, e8, o8⟩ := two_at (a := .ref p4) (b := .ref p10) z0 z1
    have hd := hR.ts ((keep_ts0 u1).trans t12)
    have q1 : Rp K H12 (.ref p1) (.tuple [.str "num", .int 1]) := .tup (((keep_ts0 u2).trans t12).sqT (SqT.of h1)) (.cons (.str _) (.cons (.int _) .nil))
    have q2 : Rp K H12 (.ref p2) (.tuple [d']) := .tup (((keep_ts0 u3).trans t12).sqT (SqT.of h2)) (.cons hd .nil)
    have q3 : Rp K H12 (.ref p3) (.tuple []) := .tup (((keep_ts0 u4).trans t12).sqT (SqT.of h3)) .nil
    have q4 : Rp K H12 (.ref p4) (.tuple [.str "if", .tuple [.str "num", .int 1], .tuple [d'], .tuple []]) := .tup (((keep_ts0 u5).trans t12).sqT (SqT.of h4)) (.cons (.str _) (.cons q1 (.cons q2 (.cons q3 .nil))))
    have q5 : Rp K H12 (.ref p5) (.tuple [.str "num", .int 0]) := .tup (((keep_ts0 u6).trans t12).sqT (SqT.of h5)) (.cons (.str _) (.cons (.int _) .nil))
    have q6 : Rp K H12 (.ref p6) (.tuple []) := .tup (((keep_ts0 u7).trans t12).sqT (SqT.of h6)) .nil
    have q7 : Rp K H12 (.ref p7) (.tuple [.str "num", .int 0]) := .tup (((keep_ts0 u8).trans t12).sqT (SqT.of h7)) (.cons (.str _) (.cons (.int _) .nil))
    have q8 : Rp K H12 (.ref p8) (.tuple [.str "say", .tuple [.str "num", .int 0]]) := .tup (((keep_ts0 u9).trans t12).sqT (SqT.of h8)) (.cons (.str _) (.cons q7 .nil))
    have q9 : Rp K H12 (.ref p9) (.tuple [d', .tuple [.str "say", .tuple [.str "num", .int 0]]]) := .tup (((keep_ts0 u10).trans t12).sqT (SqT.of h9)) (.cons hd (.cons q8 .nil))
    have q10 : Rp K H12 (.ref p10) (.tuple [.str "if", .tuple [.str "num", .int 0], .tuple [], .tuple [d', .tuple [.str "say", .tuple [.str "num", .int 0]]]]) := .tup (((keep_ts0 u11).trans t12).sqT (SqT.of h10)) (.cons (.str _) (.cons q5 (.cons q6 (.cons q9 .nil))))
    walk_at "rd"
    have k012 := (k.by0 u1).trans k12
    have no : ∀ e ∈ ([] : List PyData), Sg e := fun _ h => by cases h
    have on : ∀ e ∈ [d'], Sg e := fun e h => by rw [List.mem_singleton.mp h]; exact sg
    have tw : ∀ e ∈ [d', .tuple [.str "say", .tuple [.str "num", .int 0]]], Sg e := fun e h => by
      rcases List.mem_cons.mp h with rfl | h
      · exact sg
      · rw [List.mem_singleton.mp h]
        exact sg_say (tg_1 tg_int)
    rcases o8 with rfl | rfl
    · exact ⟨_, _, _, _, rfl, k012, R12, q4, sg_if (tg_1 tg_int) on no (by simp) (by simp)⟩
    · exact ⟨_, _, _, _, rfl, k012, R12, q10, sg_if (tg_1 tg_int) no tw (by simp) (by simp)⟩
  · obtain ⟨x3, x4, v', d', rfl, k, R, hR, sg⟩ := hp
    walk_at "rd"
    exact q _ _ _ k R hR sg
end
end
section
section
variable {P : Program} {w : World} {K : PySem.W.Frag} {mg : Str → Option Value} {base : Heap}
theorem St.ok_ite2 {sh : List (Nat × Nat)} {i d : Nat} {t : Th} {a b : Sts} (h : St.ok sh i d (.ite t a b)) : ∃ e, d = e + 1 ∧ Th.ok (sh.getD i (0, 0)).1 (sh.getD i (0, 0)).2 4 t ∧ Sts.ok sh i e a ∧ Sts.ok sh i e b := by
  cases d with
  | zero => unfold St.ok at h; exact h.elim
  | succ e => unfold St.ok at h; exact ⟨e, rfl, h.1, h.2.1, h.2.2⟩
theorem St.ok_call2 {sh : List (Nat × Nat)} {i d k : Nat} {ts : List Th} (h : St.ok sh i d (.call k ts)) : k < sh.length ∧ ts.length = (sh.getD k (0, 0)).1 ∧ ∀ t ∈ ts, Th.ok (sh.getD i (0, 0)).1 (sh.getD i (0, 0)).2 4 t := by
  cases d <;> (unfold St.ok at h; exact h.2)
theorem St.ok_say2 {sh : List (Nat × Nat)} {i d : Nat} {t : Th} (h : St.ok sh i d (.say t)) : Th.ok (sh.getD i (0, 0)).1 (sh.getD i (0, 0)).2 4 t := by
  cases d <;> (unfold St.ok at h; exact h)
theorem St.ok_set2 {sh : List (Nat × Nat)} {i d : Nat} {p t : Th} (h : St.ok sh i d (.set p t)) : Th.ok (sh.getD i (0, 0)).1 (sh.getD i (0, 0)).2 4 p ∧ Th.ok (sh.getD i (0, 0)).1 (sh.getD i (0, 0)).2 4 t := by
  cases d <;> (unfold St.ok at h; exact h.2)
theorem cat_new {p q : Addr} {xs ys : List V} {H : Hp} {Q : VK} (h : H p = some (.lst xs)) (h2 : H q = some (.lst ys)) (z : xs.length + ys.length ≤ 100000) (hq : ∀ a H1, H a = none → H1 a = some (.lst (xs ++ ys)) → Keep [] H H1 → Q (.ref a) H1) : rCat (.ref p) (.ref q) H Q :=
  r_cat h h2 (Nat.le_trans z (small (by omega))) ⟨Nat.zero_le _, fun a ha => hq a _ ha upd_same (Keep.new ha)⟩
theorem okStepWords {n : Nat} (D : DefAt K mg "step_words" sstep_words pstep_words) (T : Blt mg) (C_thing_words : Callee P w K mg base "thing_words" 11 pthing_words (spThingWords K 5)) (C_things_words : Callee P w K mg base "things_words" 12 pthings_words (spThingsWords K 5)) (C_body_words : Callee P w K mg base "body_words" (2 * n + 14) pbody_words (spBodyWords K n)) : Callee P w K mg base "step_words" (2 * n + 15) pstep_words (spStepWords K (n + 1)) := by
  refine D.ok scstep_words (fun vs H Q E h => ?_) (fun f cdv A outer s H vs Q E hr h => ?_)
  · obtain ⟨v, st, sh, i, d, rfl, _⟩ := h
    rfl
  obtain ⟨v, st, sh, i, d, rfl, hv, ok, sm, m1, dn, q⟩ := h
  refine ⟨_, (pss_cons (ps_set (i := 1) scstep_words.nd rfl (Or.inl rfl) (pe_ix (ixT (K := K)) (pv 0) pe_int (fun _ _ => rfl)))
  (pss_cons (ps_if (pt_cmpR op_eq (pv 1) pe_str (nomark _)) (pss_one (ps_ret (pe_op op_cat (pe_op op_cat (pe_lst (pa_cons pe_str (pa_cons (pe_callTy cStr (by rfl) T.str (by decide +kernel) (pa_cons (pe_ix (ixT (K := K)) (pv 0) pe_int (fun _ _ => rfl)) pa_nil)) pa_nil))) (pcall C_things_words (hr.mono (by first | exact Nat.le_of_ble_eq_true rfl | omega)) rfl (pa_cons (pe_ix (ixT (K := K)) (pv 0) pe_int (fun _ _ => rfl)) pa_nil))) (pe_lst (pa_cons pe_str pa_nil))))) pss_nil)
  (pss_cons (ps_if (pt_cmpR op_eq (pv 1) pe_str (nomark _)) (pss_cons (ps_set (i := 2) scstep_words.nd rfl (Or.inl rfl) (pe_op op_cat (pe_op op_cat (pe_op op_cat (pe_op op_cat (pe_lst (pa_cons pe_str pa_nil)) (pcall C_body_words (hr.mono (by first | exact Nat.le_of_ble_eq_true rfl | omega)) rfl (pa_cons (pe_ix (ixT (K := K)) (pv 0) pe_int (fun _ _ => rfl)) pa_nil))) (pe_lst (pa_cons pe_str (pa_cons pe_str pa_nil)))) (pcall C_body_words (hr.mono (by first | exact Nat.le_of_ble_eq_true rfl | omega)) rfl (pa_cons (pe_ix (ixT (K := K)) (pv 0) pe_int (fun _ _ => rfl)) pa_nil))) (pe_lst (pa_cons pe_str pa_nil))))
  (pss_one (ps_ret (pe_op op_cat (pe_op op_cat (pe_lst (pa_cons pe_str pa_nil)) (pcall C_thing_words (hr.mono (by first | exact Nat.le_of_ble_eq_true rfl | omega)) rfl (pa_cons (pe_ix (ixT (K := K)) (pv 0) pe_int (fun _ _ => rfl)) pa_nil))) (pv 2))))) pss_nil)
  (pss_one (ps_ret (pe_op op_cat (pe_lst (pa_cons (pv 1) pa_nil)) (pcall C_things_words (hr.mono (by first | exact Nat.le_of_ble_eq_true rfl | omega)) rfl (pa_cons (pe_slice (slA (K := K)) (pv 0) (po_some pe_int) po_none) pa_nil)))))))), ?_⟩
  have p3 := sm.one i
  have o3 := sm.two i
  cases st with
  | set x y =>
    obtain ⟨a, vx, vy, rfl, hS, hx, hy⟩ := St.inv_set hv
    have a0 : atI [V.str "set", vx, vy] 0 = some (.str "set") := at0
    obtain ⟨o1, o2⟩ := St.ok_set2 ok
    have l1 := th_w47 o1 (Nat.le_refl _)
    have l2 := th_w47 o2 (Nat.le_refl _)
    walk_at "rd"
    intro b H1 nb hb k1
    have hS1 := (keep_ts0 k1).sqT hS
    walk_at "rd"
    intro c H2 s2 k2 f2
    rw [cutV_tail] at s2
    have k12 := k1.trans k2
    walk_at "rd"
    refine ask ⟨.ref c, [x, y], _, _, 4, rfl, .tup s2 (.cons (hx.ts (keep_ts0 k12)) (.cons (hy.ts (keep_ts0 k12)) .nil)), fun u hu => ?_, by show 2 ≤ 3; omega, (show (sh.getD i (0, 0)).1 ≤ 100 by omega), (show (sh.getD i (0, 0)).2 ≤ 100 by omega), by omega, by omega, fun e H3 k3 ne he => ?_⟩
    · rcases List.mem_cons.mp hu with rfl | hu
      · exact o1
      · cases List.mem_singleton.mp hu
        exact o2
    have hb3 := k3 _ _ (k2 _ _ hb (by simp)) (by simp)
    have ew : wordsOf [x, y] = x.words ++ y.words := by
      show x.words ++ (y.words ++ []) = _
      rw [List.append_nil]
    walk_at "rd"
    rw [ew] at he
    refine cat_new hb3 he (by rw [vws_len, List.length_append, List.length_singleton]; omega) fun g H4 ng hg k4 => ?_
    refine q g H4 ((k12.trans k3).trans k4) (free0 (k12.trans k3) ng) ?_
    unfold St.words
    exact hg
  | say x =>
    obtain ⟨a, vx, rfl, hS, hx⟩ := St.inv_say hv
    have a0 : atI [V.str "say", vx] 0 = some (.str "say") := at0
    have o1 := St.ok_say2 ok
    have l1 := th_w47 o1 (Nat.le_refl _)
    walk_at "rd"
    intro b H1 nb hb k1
    have hS1 := (keep_ts0 k1).sqT hS
    walk_at "rd"
    intro c H2 s2 k2 f2
    rw [cutV_tail] at s2
    have k12 := k1.trans k2
    walk_at "rd"
    refine ask ⟨.ref c, [x], _, _, 4, rfl, .tup s2 (.cons (hx.ts (keep_ts0 k12)) .nil), fun u hu => ?_, by show 1 ≤ 3; omega, (show (sh.getD i (0, 0)).1 ≤ 100 by omega), (show (sh.getD i (0, 0)).2 ≤ 100 by omega), by omega, by omega, fun e H3 k3 ne he => ?_⟩
    · cases List.mem_singleton.mp hu
      exact o1
    have hb3 := k3 _ _ (k2 _ _ hb (by simp)) (by simp)
    have ew : wordsOf [x] = x.words := by
      show x.words ++ [] = _
      rw [List.append_nil]
    walk_at "rd"
    rw [ew] at he
    refine cat_new hb3 he (by rw [vws_len, List.length_singleton]; omega) fun g H4 ng hg k4 => ?_
    refine q g H4 ((k12.trans k3).trans k4) (free0 (k12.trans k3) ng) ?_
    unfold St.words
    exact hg
  | call k ts =>
    obtain ⟨a, vt, rfl, hS, ht⟩ := St.inv_call hv
    have a0 : atI [V.str "call", V.int (k : Int), vt] 0 = some (.str "call") := at0
    have a1 : atI [V.str "call", V.int (k : Int), vt] 1 = some (.int (k : Int)) := at1
    have a2 : atI [V.str "call", V.int (k : Int), vt] 2 = some vt := at2
    obtain ⟨c1, c2, c3⟩ := St.ok_call2 ok
    have lw := ths_words c3
    have p4 := sm.one k
    have ls := sm.len
    walk_at "rd"
    intro b H1 nb hb k1
    have hS1 := (keep_ts0 k1).sqT hS
    walk_at "rd"
    refine ask ⟨vt, ts, _, _, 4, rfl, ht.ts (keep_ts0 k1), c3, by omega, (show (sh.getD i (0, 0)).1 ≤ 100 by omega), (show (sh.getD i (0, 0)).2 ≤ 100 by omega), by omega, by omega, fun e H2 k2 ne he => ?_⟩
    have hb2 := k2 _ _ hb (by simp)
    walk_at "rd"
    refine cat_new hb2 he (by rw [vws_len]; show 2 + _ ≤ _; omega) fun g H3 ng hg k3 => ?_
    walk_at "rd"
    intro l H4 nl hl k4
    have hg4 := k4 _ _ hg (by simp)
    walk_at "rd"
    refine cat_new hg4 hl (by rw [List.length_append, vws_len]; show 2 + _ + 1 ≤ _; omega) fun m H5 nm hm k5 => ?_
    have k15 := (((k1.trans k2).trans k3).trans k4).trans k5
    refine q m H5 k15 (free0 (((k1.trans k2).trans k3).trans k4) nm) ?_
    unfold St.words
    rw [vws_app, vws_app]
    exact hm
  | ite t x y =>
    obtain ⟨a, vt, vx, vy, rfl, hS, ht, hx, hy⟩ := St.inv_ite hv
    have a0 : atI [V.str "if", vt, vx, vy] 0 = some (.str "if") := at0
    have a1 : atI [V.str "if", vt, vx, vy] 1 = some vt := at1
    have a2 : atI [V.str "if", vt, vx, vy] 2 = some vx := at2
    have a3 : atI [V.str "if", vt, vx, vy] 3 = some vy := atI_nat (j := 3) rfl
    obtain ⟨e0, rfl, o1, o2, o3⟩ := St.ok_ite2 ok
    have l1 := th_w47 o1 (Nat.le_refl _)
    have l2 := sts_words sm o2
    have l3 := sts_words sm o3
    have me : (St.ite t x y).many = 1 + x.many + y.many := rfl
    walk_at "rd"
    intro b H1 nb hb k1
    have hS1 := (keep_ts0 k1).sqT hS
    walk_at "rd"
    refine ask ⟨vx, x, sh, i, e0, rfl, hx.ts (keep_ts0 k1), o2, sm, by omega, by omega, fun c H2 k2 nc hc => ?_⟩
    have hS2 := (keep_ts0 k2).sqT hS1
    have hb2 := k2 _ _ hb (by simp)
    walk_at "rd"
    refine cat_new hb2 hc (by rw [vws_len]; show 1 + _ ≤ _; omega) fun g H3 ng hg k3 => ?_
    walk_at "rd"
    intro l H4 nl hl k4
    have hg4 := k4 _ _ hg (by simp)
    have hS4 := (keep_ts0 (k3.trans k4)).sqT hS2
    walk_at "rd"
    refine cat_new hg4 hl (by rw [List.length_append, vws_len]; show 1 + _ + 2 ≤ _; omega) fun m H5 nm hm k5 => ?_
    have hS5 := (keep_ts0 k5).sqT hS4
    have k15 := (((k1.trans k2).trans k3).trans k4).trans k5
    walk_at "rd"
    refine ask ⟨vy, y, sh, i, e0, rfl, hy.ts (keep_ts0 k15), o3, sm, by omega, by omega, fun r H6 k6 nr hr6 => ?_⟩
    have hm6 := k6 _ _ hm (by simp)
    walk_at "rd"
    refine cat_new hm6 hr6 (by rw [List.length_append, List.length_append, vws_len, vws_len]; show 1 + _ + 2 + _ ≤ _; omega) fun u H7 nu hu k7 => ?_
    walk_at "rd"
    intro l8 H8 nl8 hl8 k8
    have hu8 := k8 _ _ hu (by simp)
    walk_at "rd"
    refine cat_new hu8 hl8 (by rw [List.length_append, List.length_append, List.length_append, vws_len, vws_len]; show 1 + _ + 2 + _ + 1 ≤ _; omega) fun w9 H9 nw9 hw9 k9 => ?_
    have k59 := ((k6.trans k7).trans k8).trans k9
    have hS9 := (keep_ts0 k59).sqT hS5
    walk_at "rd"
    intro l10 H10 nl10 hl10 k10
    have hS10 := (keep_ts0 k10).sqT hS9
    have hw10 := k10 _ _ hw9 (by simp)
    have k110 := (k15.trans k59).trans k10
    walk_at "rd"
    refine ask ⟨vt, t, _, _, 4, rfl, ht.ts (keep_ts0 k110), o1, (show (sh.getD i (0, 0)).1 ≤ 100 by omega), (show (sh.getD i (0, 0)).2 ≤ 100 by omega), by omega, by omega, fun r11 H11 k11 nr11 hr11 => ?_⟩
    have hl11 := k11 _ _ hl10 (by simp)
    have hw11 := k11 _ _ hw10 (by simp)
    walk_at "rd"
    refine cat_new hl11 hr11 (by rw [vws_len]; show 1 + _ ≤ _; omega) fun p12 H12 np12 hp12 k12 => ?_
    have hw12 := k12 _ _ hw11 (by simp)
    walk_at "rd"
    refine cat_new hp12 hw12 (by simp only [List.length_append, vws_len]; show 1 + _ + (1 + _ + 2 + _ + 1) ≤ _; omega) fun p13 H13 np13 hp13 k13 => ?_
    have k113 := ((k110.trans k11).trans k12).trans k13
    refine q p13 H13 k113 (free0 ((k110.trans k11).trans k12) np13) ?_
    unfold St.words
    rw [hp13]
    show some (HO.lst _) = some (HO.lst (V.str "if" :: vws _))
    simp only [vws_app]
    rfl
theorem okWords (D : DefAt K mg "body_words" sbody_words pbody_words) (Ds : DefAt K mg "step_words" sstep_words pstep_words) (T : Blt mg) (C_thing_words : Callee P w K mg base "thing_words" 11 pthing_words (spThingWords K 5)) (C_things_words : Callee P w K mg base "things_words" 12 pthings_words (spThingsWords K 5)) : ∀ n, Callee P w K mg base "body_words" (2 * n + 14) pbody_words (spBodyWords K n)
  | 0 => D.none fun vs H Q E h => by
    obtain ⟨_, _, _, _, _, rfl, _, _, _, _, z, _⟩ := h
    omega
  | n + 1 => okBodyWords D (okStepWords Ds T C_thing_words C_things_words (okWords D Ds T C_thing_words C_things_words n))
end
end
section
section
variable {P : Program} {w : World} {K : PySem.W.Frag} {mg : Str → Option Value} {base : Heap}
noncomputable def isTup : PyData → Bool
  | .tuple _ => true
  | _ => false
noncomputable def headB : List PyData → Bool
  | [] => true
  | e :: _ => SeqAt.shaped e || isTup e
noncomputable def hhB : Nat → PyData → Bool
  | 0, _ => false
  | n + 1, .tuple ds => headB ds && ds.all (hhB n)
  | _ + 1, _ => true
theorem hhB_ok : ∀ {n : Nat} {d : PyData}, hhB n d = true → Hh d
  | 0, _, h => by cases h
  | n + 1, d, h => by
    cases d with
    | tuple ds =>
      have h' : (headB ds && ds.all (hhB n)) = true := h
      rw [Bool.and_eq_true] at h'
      refine hh_tup ?_ (hhs_of fun e he => hhB_ok (List.all_eq_true.mp h'.2 e he))
      cases ds with
      | nil => trivial
      | cons e r =>
        have g : (SeqAt.shaped e || isTup e) = true := h'.1
        rw [Bool.or_eq_true] at g
        rcases g with g | g
        · exact .inl g
        · cases e with
          | tuple es => exact .inr ⟨es, rfl⟩
          | _ => cases g
    | _ => unfold Hh; trivial
noncomputable def frontB : List PyData → Bool
  | [] => true
  | .str _ :: _ => true
  | _ => false
theorem frontB_ok {ds : List PyData} (h : frontB ds = true) : ds = [] ∨ ∃ x r, ds = .str x :: r := by
  cases ds with
  | nil => exact .inl rfl
  | cons e r =>
    cases e with
    | str x => exact .inr ⟨x, r, rfl⟩
    | _ => cases h
noncomputable def flatB : PyData → Bool
  | .tuple _ => false
  | .list _ => false
  | .dict _ => false
  | _ => true
theorem flatB_ok {d : PyData} (h : flatB d = true) : flatD d := by
  cases d <;> first | trivial | (cases h; done) | (unfold flatD; trivial)
noncomputable def tqB : Nat → PyData → Bool
  | 0, _ => false
  | n + 1, .tuple ds => frontB ds && (decide (ds.length ≤ 90000) && ds.tail.all (tqB n))
  | _ + 1, d => flatB d
theorem tqB_ok : ∀ {n : Nat} {d : PyData}, tqB n d = true → Tq d
  | 0, _, h => by cases h
  | n + 1, d, h => by
    cases d with
    | tuple ds =>
      have h' : (frontB ds && (decide (ds.length ≤ 90000) && ds.tail.all (tqB n))) = true := h
      rw [Bool.and_eq_true, Bool.and_eq_true, decide_eq_true_eq] at h'
      rcases frontB_ok h'.1 with rfl | ⟨x, r, rfl⟩
      · exact .nil
      · have := h'.2.1
        rw [List.length_cons] at this
        exact .str (by omega) fun e he => tqB_ok (List.all_eq_true.mp h'.2.2 e he)
    | list _ => cases h
    | dict _ => cases h
    | _ => exact .flat (flatB_ok rfl)
noncomputable def cqB (n : Nat) : PyData → Bool
  | .tuple ts => decide (ts.length ≤ 90000) && ts.all (tqB n)
  | _ => true
noncomputable def headIs (x : Str) : List PyData → Bool
  | .str y :: _ => decide (y = x)
  | _ => false
theorem headIs_yes {x : Str} {r : List PyData} : headIs x (.str x :: r) = true := decide_eq_true rfl
theorem headIs_no {x y : Str} {r : List PyData} (n : ¬ y = x) : ¬ headIs x (.str y :: r) = true := fun z => n (of_decide_eq_true z)
noncomputable def iteB (tq bq : PyData → Bool) : List PyData → Bool
  | [] => true
  | t :: bs => tq t && bs.all bq
noncomputable def stB (tq cq bq : PyData → Bool) : PyData → Bool
  | .tuple ds => frontB ds && (decide (ds.length ≤ 90000) && (if headIs "if" ds = true then iteB tq bq ds.tail else if headIs "call" ds = true then cq (ds.tail.getD 1 .none) else ds.tail.all tq))
  | d => flatB d
noncomputable def bdB (sq : PyData → Bool) : PyData → Bool
  | .tuple ss => decide (ss.length ≤ 90000) && ss.all sq
  | d => flatB d
noncomputable def sqB : Nat → PyData → Bool
  | 0 => fun _ => false
  | n + 1 => stB (tqB n) (cqB n) (bdB (sqB n))
theorem cqB_ok {n : Nat} {d : PyData} (h : cqB n d = true) : Cq d := by
  intro ts e
  subst e
  have h' : (decide (ts.length ≤ 90000) && ts.all (tqB n)) = true := h
  rw [Bool.and_eq_true, decide_eq_true_eq] at h'
  exact ⟨h'.1, fun t ht => tqB_ok (List.all_eq_true.mp h'.2 t ht)⟩
theorem sqB_ok : ∀ {n : Nat} {d : PyData}, sqB n d = true → Sq d
  | 0, _, h => by cases h
  | n + 1, d, h => by
    cases d with
    | tuple ds =>
      have h' : (frontB ds && (decide (ds.length ≤ 90000) && (if headIs "if" ds = true then iteB (tqB n) (bdB (sqB n)) ds.tail else if headIs "call" ds = true then cqB n (ds.tail.getD 1 .none) else ds.tail.all (tqB n)))) = true := h
      rw [Bool.and_eq_true, Bool.and_eq_true, decide_eq_true_eq] at h'
      obtain ⟨hf, hl, hr⟩ := h'
      rcases frontB_ok hf with rfl | ⟨x, r, rfl⟩
      · exact .nil
      · rw [List.length_cons] at hl
        by_cases c1 : x = "if"
        · subst c1
          have hr : iteB (tqB n) (bdB (sqB n)) r = true := by
            rw [if_pos headIs_yes] at hr
            exact hr
          cases r with
          | nil => exact .ite0
          | cons t bs =>
            have g : (tqB n t && bs.all (bdB (sqB n))) = true := hr
            rw [Bool.and_eq_true] at g
            rw [List.length_cons] at hl
            refine .ite (by omega) (tqB_ok g.1) fun e he => ?_
            have ge := List.all_eq_true.mp g.2 e he
            cases e with
            | tuple ss =>
              have g2 : (decide (ss.length ≤ 90000) && ss.all (sqB n)) = true := ge
              rw [Bool.and_eq_true, decide_eq_true_eq] at g2
              exact .tup g2.1 fun s hs => sqB_ok (List.all_eq_true.mp g2.2 s hs)
            | list _ => cases ge
            | dict _ => cases ge
            | _ => exact .flat (flatB_ok rfl)
        · by_cases c2 : x = "call"
          · subst c2
            rw [if_neg (headIs_no c1), if_pos headIs_yes] at hr
            refine .call (by omega) fun e he => ?_
            have e2 : (PyData.str "call" :: r).tail.getD 1 .none = e := by
              rw [List.tail_cons, List.getD_eq_getElem?_getD, he]
              rfl
            rw [e2] at hr
            exact cqB_ok hr
          · rw [if_neg (headIs_no c1), if_neg (headIs_no c2)] at hr
            exact .other c1 c2 (by omega) fun e he => tqB_ok (List.all_eq_true.mp hr e he)
    | list _ => cases h
    | dict _ => cases h
    | _ => exact .flat (flatB_ok rfl)
theorem sg_by {n : Nat} {ds : List PyData} (h : (sqB n (.tuple ds) && hhB n (.tuple ds)) = true) : Sg (.tuple ds) := by
  rw [Bool.and_eq_true] at h
  exact ⟨sqB_ok h.1, hhB_ok h.2, _, rfl⟩
end
end
section
section
variable {P : Program} {w : World} {K : PySem.W.Frag} {mg : Str → Option Value} {base : Heap}
noncomputable def Gl (K : PySem.W.Frag) (H : Hp) (xs : List V) : Prop := ∀ x ∈ xs, ∃ d, Rp K H x d ∧ Sg d
theorem gl_nil {H : Hp} : Gl K H [] := fun _ h => by cases h
theorem gl_cons {H : Hp} {x : V} {d : PyData} {xs : List V} (h : Rp K H x d) (s : Sg d) (g : Gl K H xs) : Gl K H (x :: xs) := fun y hy => by
  rcases List.mem_cons.mp hy with rfl | hy
  · exact ⟨d, h, s⟩
  · exact g y hy
theorem gl_app {H : Hp} {xs ys : List V} (g : Gl K H xs) (h : Gl K H ys) : Gl K H (xs ++ ys) := fun y hy => (List.mem_append.mp hy).elim (g y) (h y)
theorem Gl.ts {H H1 : Hp} {xs : List V} (g : Gl K H xs) (t : Tst H H1) : Gl K H1 xs := fun x hx => by
  obtain ⟨d, h, s⟩ := g x hx
  exact ⟨d, h.ts t, s⟩
noncomputable def spLawOddStep (K : PySem.W.Frag) : Sp := fun vs H Q _ => ∃ r : Addr, vs = [.ref r] ∧ Row K H r ∧ ∀ v d H', Keep [r] H H' → Row K H' r → Rp K H' v d → Sg d → Q v H'
noncomputable abbrev sL_odd_step : Stmt := top 104
noncomputable abbrev nL_odd_step : List Str := ["_law_row", "_law_one", "_law_cell", "_law_some"]
noncomputable abbrev pL_odd_step : List Str := ["_law_row"]
theorem scL_odd_step : FnScope nL_odd_step pL_odd_step (defScope sL_odd_step) := ⟨rfl, rfl, rfl, by decide +kernel, rfl, by decide +kernel, by decide +kernel⟩
theorem okLawOddStep (D : DefAt K mg "_law_odd_step" sL_odd_step pL_odd_step) (T : Blt mg) (C_law_taken : Callee P w K mg base "_law_taken" 1 pL_taken (spTaken K)) : Callee P w K mg base "_law_odd_step" 2 pL_odd_step (spLawOddStep K) := by
  refine D.ok scL_odd_step (fun vs H Q E h => ?_) (fun f cdv A outer s H0 vs Q E hr h => ?_)
  · obtain ⟨r, rfl, _⟩ := h
    rfl
  obtain ⟨r, rfl, R, q⟩ := h
  have KK : Keep [] H0 H0 := Keep.refl
  have rN : H0 r ≠ none := R.ne
  refine ⟨_, (pss_cons (ps_set (i := 1) scL_odd_step.nd rfl (Or.inl rfl) (pe_tup (pa_cons pe_str (pa_cons pe_int pa_nil))))
  (pss_cons (ps_set (i := 2) scL_odd_step.nd rfl (Or.inl rfl) (pe_tup (pa_cons pe_str (pa_cons (pv 1) pa_nil))))
  (pss_cons (ps_set (i := 3) scL_odd_step.nd rfl (Or.inl rfl) (pe_lst (pa_cons (pe_tup (pa_cons pe_str (pa_cons (pv 1) (pa_cons (pv 1) pa_nil)))) (pa_cons (pe_tup (pa_cons pe_str (pa_cons (pe_tup (pa_cons pe_str (pa_cons (pv 2) (pa_cons (pv 2) pa_nil)))) (pa_cons (pv 1) pa_nil)))) (pa_cons (pe_tup (pa_cons pe_str (pa_cons (pv 2) (pa_cons (pv 1) pa_nil)))) (pa_cons (pe_tup (pa_cons pe_str (pa_cons (pv 2) pa_nil))) (pa_cons (pe_tup (pa_cons pe_str pa_nil)) pa_nil)))))))
  (pss_cons (ps_expr (peApp (K := K) (pv 3) (pe_tup (pa_cons pe_str (pa_cons pe_int pa_nil)))))
  (pss_cons (ps_set (i := 3) scL_odd_step.nd rfl (Or.inl rfl) (pe_op op_cat (pv 3) (pe_lst (pa_cons (pe_tup (pa_cons pe_str (pa_cons (pe_tup (pa_cons pe_str (pa_cons pe_int pa_nil))) pa_nil))) (pa_cons (pe_tup (pa_cons pe_str (pa_cons (pe_tup (pa_cons pe_str (pa_cons (pe_op op_sub pe_int pe_int) pa_nil))) pa_nil))) (pa_cons (pe_tup (pa_cons pe_str (pa_cons (pe_tup (pa_cons pe_str (pa_cons pe_int pa_nil))) pa_nil))) (pa_cons (pe_tup (pa_cons pe_str (pa_cons (pe_tup (pa_cons pe_str (pa_cons pe_int pa_nil))) pa_nil))) (pa_cons (pe_tup (pa_cons pe_str (pa_cons (pe_tup pa_nil) pa_nil))) pa_nil))))))))
  (pss_cons (ps_set (i := 3) scL_odd_step.nd rfl (Or.inl rfl) (pe_op op_cat (pv 3) (pe_lst (pa_cons (pe_tup (pa_cons pe_str (pa_cons (pe_tup (pa_cons pe_str (pa_cons pe_int pa_nil))) pa_nil))) (pa_cons (pe_tup (pa_cons pe_str (pa_cons (pe_tup (pa_cons pe_str (pa_cons (pv 1) pa_nil))) pa_nil))) (pa_cons (pe_tup (pa_cons pe_str (pa_cons (pe_tup (pa_cons pe_str (pa_cons (pv 1) pa_nil))) pa_nil))) (pa_cons (pe_tup (pa_cons pe_str (pa_cons (pe_tup (pa_cons pe_str (pa_cons pe_int (pa_cons pe_int pa_nil)))) pa_nil))) (pa_cons (pe_tup pa_nil) pa_nil))))))))
  (pss_cons (ps_set (i := 3) scL_odd_step.nd rfl (Or.inl rfl) (pe_op op_cat (pv 3) (pe_lst (pa_cons (pe_tup (pa_cons pe_str (pa_cons (pv 1) (pa_cons (pe_tup pa_nil) pa_nil)))) (pa_cons (pe_tup (pa_cons pe_str (pa_cons (pv 1) (pa_cons (pe_tup pa_nil) (pa_cons (pe_tup pa_nil) (pa_cons (pe_tup pa_nil) pa_nil)))))) (pa_cons (pe_tup (pa_cons pe_str (pa_cons (pv 1) (pa_cons (pv 2) (pa_cons (pe_tup pa_nil) pa_nil))))) (pa_cons (pe_tup (pa_cons pe_str (pa_cons pe_int (pa_cons (pe_tup pa_nil) pa_nil)))) (pa_cons (pe_tup (pa_cons pe_str (pa_cons pe_int (pa_cons (pe_tup pa_nil) pa_nil)))) pa_nil))))))))
  (pss_cons (ps_set (i := 3) scL_odd_step.nd rfl (Or.inl rfl) (pe_op op_cat (pv 3) (pe_lst (pa_cons (pe_tup (pa_cons pe_str (pa_cons pe_int (pa_cons (pe_tup (pa_cons (pv 1) (pa_cons (pv 1) (pa_cons (pv 1) (pa_cons (pv 1) pa_nil))))) pa_nil)))) (pa_cons (pe_tup (pa_cons pe_str (pa_cons (pv 1) (pa_cons (pe_tup pa_nil) pa_nil)))) (pa_cons (pe_tup (pa_cons pe_str (pa_cons pe_int (pa_cons pe_int pa_nil)))) (pa_cons (pe_tup (pa_cons pe_str (pa_cons (pv 2) (pa_cons (pv 1) (pa_cons (pv 1) pa_nil))))) pa_nil)))))))
  (pss_cons (ps_set (i := 3) scL_odd_step.nd rfl (Or.inl rfl) (pe_op op_cat (pv 3) (pe_lst (pa_cons (pe_tup (pa_cons pe_str (pa_cons (pe_tup (pa_cons pe_str pa_nil)) pa_nil))) (pa_cons (pe_tup (pa_cons pe_str (pa_cons (pe_tup (pa_cons pe_str (pa_cons pe_bl pa_nil))) pa_nil))) (pa_cons (pe_tup (pa_cons pe_str (pa_cons (pe_tup (pa_cons pe_str (pa_cons pe_int pa_nil))) pa_nil))) (pa_cons (pe_tup (pa_cons pe_str (pa_cons (pv 2) (pa_cons (pv 1) pa_nil)))) pa_nil)))))))
  (pss_cons (ps_expr (peApp (K := K) (pv 3) (pe_tup (pa_cons pe_str (pa_cons pe_int (pa_cons (pe_tup pa_nil) (pa_cons (pe_tup pa_nil) pa_nil)))))))
  (pss_one (ps_ret (pe_ix (ixL (K := K)) (pv 3) (pcall C_law_taken (hr.mono (by first | exact Nat.le_of_ble_eq_true rfl | omega)) rfl (pa_cons (pv 0) (pa_cons pe_int pa_nil))) (fun _ _ => rfl)))))))))))))), ?_⟩
  walk_at "rd"
  intro p1 H1 n1 h1 k1
  have t1 := keep_ts0 k1
  have R := R.keep0 k1
  have KN1 := KK
  have KK := KK.trans k1
  have qt1 : Rp K H1 (.ref p1) (.tuple [.str "num", .int 1]) := .tup (SqT.of h1) (.cons (.str _) (.cons (.int _) .nil))
  have qone := qt1
  walk_at "rd"
  intro p2 H2 n2 h2 k2
  have t2 := keep_ts0 k2
  have qone := qone.ts t2
  have R := R.keep0 k2
  have KN2 := KK
  have KK := KK.trans k2
  have qt2 : Rp K H2 (.ref p2) (.tuple [.str "cell", .tuple [.str "num", .int 1]]) := .tup (SqT.of h2) (.cons (.str _) (.cons qone .nil))
  have qcell := qt2
  walk_at "rd"
  intro p3 H3 n3 h3 k3
  have t3 := keep_ts0 k3
  have qone := qone.ts t3
  have qcell := qcell.ts t3
  have R := R.keep0 k3
  have KN3 := KK
  have KK := KK.trans k3
  have qt3 : Rp K H3 (.ref p3) (.tuple [.str "set", .tuple [.str "num", .int 1], .tuple [.str "num", .int 1]]) := .tup (SqT.of h3) (.cons (.str _) (.cons qone (.cons qone .nil)))
  walk_at "rd"
  intro p4 H4 n4 h4 k4
  have t4 := keep_ts0 k4
  have qone := qone.ts t4
  have qcell := qcell.ts t4
  have qt3 := qt3.ts t4
  have R := R.keep0 k4
  have KN4 := KK
  have KK := KK.trans k4
  have qt4 : Rp K H4 (.ref p4) (.tuple [.str "sum", .tuple [.str "cell", .tuple [.str "num", .int 1]], .tuple [.str "cell", .tuple [.str "num", .int 1]]]) := .tup (SqT.of h4) (.cons (.str _) (.cons qcell (.cons qcell .nil)))
  walk_at "rd"
  intro p5 H5 n5 h5 k5
  have t5 := keep_ts0 k5
  have qone := qone.ts t5
  have qcell := qcell.ts t5
  have qt3 := qt3.ts t5
  have qt4 := qt4.ts t5
  have R := R.keep0 k5
  have KN5 := KK
  have KK := KK.trans k5
  have qt5 : Rp K H5 (.ref p5) (.tuple [.str "set", .tuple [.str "sum", .tuple [.str "cell", .tuple [.str "num", .int 1]], .tuple [.str "cell", .tuple [.str "num", .int 1]]], .tuple [.str "num", .int 1]]) := .tup (SqT.of h5) (.cons (.str _) (.cons qt4 (.cons qone .nil)))
  walk_at "rd"
  intro p6 H6 n6 h6 k6
  have t6 := keep_ts0 k6
  have qone := qone.ts t6
  have qcell := qcell.ts t6
  have qt3 := qt3.ts t6
  have qt4 := qt4.ts t6
  have qt5 := qt5.ts t6
  have R := R.keep0 k6
  have KN6 := KK
  have KK := KK.trans k6
  have qt6 : Rp K H6 (.ref p6) (.tuple [.str "sat", .tuple [.str "cell", .tuple [.str "num", .int 1]], .tuple [.str "num", .int 1]]) := .tup (SqT.of h6) (.cons (.str _) (.cons qcell (.cons qone .nil)))
  walk_at "rd"
  intro p7 H7 n7 h7 k7
  have t7 := keep_ts0 k7
  have qone := qone.ts t7
  have qcell := qcell.ts t7
  have qt3 := qt3.ts t7
  have qt4 := qt4.ts t7
  have qt5 := qt5.ts t7
  have qt6 := qt6.ts t7
  have R := R.keep0 k7
  have KN7 := KK
  have KK := KK.trans k7
  have qt7 : Rp K H7 (.ref p7) (.tuple [.str "set", .tuple [.str "cell", .tuple [.str "num", .int 1]]]) := .tup (SqT.of h7) (.cons (.str _) (.cons qcell .nil))
  walk_at "rd"
  intro p8 H8 n8 h8 k8
  have t8 := keep_ts0 k8
  have qone := qone.ts t8
  have qcell := qcell.ts t8
  have qt3 := qt3.ts t8
  have qt4 := qt4.ts t8
  have qt5 := qt5.ts t8
  have qt6 := qt6.ts t8
  have qt7 := qt7.ts t8
  have R := R.keep0 k8
  have KN8 := KK
  have KK := KK.trans k8
  have qt8 : Rp K H8 (.ref p8) (.tuple [.str "say"]) := .tup (SqT.of h8) (.cons (.str _) .nil)
  walk_at "rd"
  intro p9 H9 n9 h9 k9
  have t9 := keep_ts0 k9
  have qone := qone.ts t9
  have qcell := qcell.ts t9
  have qt3 := qt3.ts t9
  have qt4 := qt4.ts t9
  have qt5 := qt5.ts t9
  have qt6 := qt6.ts t9
  have qt7 := qt7.ts t9
  have qt8 := qt8.ts t9
  have R := R.keep0 k9
  have KN9 := KK
  have KK := KK.trans k9
  obtain ⟨xs, hl, gl, ll⟩ : ∃ xs, H9 p9 = some (.lst xs) ∧ Gl K H9 xs ∧ xs.length = 5 := ⟨_, h9, (gl_cons qt3 (sg_by (n := 8) (by decide +kernel)) (gl_cons qt5 (sg_by (n := 8) (by decide +kernel)) (gl_cons qt6 (sg_by (n := 8) (by decide +kernel)) (gl_cons qt7 (sg_by (n := 8) (by decide +kernel)) (gl_cons qt8 (sg_by (n := 8) (by decide +kernel)) gl_nil))))), rfl⟩
  have ln : H0 p9 = none := (free0 KN9 n9)
  walk_at "rd"
  intro p10 H10 n10 h10 k10
  have t10 := keep_ts0 k10
  have qone := qone.ts t10
  have qcell := qcell.ts t10
  have R := R.keep0 k10
  have hl := k10 _ _ hl (by simp)
  have gl := gl.ts t10
  have KN10 := KK
  have KK := KK.trans k10
  have qt10 : Rp K H10 (.ref p10) (.tuple [.str "say", .int 1]) := .tup (SqT.of h10) (.cons (.str _) (.cons (.int _) .nil))
  walk_at "rd"
  intro H11 h11 k11
  have t11 := (ke_1 k11 hl).ts
  have qone := qone.ts t11
  have qcell := qcell.ts t11
  have qt10 := qt10.ts t11
  have R : Row K H11 r := R.keep k11 (by simp only [List.mem_singleton]; intro z; rw [z] at rN; exact rN ln) t11
  have gl := gl.ts t11
  have KK := KK.fresh1 k11 ln
  obtain ⟨xs, hl, gl, ll⟩ : ∃ xs, H11 p9 = some (.lst xs) ∧ Gl K H11 xs ∧ xs.length = 6 := ⟨_, h11, gl_app gl (gl_cons qt10 (sg_by (n := 8) (by decide +kernel)) gl_nil), by rw [List.length_append, ll] <;> rfl⟩
  walk_at "rd"
  intro p12 H12 n12 h12 k12
  have t12 := keep_ts0 k12
  have qone := qone.ts t12
  have qcell := qcell.ts t12
  have R := R.keep0 k12
  have hl := k12 _ _ hl (by simp)
  have gl := gl.ts t12
  have KN12 := KK
  have KK := KK.trans k12
  have qt12 : Rp K H12 (.ref p12) (.tuple [.str "num", .int 3]) := .tup (SqT.of h12) (.cons (.str _) (.cons (.int _) .nil))
  walk_at "rd"
  intro p13 H13 n13 h13 k13
  have t13 := keep_ts0 k13
  have qone := qone.ts t13
  have qcell := qcell.ts t13
  have qt12 := qt12.ts t13
  have R := R.keep0 k13
  have hl := k13 _ _ hl (by simp)
  have gl := gl.ts t13
  have KN13 := KK
  have KK := KK.trans k13
  have qt13 : Rp K H13 (.ref p13) (.tuple [.str "say", .tuple [.str "num", .int 3]]) := .tup (SqT.of h13) (.cons (.str _) (.cons qt12 .nil))
  walk_at "rd"
  intro p14 H14 n14 h14 k14
  have t14 := keep_ts0 k14
  have qone := qone.ts t14
  have qcell := qcell.ts t14
  have qt12 := qt12.ts t14
  have qt13 := qt13.ts t14
  have R := R.keep0 k14
  have hl := k14 _ _ hl (by simp)
  have gl := gl.ts t14
  have KN14 := KK
  have KK := KK.trans k14
  have qt14 : Rp K H14 (.ref p14) (.tuple [.str "num", .int (0 - 1)]) := .tup (SqT.of h14) (.cons (.str _) (.cons (.int _) .nil))
  walk_at "rd"
  intro p15 H15 n15 h15 k15
  have t15 := keep_ts0 k15
  have qone := qone.ts t15
  have qcell := qcell.ts t15
  have qt12 := qt12.ts t15
  have qt13 := qt13.ts t15
  have qt14 := qt14.ts t15
  have R := R.keep0 k15
  have hl := k15 _ _ hl (by simp)
  have gl := gl.ts t15
  have KN15 := KK
  have KK := KK.trans k15
  have qt15 : Rp K H15 (.ref p15) (.tuple [.str "say", .tuple [.str "num", .int (0 - 1)]]) := .tup (SqT.of h15) (.cons (.str _) (.cons qt14 .nil))
  walk_at "rd"
  intro p16 H16 n16 h16 k16
  have t16 := keep_ts0 k16
  have qone := qone.ts t16
  have qcell := qcell.ts t16
  have qt12 := qt12.ts t16
  have qt13 := qt13.ts t16
  have qt14 := qt14.ts t16
  have qt15 := qt15.ts t16
  have R := R.keep0 k16
  have hl := k16 _ _ hl (by simp)
  have gl := gl.ts t16
  have KN16 := KK
  have KK := KK.trans k16
  have qt16 : Rp K H16 (.ref p16) (.tuple [.str "own", .int 99]) := .tup (SqT.of h16) (.cons (.str _) (.cons (.int _) .nil))
  walk_at "rd"
  intro p17 H17 n17 h17 k17
  have t17 := keep_ts0 k17
  have qone := qone.ts t17
  have qcell := qcell.ts t17
  have qt12 := qt12.ts t17
  have qt13 := qt13.ts t17
  have qt14 := qt14.ts t17
  have qt15 := qt15.ts t17
  have qt16 := qt16.ts t17
  have R := R.keep0 k17
  have hl := k17 _ _ hl (by simp)
  have gl := gl.ts t17
  have KN17 := KK
  have KK := KK.trans k17
  have qt17 : Rp K H17 (.ref p17) (.tuple [.str "say", .tuple [.str "own", .int 99]]) := .tup (SqT.of h17) (.cons (.str _) (.cons qt16 .nil))
  walk_at "rd"
  intro p18 H18 n18 h18 k18
  have t18 := keep_ts0 k18
  have qone := qone.ts t18
  have qcell := qcell.ts t18
  have qt12 := qt12.ts t18
  have qt13 := qt13.ts t18
  have qt14 := qt14.ts t18
  have qt15 := qt15.ts t18
  have qt16 := qt16.ts t18
  have qt17 := qt17.ts t18
  have R := R.keep0 k18
  have hl := k18 _ _ hl (by simp)
  have gl := gl.ts t18
  have KN18 := KK
  have KK := KK.trans k18
  have qt18 : Rp K H18 (.ref p18) (.tuple [.str "par", .int 3]) := .tup (SqT.of h18) (.cons (.str _) (.cons (.int _) .nil))
  walk_at "rd"
  intro p19 H19 n19 h19 k19
  have t19 := keep_ts0 k19
  have qone := qone.ts t19
  have qcell := qcell.ts t19
  have qt12 := qt12.ts t19
  have qt13 := qt13.ts t19
  have qt14 := qt14.ts t19
  have qt15 := qt15.ts t19
  have qt16 := qt16.ts t19
  have qt17 := qt17.ts t19
  have qt18 := qt18.ts t19
  have R := R.keep0 k19
  have hl := k19 _ _ hl (by simp)
  have gl := gl.ts t19
  have KN19 := KK
  have KK := KK.trans k19
  have qt19 : Rp K H19 (.ref p19) (.tuple [.str "say", .tuple [.str "par", .int 3]]) := .tup (SqT.of h19) (.cons (.str _) (.cons qt18 .nil))
  walk_at "rd"
  intro p20 H20 n20 h20 k20
  have t20 := keep_ts0 k20
  have qone := qone.ts t20
  have qcell := qcell.ts t20
  have qt12 := qt12.ts t20
  have qt13 := qt13.ts t20
  have qt14 := qt14.ts t20
  have qt15 := qt15.ts t20
  have qt16 := qt16.ts t20
  have qt17 := qt17.ts t20
  have qt18 := qt18.ts t20
  have qt19 := qt19.ts t20
  have R := R.keep0 k20
  have hl := k20 _ _ hl (by simp)
  have gl := gl.ts t20
  have KN20 := KK
  have KK := KK.trans k20
  have qt20 : Rp K H20 (.ref p20) (.tuple []) := .tup (SqT.of h20) .nil
  walk_at "rd"
  intro p21 H21 n21 h21 k21
  have t21 := keep_ts0 k21
  have qone := qone.ts t21
  have qcell := qcell.ts t21
  have qt12 := qt12.ts t21
  have qt13 := qt13.ts t21
  have qt14 := qt14.ts t21
  have qt15 := qt15.ts t21
  have qt16 := qt16.ts t21
  have qt17 := qt17.ts t21
  have qt18 := qt18.ts t21
  have qt19 := qt19.ts t21
  have qt20 := qt20.ts t21
  have R := R.keep0 k21
  have hl := k21 _ _ hl (by simp)
  have gl := gl.ts t21
  have KN21 := KK
  have KK := KK.trans k21
  have qt21 : Rp K H21 (.ref p21) (.tuple [.str "say", .tuple []]) := .tup (SqT.of h21) (.cons (.str _) (.cons qt20 .nil))
  walk_at "rd"
  intro p22 H22 n22 h22 k22
  have t22 := keep_ts0 k22
  have qone := qone.ts t22
  have qcell := qcell.ts t22
  have qt12 := qt12.ts t22
  have qt13 := qt13.ts t22
  have qt14 := qt14.ts t22
  have qt15 := qt15.ts t22
  have qt16 := qt16.ts t22
  have qt17 := qt17.ts t22
  have qt18 := qt18.ts t22
  have qt19 := qt19.ts t22
  have qt20 := qt20.ts t22
  have qt21 := qt21.ts t22
  have R := R.keep0 k22
  have hl := k22 _ _ hl (by simp)
  have gl := gl.ts t22
  have KN22 := KK
  have KK := KK.trans k22
  obtain ⟨ys, hy, gy, ly⟩ : ∃ ys, H22 p22 = some (.lst ys) ∧ Gl K H22 ys ∧ ys.length = 5 := ⟨_, h22, (gl_cons qt13 (sg_by (n := 8) (by decide +kernel)) (gl_cons qt15 (sg_by (n := 8) (by decide +kernel)) (gl_cons qt17 (sg_by (n := 8) (by decide +kernel)) (gl_cons qt19 (sg_by (n := 8) (by decide +kernel)) (gl_cons qt21 (sg_by (n := 8) (by decide +kernel)) gl_nil))))), rfl⟩
  walk_at "rd"
  refine cat_new hl hy (by omega) fun p23 H23 n23 h23 k23 => ?_
  have t23 := keep_ts0 k23
  have qone := qone.ts t23
  have qcell := qcell.ts t23
  have R := R.keep0 k23
  obtain ⟨xs, hl, gl, ll⟩ : ∃ xs, H23 p23 = some (.lst xs) ∧ Gl K H23 xs ∧ xs.length = 11 := ⟨_, h23, gl_app (gl.ts t23) (gy.ts t23), by rw [List.length_append, ll, ly] <;> rfl⟩
  have ln : H0 p23 = none := free0 KK n23
  have KK := KK.trans k23
  walk_at "rd"
  intro p24 H24 n24 h24 k24
  have t24 := keep_ts0 k24
  have qone := qone.ts t24
  have qcell := qcell.ts t24
  have R := R.keep0 k24
  have hl := k24 _ _ hl (by simp)
  have gl := gl.ts t24
  have KN24 := KK
  have KK := KK.trans k24
  have qt24 : Rp K H24 (.ref p24) (.tuple [.str "cell", .int 1]) := .tup (SqT.of h24) (.cons (.str _) (.cons (.int _) .nil))
  walk_at "rd"
  intro p25 H25 n25 h25 k25
  have t25 := keep_ts0 k25
  have qone := qone.ts t25
  have qcell := qcell.ts t25
  have qt24 := qt24.ts t25
  have R := R.keep0 k25
  have hl := k25 _ _ hl (by simp)
  have gl := gl.ts t25
  have KN25 := KK
  have KK := KK.trans k25
  have qt25 : Rp K H25 (.ref p25) (.tuple [.str "say", .tuple [.str "cell", .int 1]]) := .tup (SqT.of h25) (.cons (.str _) (.cons qt24 .nil))
  walk_at "rd"
  intro p26 H26 n26 h26 k26
  have t26 := keep_ts0 k26
  have qone := qone.ts t26
  have qcell := qcell.ts t26
  have qt24 := qt24.ts t26
  have qt25 := qt25.ts t26
  have R := R.keep0 k26
  have hl := k26 _ _ hl (by simp)
  have gl := gl.ts t26
  have KN26 := KK
  have KK := KK.trans k26
  have qt26 : Rp K H26 (.ref p26) (.tuple [.str "num", .tuple [.str "num", .int 1]]) := .tup (SqT.of h26) (.cons (.str _) (.cons qone .nil))
  walk_at "rd"
  intro p27 H27 n27 h27 k27
  have t27 := keep_ts0 k27
  have qone := qone.ts t27
  have qcell := qcell.ts t27
  have qt24 := qt24.ts t27
  have qt25 := qt25.ts t27
  have qt26 := qt26.ts t27
  have R := R.keep0 k27
  have hl := k27 _ _ hl (by simp)
  have gl := gl.ts t27
  have KN27 := KK
  have KK := KK.trans k27
  have qt27 : Rp K H27 (.ref p27) (.tuple [.str "say", .tuple [.str "num", .tuple [.str "num", .int 1]]]) := .tup (SqT.of h27) (.cons (.str _) (.cons qt26 .nil))
  walk_at "rd"
  intro p28 H28 n28 h28 k28
  have t28 := keep_ts0 k28
  have qone := qone.ts t28
  have qcell := qcell.ts t28
  have qt24 := qt24.ts t28
  have qt25 := qt25.ts t28
  have qt26 := qt26.ts t28
  have qt27 := qt27.ts t28
  have R := R.keep0 k28
  have hl := k28 _ _ hl (by simp)
  have gl := gl.ts t28
  have KN28 := KK
  have KK := KK.trans k28
  have qt28 : Rp K H28 (.ref p28) (.tuple [.str "sum", .tuple [.str "num", .int 1]]) := .tup (SqT.of h28) (.cons (.str _) (.cons qone .nil))
  walk_at "rd"
  intro p29 H29 n29 h29 k29
  have t29 := keep_ts0 k29
  have qone := qone.ts t29
  have qcell := qcell.ts t29
  have qt24 := qt24.ts t29
  have qt25 := qt25.ts t29
  have qt26 := qt26.ts t29
  have qt27 := qt27.ts t29
  have qt28 := qt28.ts t29
  have R := R.keep0 k29
  have hl := k29 _ _ hl (by simp)
  have gl := gl.ts t29
  have KN29 := KK
  have KK := KK.trans k29
  have qt29 : Rp K H29 (.ref p29) (.tuple [.str "say", .tuple [.str "sum", .tuple [.str "num", .int 1]]]) := .tup (SqT.of h29) (.cons (.str _) (.cons qt28 .nil))
  walk_at "rd"
  intro p30 H30 n30 h30 k30
  have t30 := keep_ts0 k30
  have qone := qone.ts t30
  have qcell := qcell.ts t30
  have qt24 := qt24.ts t30
  have qt25 := qt25.ts t30
  have qt26 := qt26.ts t30
  have qt27 := qt27.ts t30
  have qt28 := qt28.ts t30
  have qt29 := qt29.ts t30
  have R := R.keep0 k30
  have hl := k30 _ _ hl (by simp)
  have gl := gl.ts t30
  have KN30 := KK
  have KK := KK.trans k30
  have qt30 : Rp K H30 (.ref p30) (.tuple [.str "num", .int 1, .int 1]) := .tup (SqT.of h30) (.cons (.str _) (.cons (.int _) (.cons (.int _) .nil)))
  walk_at "rd"
  intro p31 H31 n31 h31 k31
  have t31 := keep_ts0 k31
  have qone := qone.ts t31
  have qcell := qcell.ts t31
  have qt24 := qt24.ts t31
  have qt25 := qt25.ts t31
  have qt26 := qt26.ts t31
  have qt27 := qt27.ts t31
  have qt28 := qt28.ts t31
  have qt29 := qt29.ts t31
  have qt30 := qt30.ts t31
  have R := R.keep0 k31
  have hl := k31 _ _ hl (by simp)
  have gl := gl.ts t31
  have KN31 := KK
  have KK := KK.trans k31
  have qt31 : Rp K H31 (.ref p31) (.tuple [.str "say", .tuple [.str "num", .int 1, .int 1]]) := .tup (SqT.of h31) (.cons (.str _) (.cons qt30 .nil))
  walk_at "rd"
  intro p32 H32 n32 h32 k32
  have t32 := keep_ts0 k32
  have qone := qone.ts t32
  have qcell := qcell.ts t32
  have qt24 := qt24.ts t32
  have qt25 := qt25.ts t32
  have qt26 := qt26.ts t32
  have qt27 := qt27.ts t32
  have qt28 := qt28.ts t32
  have qt29 := qt29.ts t32
  have qt30 := qt30.ts t32
  have qt31 := qt31.ts t32
  have R := R.keep0 k32
  have hl := k32 _ _ hl (by simp)
  have gl := gl.ts t32
  have KN32 := KK
  have KK := KK.trans k32
  have qt32 : Rp K H32 (.ref p32) (.tuple []) := .tup (SqT.of h32) .nil
  walk_at "rd"
  intro p33 H33 n33 h33 k33
  have t33 := keep_ts0 k33
  have qone := qone.ts t33
  have qcell := qcell.ts t33
  have qt24 := qt24.ts t33
  have qt25 := qt25.ts t33
  have qt26 := qt26.ts t33
  have qt27 := qt27.ts t33
  have qt28 := qt28.ts t33
  have qt29 := qt29.ts t33
  have qt30 := qt30.ts t33
  have qt31 := qt31.ts t33
  have qt32 := qt32.ts t33
  have R := R.keep0 k33
  have hl := k33 _ _ hl (by simp)
  have gl := gl.ts t33
  have KN33 := KK
  have KK := KK.trans k33
  obtain ⟨ys, hy, gy, ly⟩ : ∃ ys, H33 p33 = some (.lst ys) ∧ Gl K H33 ys ∧ ys.length = 5 := ⟨_, h33, (gl_cons qt25 (sg_by (n := 8) (by decide +kernel)) (gl_cons qt27 (sg_by (n := 8) (by decide +kernel)) (gl_cons qt29 (sg_by (n := 8) (by decide +kernel)) (gl_cons qt31 (sg_by (n := 8) (by decide +kernel)) (gl_cons qt32 (sg_by (n := 8) (by decide +kernel)) gl_nil))))), rfl⟩
  walk_at "rd"
  refine cat_new hl hy (by omega) fun p34 H34 n34 h34 k34 => ?_
  have t34 := keep_ts0 k34
  have qone := qone.ts t34
  have qcell := qcell.ts t34
  have R := R.keep0 k34
  obtain ⟨xs, hl, gl, ll⟩ : ∃ xs, H34 p34 = some (.lst xs) ∧ Gl K H34 xs ∧ xs.length = 16 := ⟨_, h34, gl_app (gl.ts t34) (gy.ts t34), by rw [List.length_append, ll, ly] <;> rfl⟩
  have ln : H0 p34 = none := free0 KK n34
  have KK := KK.trans k34
  walk_at "rd"
  intro p35 H35 n35 h35 k35
  have t35 := keep_ts0 k35
  have qone := qone.ts t35
  have qcell := qcell.ts t35
  have R := R.keep0 k35
  have hl := k35 _ _ hl (by simp)
  have gl := gl.ts t35
  have KN35 := KK
  have KK := KK.trans k35
  have qt35 : Rp K H35 (.ref p35) (.tuple []) := .tup (SqT.of h35) .nil
  walk_at "rd"
  intro p36 H36 n36 h36 k36
  have t36 := keep_ts0 k36
  have qone := qone.ts t36
  have qcell := qcell.ts t36
  have qt35 := qt35.ts t36
  have R := R.keep0 k36
  have hl := k36 _ _ hl (by simp)
  have gl := gl.ts t36
  have KN36 := KK
  have KK := KK.trans k36
  have qt36 : Rp K H36 (.ref p36) (.tuple [.str "if", .tuple [.str "num", .int 1], .tuple []]) := .tup (SqT.of h36) (.cons (.str _) (.cons qone (.cons qt35 .nil)))
  walk_at "rd"
  intro p37 H37 n37 h37 k37
  have t37 := keep_ts0 k37
  have qone := qone.ts t37
  have qcell := qcell.ts t37
  have qt35 := qt35.ts t37
  have qt36 := qt36.ts t37
  have R := R.keep0 k37
  have hl := k37 _ _ hl (by simp)
  have gl := gl.ts t37
  have KN37 := KK
  have KK := KK.trans k37
  have qt37 : Rp K H37 (.ref p37) (.tuple []) := .tup (SqT.of h37) .nil
  walk_at "rd"
  intro p38 H38 n38 h38 k38
  have t38 := keep_ts0 k38
  have qone := qone.ts t38
  have qcell := qcell.ts t38
  have qt35 := qt35.ts t38
  have qt36 := qt36.ts t38
  have qt37 := qt37.ts t38
  have R := R.keep0 k38
  have hl := k38 _ _ hl (by simp)
  have gl := gl.ts t38
  have KN38 := KK
  have KK := KK.trans k38
  have qt38 : Rp K H38 (.ref p38) (.tuple []) := .tup (SqT.of h38) .nil
  walk_at "rd"
  intro p39 H39 n39 h39 k39
  have t39 := keep_ts0 k39
  have qone := qone.ts t39
  have qcell := qcell.ts t39
  have qt35 := qt35.ts t39
  have qt36 := qt36.ts t39
  have qt37 := qt37.ts t39
  have qt38 := qt38.ts t39
  have R := R.keep0 k39
  have hl := k39 _ _ hl (by simp)
  have gl := gl.ts t39
  have KN39 := KK
  have KK := KK.trans k39
  have qt39 : Rp K H39 (.ref p39) (.tuple []) := .tup (SqT.of h39) .nil
  walk_at "rd"
  intro p40 H40 n40 h40 k40
  have t40 := keep_ts0 k40
  have qone := qone.ts t40
  have qcell := qcell.ts t40
  have qt35 := qt35.ts t40
  have qt36 := qt36.ts t40
  have qt37 := qt37.ts t40
  have qt38 := qt38.ts t40
  have qt39 := qt39.ts t40
  have R := R.keep0 k40
  have hl := k40 _ _ hl (by simp)
  have gl := gl.ts t40
  have KN40 := KK
  have KK := KK.trans k40
  have qt40 : Rp K H40 (.ref p40) (.tuple [.str "if", .tuple [.str "num", .int 1], .tuple [], .tuple [], .tuple []]) := .tup (SqT.of h40) (.cons (.str _) (.cons qone (.cons qt37 (.cons qt38 (.cons qt39 .nil)))))
  walk_at "rd"
  intro p41 H41 n41 h41 k41
  have t41 := keep_ts0 k41
  have qone := qone.ts t41
  have qcell := qcell.ts t41
  have qt35 := qt35.ts t41
  have qt36 := qt36.ts t41
  have qt37 := qt37.ts t41
  have qt38 := qt38.ts t41
  have qt39 := qt39.ts t41
  have qt40 := qt40.ts t41
  have R := R.keep0 k41
  have hl := k41 _ _ hl (by simp)
  have gl := gl.ts t41
  have KN41 := KK
  have KK := KK.trans k41
  have qt41 : Rp K H41 (.ref p41) (.tuple []) := .tup (SqT.of h41) .nil
  walk_at "rd"
  intro p42 H42 n42 h42 k42
  have t42 := keep_ts0 k42
  have qone := qone.ts t42
  have qcell := qcell.ts t42
  have qt35 := qt35.ts t42
  have qt36 := qt36.ts t42
  have qt37 := qt37.ts t42
  have qt38 := qt38.ts t42
  have qt39 := qt39.ts t42
  have qt40 := qt40.ts t42
  have qt41 := qt41.ts t42
  have R := R.keep0 k42
  have hl := k42 _ _ hl (by simp)
  have gl := gl.ts t42
  have KN42 := KK
  have KK := KK.trans k42
  have qt42 : Rp K H42 (.ref p42) (.tuple [.str "if", .tuple [.str "num", .int 1], .tuple [.str "cell", .tuple [.str "num", .int 1]], .tuple []]) := .tup (SqT.of h42) (.cons (.str _) (.cons qone (.cons qcell (.cons qt41 .nil))))
  walk_at "rd"
  intro p43 H43 n43 h43 k43
  have t43 := keep_ts0 k43
  have qone := qone.ts t43
  have qcell := qcell.ts t43
  have qt35 := qt35.ts t43
  have qt36 := qt36.ts t43
  have qt37 := qt37.ts t43
  have qt38 := qt38.ts t43
  have qt39 := qt39.ts t43
  have qt40 := qt40.ts t43
  have qt41 := qt41.ts t43
  have qt42 := qt42.ts t43
  have R := R.keep0 k43
  have hl := k43 _ _ hl (by simp)
  have gl := gl.ts t43
  have KN43 := KK
  have KK := KK.trans k43
  have qt43 : Rp K H43 (.ref p43) (.tuple []) := .tup (SqT.of h43) .nil
  walk_at "rd"
  intro p44 H44 n44 h44 k44
  have t44 := keep_ts0 k44
  have qone := qone.ts t44
  have qcell := qcell.ts t44
  have qt35 := qt35.ts t44
  have qt36 := qt36.ts t44
  have qt37 := qt37.ts t44
  have qt38 := qt38.ts t44
  have qt39 := qt39.ts t44
  have qt40 := qt40.ts t44
  have qt41 := qt41.ts t44
  have qt42 := qt42.ts t44
  have qt43 := qt43.ts t44
  have R := R.keep0 k44
  have hl := k44 _ _ hl (by simp)
  have gl := gl.ts t44
  have KN44 := KK
  have KK := KK.trans k44
  have qt44 : Rp K H44 (.ref p44) (.tuple [.str "call", .int 0, .tuple []]) := .tup (SqT.of h44) (.cons (.str _) (.cons (.int _) (.cons qt43 .nil)))
  walk_at "rd"
  intro p45 H45 n45 h45 k45
  have t45 := keep_ts0 k45
  have qone := qone.ts t45
  have qcell := qcell.ts t45
  have qt35 := qt35.ts t45
  have qt36 := qt36.ts t45
  have qt37 := qt37.ts t45
  have qt38 := qt38.ts t45
  have qt39 := qt39.ts t45
  have qt40 := qt40.ts t45
  have qt41 := qt41.ts t45
  have qt42 := qt42.ts t45
  have qt43 := qt43.ts t45
  have qt44 := qt44.ts t45
  have R := R.keep0 k45
  have hl := k45 _ _ hl (by simp)
  have gl := gl.ts t45
  have KN45 := KK
  have KK := KK.trans k45
  have qt45 : Rp K H45 (.ref p45) (.tuple []) := .tup (SqT.of h45) .nil
  walk_at "rd"
  intro p46 H46 n46 h46 k46
  have t46 := keep_ts0 k46
  have qone := qone.ts t46
  have qcell := qcell.ts t46
  have qt35 := qt35.ts t46
  have qt36 := qt36.ts t46
  have qt37 := qt37.ts t46
  have qt38 := qt38.ts t46
  have qt39 := qt39.ts t46
  have qt40 := qt40.ts t46
  have qt41 := qt41.ts t46
  have qt42 := qt42.ts t46
  have qt43 := qt43.ts t46
  have qt44 := qt44.ts t46
  have qt45 := qt45.ts t46
  have R := R.keep0 k46
  have hl := k46 _ _ hl (by simp)
  have gl := gl.ts t46
  have KN46 := KK
  have KK := KK.trans k46
  have qt46 : Rp K H46 (.ref p46) (.tuple [.str "call", .int 4, .tuple []]) := .tup (SqT.of h46) (.cons (.str _) (.cons (.int _) (.cons qt45 .nil)))
  walk_at "rd"
  intro p47 H47 n47 h47 k47
  have t47 := keep_ts0 k47
  have qone := qone.ts t47
  have qcell := qcell.ts t47
  have qt35 := qt35.ts t47
  have qt36 := qt36.ts t47
  have qt37 := qt37.ts t47
  have qt38 := qt38.ts t47
  have qt39 := qt39.ts t47
  have qt40 := qt40.ts t47
  have qt41 := qt41.ts t47
  have qt42 := qt42.ts t47
  have qt43 := qt43.ts t47
  have qt44 := qt44.ts t47
  have qt45 := qt45.ts t47
  have qt46 := qt46.ts t47
  have R := R.keep0 k47
  have hl := k47 _ _ hl (by simp)
  have gl := gl.ts t47
  have KN47 := KK
  have KK := KK.trans k47
  obtain ⟨ys, hy, gy, ly⟩ : ∃ ys, H47 p47 = some (.lst ys) ∧ Gl K H47 ys ∧ ys.length = 5 := ⟨_, h47, (gl_cons qt36 (sg_by (n := 8) (by decide +kernel)) (gl_cons qt40 (sg_by (n := 8) (by decide +kernel)) (gl_cons qt42 (sg_by (n := 8) (by decide +kernel)) (gl_cons qt44 (sg_by (n := 8) (by decide +kernel)) (gl_cons qt46 (sg_by (n := 8) (by decide +kernel)) gl_nil))))), rfl⟩
  walk_at "rd"
  refine cat_new hl hy (by omega) fun p48 H48 n48 h48 k48 => ?_
  have t48 := keep_ts0 k48
  have qone := qone.ts t48
  have qcell := qcell.ts t48
  have R := R.keep0 k48
  obtain ⟨xs, hl, gl, ll⟩ : ∃ xs, H48 p48 = some (.lst xs) ∧ Gl K H48 xs ∧ xs.length = 21 := ⟨_, h48, gl_app (gl.ts t48) (gy.ts t48), by rw [List.length_append, ll, ly] <;> rfl⟩
  have ln : H0 p48 = none := free0 KK n48
  have KK := KK.trans k48
  walk_at "rd"
  intro p49 H49 n49 h49 k49
  have t49 := keep_ts0 k49
  have qone := qone.ts t49
  have qcell := qcell.ts t49
  have R := R.keep0 k49
  have hl := k49 _ _ hl (by simp)
  have gl := gl.ts t49
  have KN49 := KK
  have KK := KK.trans k49
  have qt49 : Rp K H49 (.ref p49) (.tuple [.tuple [.str "num", .int 1], .tuple [.str "num", .int 1], .tuple [.str "num", .int 1], .tuple [.str "num", .int 1]]) := .tup (SqT.of h49) (.cons qone (.cons qone (.cons qone (.cons qone .nil))))
  walk_at "rd"
  intro p50 H50 n50 h50 k50
  have t50 := keep_ts0 k50
  have qone := qone.ts t50
  have qcell := qcell.ts t50
  have qt49 := qt49.ts t50
  have R := R.keep0 k50
  have hl := k50 _ _ hl (by simp)
  have gl := gl.ts t50
  have KN50 := KK
  have KK := KK.trans k50
  have qt50 : Rp K H50 (.ref p50) (.tuple [.str "call", .int 3, .tuple [.tuple [.str "num", .int 1], .tuple [.str "num", .int 1], .tuple [.str "num", .int 1], .tuple [.str "num", .int 1]]]) := .tup (SqT.of h50) (.cons (.str _) (.cons (.int _) (.cons qt49 .nil)))
  walk_at "rd"
  intro p51 H51 n51 h51 k51
  have t51 := keep_ts0 k51
  have qone := qone.ts t51
  have qcell := qcell.ts t51
  have qt49 := qt49.ts t51
  have qt50 := qt50.ts t51
  have R := R.keep0 k51
  have hl := k51 _ _ hl (by simp)
  have gl := gl.ts t51
  have KN51 := KK
  have KK := KK.trans k51
  have qt51 : Rp K H51 (.ref p51) (.tuple []) := .tup (SqT.of h51) .nil
  walk_at "rd"
  intro p52 H52 n52 h52 k52
  have t52 := keep_ts0 k52
  have qone := qone.ts t52
  have qcell := qcell.ts t52
  have qt49 := qt49.ts t52
  have qt50 := qt50.ts t52
  have qt51 := qt51.ts t52
  have R := R.keep0 k52
  have hl := k52 _ _ hl (by simp)
  have gl := gl.ts t52
  have KN52 := KK
  have KK := KK.trans k52
  have qt52 : Rp K H52 (.ref p52) (.tuple [.str "call", .tuple [.str "num", .int 1], .tuple []]) := .tup (SqT.of h52) (.cons (.str _) (.cons qone (.cons qt51 .nil)))
  walk_at "rd"
  intro p53 H53 n53 h53 k53
  have t53 := keep_ts0 k53
  have qone := qone.ts t53
  have qcell := qcell.ts t53
  have qt49 := qt49.ts t53
  have qt50 := qt50.ts t53
  have qt51 := qt51.ts t53
  have qt52 := qt52.ts t53
  have R := R.keep0 k53
  have hl := k53 _ _ hl (by simp)
  have gl := gl.ts t53
  have KN53 := KK
  have KK := KK.trans k53
  have qt53 : Rp K H53 (.ref p53) (.tuple [.str "call", .int 1, .int 1]) := .tup (SqT.of h53) (.cons (.str _) (.cons (.int _) (.cons (.int _) .nil)))
  walk_at "rd"
  intro p54 H54 n54 h54 k54
  have t54 := keep_ts0 k54
  have qone := qone.ts t54
  have qcell := qcell.ts t54
  have qt49 := qt49.ts t54
  have qt50 := qt50.ts t54
  have qt51 := qt51.ts t54
  have qt52 := qt52.ts t54
  have qt53 := qt53.ts t54
  have R := R.keep0 k54
  have hl := k54 _ _ hl (by simp)
  have gl := gl.ts t54
  have KN54 := KK
  have KK := KK.trans k54
  have qt54 : Rp K H54 (.ref p54) (.tuple [.str "set", .tuple [.str "cell", .tuple [.str "num", .int 1]], .tuple [.str "num", .int 1], .tuple [.str "num", .int 1]]) := .tup (SqT.of h54) (.cons (.str _) (.cons qcell (.cons qone (.cons qone .nil))))
  walk_at "rd"
  intro p55 H55 n55 h55 k55
  have t55 := keep_ts0 k55
  have qone := qone.ts t55
  have qcell := qcell.ts t55
  have qt49 := qt49.ts t55
  have qt50 := qt50.ts t55
  have qt51 := qt51.ts t55
  have qt52 := qt52.ts t55
  have qt53 := qt53.ts t55
  have qt54 := qt54.ts t55
  have R := R.keep0 k55
  have hl := k55 _ _ hl (by simp)
  have gl := gl.ts t55
  have KN55 := KK
  have KK := KK.trans k55
  obtain ⟨ys, hy, gy, ly⟩ : ∃ ys, H55 p55 = some (.lst ys) ∧ Gl K H55 ys ∧ ys.length = 4 := ⟨_, h55, (gl_cons qt50 (sg_by (n := 8) (by decide +kernel)) (gl_cons qt52 (sg_by (n := 8) (by decide +kernel)) (gl_cons qt53 (sg_by (n := 8) (by decide +kernel)) (gl_cons qt54 (sg_by (n := 8) (by decide +kernel)) gl_nil)))), rfl⟩
  walk_at "rd"
  refine cat_new hl hy (by omega) fun p56 H56 n56 h56 k56 => ?_
  have t56 := keep_ts0 k56
  have qone := qone.ts t56
  have qcell := qcell.ts t56
  have R := R.keep0 k56
  obtain ⟨xs, hl, gl, ll⟩ : ∃ xs, H56 p56 = some (.lst xs) ∧ Gl K H56 xs ∧ xs.length = 25 := ⟨_, h56, gl_app (gl.ts t56) (gy.ts t56), by rw [List.length_append, ll, ly] <;> rfl⟩
  have ln : H0 p56 = none := free0 KK n56
  have KK := KK.trans k56
  walk_at "rd"
  intro p57 H57 n57 h57 k57
  have t57 := keep_ts0 k57
  have qone := qone.ts t57
  have qcell := qcell.ts t57
  have R := R.keep0 k57
  have hl := k57 _ _ hl (by simp)
  have gl := gl.ts t57
  have KN57 := KK
  have KK := KK.trans k57
  have qt57 : Rp K H57 (.ref p57) (.tuple [.str "cell"]) := .tup (SqT.of h57) (.cons (.str _) .nil)
  walk_at "rd"
  intro p58 H58 n58 h58 k58
  have t58 := keep_ts0 k58
  have qone := qone.ts t58
  have qcell := qcell.ts t58
  have qt57 := qt57.ts t58
  have R := R.keep0 k58
  have hl := k58 _ _ hl (by simp)
  have gl := gl.ts t58
  have KN58 := KK
  have KK := KK.trans k58
  have qt58 : Rp K H58 (.ref p58) (.tuple [.str "say", .tuple [.str "cell"]]) := .tup (SqT.of h58) (.cons (.str _) (.cons qt57 .nil))
  walk_at "rd"
  intro p59 H59 n59 h59 k59
  have t59 := keep_ts0 k59
  have qone := qone.ts t59
  have qcell := qcell.ts t59
  have qt57 := qt57.ts t59
  have qt58 := qt58.ts t59
  have R := R.keep0 k59
  have hl := k59 _ _ hl (by simp)
  have gl := gl.ts t59
  have KN59 := KK
  have KK := KK.trans k59
  have qt59 : Rp K H59 (.ref p59) (.tuple [.str "num", .bool true]) := .tup (SqT.of h59) (.cons (.str _) (.cons (.bl _) .nil))
  walk_at "rd"
  intro p60 H60 n60 h60 k60
  have t60 := keep_ts0 k60
  have qone := qone.ts t60
  have qcell := qcell.ts t60
  have qt57 := qt57.ts t60
  have qt58 := qt58.ts t60
  have qt59 := qt59.ts t60
  have R := R.keep0 k60
  have hl := k60 _ _ hl (by simp)
  have gl := gl.ts t60
  have KN60 := KK
  have KK := KK.trans k60
  have qt60 : Rp K H60 (.ref p60) (.tuple [.str "say", .tuple [.str "num", .bool true]]) := .tup (SqT.of h60) (.cons (.str _) (.cons qt59 .nil))
  walk_at "rd"
  intro p61 H61 n61 h61 k61
  have t61 := keep_ts0 k61
  have qone := qone.ts t61
  have qcell := qcell.ts t61
  have qt57 := qt57.ts t61
  have qt58 := qt58.ts t61
  have qt59 := qt59.ts t61
  have qt60 := qt60.ts t61
  have R := R.keep0 k61
  have hl := k61 _ _ hl (by simp)
  have gl := gl.ts t61
  have KN61 := KK
  have KK := KK.trans k61
  have qt61 : Rp K H61 (.ref p61) (.tuple [.str "worth", .int 1]) := .tup (SqT.of h61) (.cons (.str _) (.cons (.int _) .nil))
  walk_at "rd"
  intro p62 H62 n62 h62 k62
  have t62 := keep_ts0 k62
  have qone := qone.ts t62
  have qcell := qcell.ts t62
  have qt57 := qt57.ts t62
  have qt58 := qt58.ts t62
  have qt59 := qt59.ts t62
  have qt60 := qt60.ts t62
  have qt61 := qt61.ts t62
  have R := R.keep0 k62
  have hl := k62 _ _ hl (by simp)
  have gl := gl.ts t62
  have KN62 := KK
  have KK := KK.trans k62
  have qt62 : Rp K H62 (.ref p62) (.tuple [.str "say", .tuple [.str "worth", .int 1]]) := .tup (SqT.of h62) (.cons (.str _) (.cons qt61 .nil))
  walk_at "rd"
  intro p63 H63 n63 h63 k63
  have t63 := keep_ts0 k63
  have qone := qone.ts t63
  have qcell := qcell.ts t63
  have qt57 := qt57.ts t63
  have qt58 := qt58.ts t63
  have qt59 := qt59.ts t63
  have qt60 := qt60.ts t63
  have qt61 := qt61.ts t63
  have qt62 := qt62.ts t63
  have R := R.keep0 k63
  have hl := k63 _ _ hl (by simp)
  have gl := gl.ts t63
  have KN63 := KK
  have KK := KK.trans k63
  have qt63 : Rp K H63 (.ref p63) (.tuple [.str "set", .tuple [.str "cell", .tuple [.str "num", .int 1]], .tuple [.str "num", .int 1]]) := .tup (SqT.of h63) (.cons (.str _) (.cons qcell (.cons qone .nil)))
  walk_at "rd"
  intro p64 H64 n64 h64 k64
  have t64 := keep_ts0 k64
  have qone := qone.ts t64
  have qcell := qcell.ts t64
  have qt57 := qt57.ts t64
  have qt58 := qt58.ts t64
  have qt59 := qt59.ts t64
  have qt60 := qt60.ts t64
  have qt61 := qt61.ts t64
  have qt62 := qt62.ts t64
  have qt63 := qt63.ts t64
  have R := R.keep0 k64
  have hl := k64 _ _ hl (by simp)
  have gl := gl.ts t64
  have KN64 := KK
  have KK := KK.trans k64
  obtain ⟨ys, hy, gy, ly⟩ : ∃ ys, H64 p64 = some (.lst ys) ∧ Gl K H64 ys ∧ ys.length = 4 := ⟨_, h64, (gl_cons qt58 (sg_by (n := 8) (by decide +kernel)) (gl_cons qt60 (sg_by (n := 8) (by decide +kernel)) (gl_cons qt62 (sg_by (n := 8) (by decide +kernel)) (gl_cons qt63 (sg_by (n := 8) (by decide +kernel)) gl_nil)))), rfl⟩
  walk_at "rd"
  refine cat_new hl hy (by omega) fun p65 H65 n65 h65 k65 => ?_
  have t65 := keep_ts0 k65
  have qone := qone.ts t65
  have qcell := qcell.ts t65
  have R := R.keep0 k65
  obtain ⟨xs, hl, gl, ll⟩ : ∃ xs, H65 p65 = some (.lst xs) ∧ Gl K H65 xs ∧ xs.length = 29 := ⟨_, h65, gl_app (gl.ts t65) (gy.ts t65), by rw [List.length_append, ll, ly] <;> rfl⟩
  have ln : H0 p65 = none := free0 KK n65
  have KK := KK.trans k65
  walk_at "rd"
  intro p66 H66 n66 h66 k66
  have t66 := keep_ts0 k66
  have qone := qone.ts t66
  have qcell := qcell.ts t66
  have R := R.keep0 k66
  have hl := k66 _ _ hl (by simp)
  have gl := gl.ts t66
  have KN66 := KK
  have KK := KK.trans k66
  have qt66 : Rp K H66 (.ref p66) (.tuple []) := .tup (SqT.of h66) .nil
  walk_at "rd"
  intro p67 H67 n67 h67 k67
  have t67 := keep_ts0 k67
  have qone := qone.ts t67
  have qcell := qcell.ts t67
  have qt66 := qt66.ts t67
  have R := R.keep0 k67
  have hl := k67 _ _ hl (by simp)
  have gl := gl.ts t67
  have KN67 := KK
  have KK := KK.trans k67
  have qt67 : Rp K H67 (.ref p67) (.tuple []) := .tup (SqT.of h67) .nil
  walk_at "rd"
  intro p68 H68 n68 h68 k68
  have t68 := keep_ts0 k68
  have qone := qone.ts t68
  have qcell := qcell.ts t68
  have qt66 := qt66.ts t68
  have qt67 := qt67.ts t68
  have R := R.keep0 k68
  have hl := k68 _ _ hl (by simp)
  have gl := gl.ts t68
  have KN68 := KK
  have KK := KK.trans k68
  have qt68 : Rp K H68 (.ref p68) (.tuple [.str "if", .int 1, .tuple [], .tuple []]) := .tup (SqT.of h68) (.cons (.str _) (.cons (.int _) (.cons qt66 (.cons qt67 .nil))))
  walk_at "rd"
  intro H69 h69 k69
  have t69 := (ke_1 k69 hl).ts
  have qone := qone.ts t69
  have qcell := qcell.ts t69
  have qt66 := qt66.ts t69
  have qt67 := qt67.ts t69
  have qt68 := qt68.ts t69
  have R : Row K H69 r := R.keep k69 (by simp only [List.mem_singleton]; intro z; rw [z] at rN; exact rN ln) t69
  have gl := gl.ts t69
  have KK := KK.fresh1 k69 ln
  obtain ⟨xs, hl, gl, ll⟩ : ∃ xs, H69 p65 = some (.lst xs) ∧ Gl K H69 xs ∧ xs.length = 30 := ⟨_, h69, gl_app gl (gl_cons qt68 (sg_by (n := 8) (by decide +kernel)) gl_nil), by rw [List.length_append, ll] <;> rfl⟩
  walk_at "rd"
  refine ask ⟨r, 30, rfl, by decide, by decide, R, fun z Hz z0 z1 kz Rz => ?_⟩
  have hl' := kz _ _ hl (by simp only [List.mem_singleton]; intro z; rw [← z] at rN; exact rN ln)
  obtain ⟨o, rfl⟩ : ∃ o : Nat, z = (o : Int) := ⟨z.toNat, by omega⟩
  have eo : xs[o]? = some xs[o] := List.getElem?_eq_getElem (by omega)
  have ae := atI_nat eo
  obtain ⟨d, hd, sg⟩ := gl _ (List.getElem_mem (by omega : o < xs.length))
  walk_at "rd"
  exact q _ _ _ ((KK.mono (by simp)).trans kz) Rz (hd.ts (R.ts kz)) sg
end
end
section
section
variable {P : Program} {w : World} {K : PySem.W.Frag} {mg : Str → Option Value} {base : Heap}
noncomputable abbrev sneed_ways : Stmt := top 26
noncomputable abbrev nneed_ways : List Str := ["program", "ways", "work", "row", "way"]
noncomputable abbrev pneed_ways : List Str := ["program", "ways"]
theorem scneed_ways : FnScope nneed_ways pneed_ways (defScope sneed_ways) := ⟨rfl, rfl, rfl, by decide +kernel, rfl, by decide +kernel, by decide +kernel⟩
end
end
section
section
variable {P : Program} {w : World} {K : PySem.W.Frag} {mg : Str → Option Value} {base : Heap}
/-- new cells with these numbers -/
structure News (H H' : Hp) (C : Addr) (ds : List (Addr × Addr)) (ns : List Nat) : Prop where
  l : ds.length = ns.length
  nd : (flat ds).Nodup
  new : ∀ x ∈ flat ds, H x = none
  at_ : ∀ (i : Nat) (c : Addr × Addr), ds[i]? = some c → ∃ (dx : Addr) (n : Nat), ns[i]? = some n ∧ H' c.1 = some (.ins C dx (cellF (n : Int) c.2)) ∧ H' c.2 = some (.lst [])
theorem News.nil {H H' : Hp} {C : Addr} : News H H' C [] [] := ⟨rfl, List.nodup_nil, (fun _ z => nomatch z), fun i c e => by simp at e⟩
theorem News.al {H H' : Hp} {C : Addr} {ds : List (Addr × Addr)} {ns : List Nat} (g : News H H' C ds ns) : ∀ x ∈ flat ds, H' x ≠ none := fun x hx => by
  obtain ⟨i, c, hc, hx⟩ := mem_flat hx
  obtain ⟨dx, n, _, h1, h2⟩ := g.at_ i c hc
  rcases hx with rfl | rfl
  · rw [h1]; exact fun z => nomatch z
  · rw [h2]; exact fun z => nomatch z
theorem News.keep {H H1 H2 : Hp} {C : Addr} {M : List Addr} {ds : List (Addr × Addr)} {ns : List Nat} (g : News H H1 C ds ns) (k : Keep M H1 H2) (n : ∀ x ∈ flat ds, x ∉ M) : News H H2 C ds ns :=
  ⟨g.l, g.nd, g.new, fun i c hc => by
    obtain ⟨dx, m, h0, h1, h2⟩ := g.at_ i c hc
    exact ⟨dx, m, h0, k _ _ h1 (n _ (mem_flat1 hc)), k _ _ h2 (n _ (mem_flat2 hc))⟩⟩
end
end
section
section
variable {P : Program} {w : World} {K : PySem.W.Frag} {mg : Str → Option Value} {base : Heap}
noncomputable abbrev sran : Stmt := top 33
noncomputable abbrev nran : List Str := ["program", "ways", "cells", "run"]
noncomputable abbrev pran : List Str := ["program", "ways", "cells"]
theorem scran : FnScope nran pran (defScope sran) := ⟨rfl, rfl, rfl, by decide +kernel, rfl, by decide +kernel, by decide +kernel⟩
end
end
section
section
variable {P : Program} {w : World} {K : PySem.W.Frag} {mg : Str → Option Value} {base : Heap}
inductive RelL (K : PySem.W.Frag) (H : Hp) : List V → List (List Nat) → Prop
  | nil : RelL K H [] []
  | cons {t : Addr} {l : List Nat} {vs : List V} {ls : List (List Nat)} : SqT K H t (nums l) → RelL K H vs ls → RelL K H (.ref t :: vs) (l :: ls)
theorem RelL.ts {H H1 : Hp} (t : Tst H H1) : ∀ {ls : List (List Nat)} {vs : List V}, RelL K H vs ls → RelL K H1 vs ls
  | [], _, h => by cases h; exact .nil
  | l :: ls, _, h => by
    cases h with
    | cons h1 h2 => exact .cons (t.sqT h1) (RelL.ts t h2)
theorem RelL.app {H : Hp} : ∀ {ls ls' : List (List Nat)} {vs vs' : List V}, RelL K H vs ls → RelL K H vs' ls' → RelL K H (vs ++ vs') (ls ++ ls')
  | [], _, _, _, h, h' => by cases h; exact h'
  | l :: ls, _, _, _, h, h' => by
    cases h with
    | cons h1 h2 => exact .cons h1 (RelL.app h2 h')
theorem RelL.len {H : Hp} : ∀ {ls : List (List Nat)} {vs : List V}, RelL K H vs ls → vs.length = ls.length
  | [], _, h => by cases h; rfl
  | l :: ls, _, h => by
    cases h with
    | cons h1 h2 => rw [List.length_cons, List.length_cons, RelL.len h2]
theorem RelL.get {H : Hp} : ∀ {ls : List (List Nat)} {vs : List V} {i : Nat} {v : V}, RelL K H vs ls → vs[i]? = some v → ∃ t l, v = .ref t ∧ ls[i]? = some l ∧ SqT K H t (nums l)
  | [], _, _, _, h, e => by cases h; simp at e
  | l :: ls, _, 0, v, h, e => by
    cases h with
    | cons h1 h2 =>
      simp at e
      subst e
      exact ⟨_, l, rfl, rfl, h1⟩
  | l :: ls, _, i + 1, v, h, e => by
    cases h with
    | cons h1 h2 =>
      obtain ⟨t, l', q1, q2, q3⟩ := RelL.get (i := i) h2 (by simpa using e)
      exact ⟨t, l', q1, by simpa using q2, q3⟩
end
end
section
section
variable {P : Program} {w : World} {K : PySem.W.Frag} {mg : Str → Option Value} {base : Heap}
/-- what a program and its ways must be -/
structure Pw (PP : List Wk) (W : List (List Str)) : Prop where
  m : ∃ mm, Good PP mm ∧ mm ≤ 70
  w : WaysOk PP W ways4
theorem Pw.lit {PP : List Wk} {W : List (List Str)} (h : Pw PP W) : ∀ wk ∈ PP, wk.body.lit := fun wk hwk => by
  obtain ⟨mm, gd, _⟩ := h.m
  obtain ⟨i, hi⟩ := List.mem_iff_getElem?.mp hwk
  exact Sts.ok_lit (gd.body i wk hi)
theorem Pw.run {H : Hp} {PP : List Wk} {W : List (List Str)} (h : Pw PP W) {vp vw : V} (hp : Rp K H vp (encP PP)) (hw : Rp K H vw (encW W)) : Run K H PP W vp vw := by
  obtain ⟨mm, gd, _⟩ := h.m
  refine ⟨hp, hw, fun w hw => by have := gd.owns w hw; omega, fun ws hws x hx => ?_, fun ws hws => ?_⟩
  · obtain ⟨i, hi⟩ := List.mem_iff_getElem?.mp hws
    have h1 := (List.getElem?_eq_some_iff.mp hi).1
    rw [h.w.1] at h1
    exact (h.w.2 i _ ws (List.getElem?_eq_getElem h1) hi).2 x hx
  · obtain ⟨i, hi⟩ := List.mem_iff_getElem?.mp hws
    have h1 := (List.getElem?_eq_some_iff.mp hi).1
    rw [h.w.1] at h1
    have := (h.w.2 i _ ws (List.getElem?_eq_getElem h1) hi).1
    have := gd.params _ (List.getElem_mem h1)
    omega
noncomputable abbrev smixed : Stmt := top 50
noncomputable abbrev nmixed : List Str := ["program", "ways", "cells"]
noncomputable abbrev pmixed : List Str := ["program", "ways"]
theorem scmixed : FnScope nmixed pmixed (defScope smixed) := ⟨rfl, rfl, rfl, by decide +kernel, rfl, by decide +kernel, by decide +kernel⟩
end
end
section
section
variable {P : Program} {w : World} {K : PySem.W.Frag} {mg : Str → Option Value} {base : Heap}
noncomputable abbrev sparted : Stmt := top 48
noncomputable abbrev nparted : List Str := ["program", "one", "other", "cells"]
noncomputable abbrev pparted : List Str := ["program", "one", "other"]
theorem scparted : FnScope nparted pparted (defScope sparted) := ⟨rfl, rfl, rfl, by decide +kernel, rfl, by decide +kernel, by decide +kernel⟩
end
end
section
section
variable {P : Program} {w : World} {K : PySem.W.Frag} {mg : Str → Option Value} {base : Heap}
theorem Rps.drop {H : Hp} : ∀ {ds : List PyData} {vs : List V} (n : Nat), Rps K H vs ds → Rps K H (vs.drop n) (ds.drop n)
  | _, _, 0, h => h
  | [], _, n + 1, h => by cases h; exact .nil
  | d :: ds, _, n + 1, h => by
    cases h with
    | cons h1 h2 => exact Rps.drop n h2
theorem lcLi {σ : L2.St} {H : Hp} {Q : VK} {te : TE} {a : Addr} {xs : List V} {g : TG} {tt : TT} {vs : List Nat} (Pv : Addr → Nat → Hp → Prop) (h0 : ∀ E H1, H E = none → H1 E = some (.lst []) → Keep [] H H1 → Pv E 0 H1) (hG : ∀ E i H, i ≤ xs.length → Pv E i H → SqL K H a xs)
    (hs : ∀ E i x H, xs[i]? = some x → Pv E i H → g x (wipe σ vs) H fun σ2 H2 => wipe σ2 vs = wipe σ vs ∧ tt σ2 H2 fun b H3 => if b = true then te σ2 H3 fun y H4 => Acc E y H4 (Pv E (i + 1)) else Pv E (i + 1) H3) (hd : ∀ E H, Pv E xs.length H → Q (.ref E) H) : LcIt (Itl K a) g tt te vs σ H Q :=
  lcYi walk_list Pv h0 hG (fun E i x H H' hi p y => by
    obtain ⟨rfl, e⟩ := y
    exact hs E i x H' e p) hd
end
end
section
section
variable {P : Program} {w : World} {K : PySem.W.Frag} {mg : Str → Option Value} {base : Heap}
/-- a work as it may be told -/
noncomputable def Wg (x : PyData) : Prop := ∃ (p o : Int) (ss : List PyData), x = .tuple [.int p, .int o, .tuple ss] ∧ (∀ s ∈ ss, Sg s) ∧ ss.length ≤ 300
noncomputable def Wg0 (x : PyData) : Prop := ∃ (p o : Int) (ss : List PyData), x = .tuple [.int p, .int o, .tuple ss] ∧ (∀ s ∈ ss, Sg s) ∧ ss.length ≤ 200
theorem Wg0.wg {x : PyData} (h : Wg0 x) : Wg x := by
  obtain ⟨p, o, ss, e, s, l⟩ := h
  exact ⟨p, o, ss, e, s, by omega⟩
theorem rps_reps {H : Hp} {v : V} {d : PyData} (h : Rp K H v d) : ∀ {n : Nat}, Rps K H (List.replicate n v) (List.replicate n d)
  | 0 => .nil
  | n + 1 => by
    rw [List.replicate_succ, List.replicate_succ]
    exact .cons h (rps_reps h)
theorem rps_flats {H : Hp} {xs : List V} {ws : List PyData} (h : Rps K H xs ws) : ∀ {n : Nat}, Rps K H (List.replicate n xs).flatten (List.replicate n ws).flatten
  | 0 => .nil
  | n + 1 => by
    rw [List.replicate_succ, List.replicate_succ, List.flatten_cons, List.flatten_cons]
    exact h.append (rps_flats h)
noncomputable def spLawSpoilt (K : PySem.W.Frag) : Sp := fun vs H Q _ => ∃ (r : Addr) (v : V) (ws : List PyData), vs = [.ref r, v] ∧ Row K H r ∧ Rp K H v (.tuple ws) ∧ (∀ x ∈ ws, Wg0 x) ∧ 1 ≤ ws.length ∧ ws.length ≤ 4 ∧
  ∀ v' ws' H', Keep [r] H H' → Row K H' r → Rp K H' v' (.tuple ws') → (∀ x ∈ ws', Wg x) → ws'.length ≤ 20 → Q v' H'
theorem wgs_put {ws : List PyData} {a : Nat} {x : PyData} (h : ∀ y ∈ ws, Wg y) (hx : Wg x) : ∀ y ∈ ws.take a ++ [x] ++ ws.drop (a + 1), Wg y := fun y hy => by
  rcases List.mem_append.mp hy with hy | hy
  · rcases List.mem_append.mp hy with hy | hy
    · exact h y (List.mem_of_mem_take hy)
    · rw [List.mem_singleton.mp hy]; exact hx
  · exact h y (List.mem_of_mem_drop hy)
noncomputable abbrev sL_spoilt : Stmt := top 105
noncomputable abbrev nL_spoilt : List Str := ["_law_row", "_law_program_here", "_law_at", "_law_params", "_law_owns", "_law_body_here", "_law_way", "_law_k", "_law_step_here"]
noncomputable abbrev pL_spoilt : List Str := ["_law_row", "_law_program_here"]
theorem scL_spoilt : FnScope nL_spoilt pL_spoilt (defScope sL_spoilt) := ⟨rfl, rfl, rfl, by decide +kernel, rfl, by decide +kernel, by decide +kernel⟩
theorem okLawSpoilt (D : DefAt K mg "_law_spoilt" sL_spoilt pL_spoilt) (T : Blt mg) (C_law_taken : Callee P w K mg base "_law_taken" 1 pL_taken (spTaken K)) (C_law_deep : Callee P w K mg base "_law_deep" 2 pL_deep (spLawDeep K)) (C_law_around : Callee P w K mg base "_law_around" 2 pL_around (spLawAround K))
    (C_law_odd_step : Callee P w K mg base "_law_odd_step" 2 pL_odd_step (spLawOddStep K)) : Callee P w K mg base "_law_spoilt" 3 pL_spoilt (spLawSpoilt K) := by
  refine D.ok scL_spoilt (fun vs H Q E h => ?_) (fun f cdv A outer s H vs Q E hr h => ?_)
  · obtain ⟨r, v, ws, rfl, _⟩ := h
    rfl
  obtain ⟨r, v, ws, rfl, R, hR, wg0, w1, w4, q⟩ := h
  have wg : ∀ x ∈ ws, Wg x := fun x hx => (wg0 x hx).wg
  obtain ⟨a, xs, rfl, hT, hx⟩ := hR.tup_inv
  have lx := hx.length
  refine ⟨_, (pss_cons (ps_set (i := 2) scL_spoilt.nd rfl (Or.inl rfl) (pcall C_law_taken (hr.mono (by first | exact Nat.le_of_ble_eq_true rfl | omega)) rfl (pa_cons (pv 0) (pa_cons (pe_callB (cLen (K := K)) (by rfl) T.len PySem.boot_len (pa_cons (pv 1) pa_nil)) pa_nil))))
  (pss_cons (ps_asg (pe_ix (ixT (K := K)) (pv 1) (pv 2) (fun _ _ => rfl)) (pgTup (K := K) (by rfl) (pgs_cons (pg_name (i := 3) scL_spoilt.nd rfl (Or.inl rfl)) (pgs_cons (pg_name (i := 4) scL_spoilt.nd rfl (Or.inl rfl)) (pgs_cons (pg_name (i := 5) scL_spoilt.nd rfl (Or.inl rfl)) pgs_nil)))))
  (pss_cons (ps_set (i := 6) scL_spoilt.nd rfl (Or.inl rfl) (pcall C_law_taken (hr.mono (by first | exact Nat.le_of_ble_eq_true rfl | omega)) rfl (pa_cons (pv 0) (pa_cons pe_int pa_nil))))
  (pss_cons (ps_set (i := 7) scL_spoilt.nd rfl (Or.inl rfl) (pcall C_law_taken (hr.mono (by first | exact Nat.le_of_ble_eq_true rfl | omega)) rfl (pa_cons (pv 0) (pa_cons (pe_op op_add (pe_callB (cLen (K := K)) (by rfl) T.len PySem.boot_len (pa_cons (pv 5) pa_nil)) pe_int) pa_nil))))
  (pss_cons (ps_set (i := 8) scL_spoilt.nd rfl (Or.inl rfl) (pe_tup (pa_cons pe_str (pa_cons (pe_tup (pa_cons pe_str (pa_cons pe_int pa_nil))) pa_nil))))
  (pss_cons (ps_if (pt_cmpR op_eq (pv 6) pe_int (nomark _)) (pss_one (ps_ret (pe_ix (ixL (K := K)) (pe_lst (pa_cons (pe_tup pa_nil) (pa_cons (pe_op (opRepG (K := K)) (pv 1) pe_int) (pa_cons (pe_op (opCatA (K := K)) (pe_op (opCatA (K := K)) (pe_slice (slA (K := K)) (pv 1) po_none (po_some (pv 2))) (pe_tup (pa_cons (pe_tup (pa_cons pe_int (pa_cons (pv 4) (pa_cons (pv 5) pa_nil)))) pa_nil))) (pe_slice (slA (K := K)) (pv 1) (po_some (pe_op op_add (pv 2) pe_int)) po_none)) pa_nil)))) (pcall C_law_taken (hr.mono (by first | exact Nat.le_of_ble_eq_true rfl | omega)) rfl (pa_cons (pv 0) (pa_cons pe_int pa_nil))) (fun _ _ => rfl)))) pss_nil)
  (pss_cons (ps_if (pt_cmpR op_eq (pv 6) pe_int (nomark _)) (pss_one (ps_set (i := 4) scL_spoilt.nd rfl (Or.inl rfl) (pe_ix (ixL (K := K)) (pe_lst (pa_cons pe_int (pa_cons (pe_op op_sub pe_int pe_int) pa_nil))) (pcall C_law_taken (hr.mono (by first | exact Nat.le_of_ble_eq_true rfl | omega)) rfl (pa_cons (pv 0) (pa_cons pe_int pa_nil))) (fun _ _ => rfl)))) pss_nil)
  (pss_cons (ps_if (pt_cmpR op_eq (pv 6) pe_int (nomark _)) (pss_one (ps_set (i := 5) scL_spoilt.nd rfl (Or.inl rfl) (pe_op (opCatA (K := K)) (pe_op (opRepG (K := K)) (pe_tup (pa_cons (pv 8) pa_nil)) (pe_op op_add pe_int (pcall C_law_taken (hr.mono (by first | exact Nat.le_of_ble_eq_true rfl | omega)) rfl (pa_cons (pv 0) (pa_cons pe_int pa_nil))))) (pe_tup (pa_cons (pe_tup (pa_cons pe_str (pa_cons (pe_tup (pa_cons pe_str (pa_cons pe_int pa_nil))) (pa_cons (pe_op (opRepG (K := K)) (pe_tup (pa_cons (pv 8) pa_nil)) (pcall C_law_taken (hr.mono (by first | exact Nat.le_of_ble_eq_true rfl | omega)) rfl (pa_cons (pv 0) (pa_cons pe_int pa_nil)))) (pa_cons (pe_tup (pa_cons (pv 8) pa_nil)) pa_nil))))) pa_nil))))) pss_nil)
  (pss_cons (ps_if (pt_cmpR op_eq (pv 6) pe_int (nomark _)) (pss_one (ps_set (i := 5) scL_spoilt.nd rfl (Or.inl rfl) (pe_op (opCatA (K := K)) (pe_slice (slA (K := K)) (pv 5) po_none (po_some (pv 7))) (pe_tup (pa_cons (pcall C_law_around (hr.mono (by first | exact Nat.le_of_ble_eq_true rfl | omega)) rfl (pa_cons (pv 0) (pa_cons (pv 8) (pa_cons (pe_op op_add pe_int (pcall C_law_taken (hr.mono (by first | exact Nat.le_of_ble_eq_true rfl | omega)) rfl (pa_cons (pv 0) (pa_cons pe_int pa_nil)))) pa_nil)))) pa_nil))))) pss_nil)
  (pss_cons (ps_if (pt_cmpR op_eq (pv 6) pe_int (nomark _)) (pss_one (ps_set (i := 5) scL_spoilt.nd rfl (Or.inl rfl) (pe_op (opCatA (K := K)) (pe_slice (slA (K := K)) (pv 5) po_none (po_some (pv 7))) (pe_tup (pa_cons (pe_tup (pa_cons pe_str (pa_cons (pcall C_law_deep (hr.mono (by first | exact Nat.le_of_ble_eq_true rfl | omega)) rfl (pa_cons (pv 0) (pa_cons (pe_tup (pa_cons pe_str (pa_cons pe_int pa_nil))) (pa_cons (pe_op op_add pe_int (pcall C_law_taken (hr.mono (by first | exact Nat.le_of_ble_eq_true rfl | omega)) rfl (pa_cons (pv 0) (pa_cons pe_int pa_nil)))) pa_nil)))) pa_nil))) pa_nil))))) pss_nil)
  (pss_cons (ps_if (pt_cmpR op_eq (pv 6) pe_int (nomark _)) (pss_one (ps_ret (pe_op (opCatA (K := K)) (pe_tup (pa_cons (pe_tup (pa_cons pe_int (pa_cons (pv 4) (pa_cons (pv 5) pa_nil)))) pa_nil)) (pe_slice (slA (K := K)) (pv 1) (po_some pe_int) po_none)))) pss_nil)
  (pss_cons (ps_if (pt_cmpR op_gt (pv 6) pe_int (nomark _)) (pss_one (ps_set (i := 5) scL_spoilt.nd rfl (Or.inl rfl) (pe_op (opCatA (K := K)) (pe_op (opCatA (K := K)) (pe_slice (slA (K := K)) (pv 5) po_none (po_some (pv 7))) (pe_tup (pa_cons (pcall C_law_around (hr.mono (by first | exact Nat.le_of_ble_eq_true rfl | omega)) rfl (pa_cons (pv 0) (pa_cons (pcall C_law_odd_step (hr.mono (by first | exact Nat.le_of_ble_eq_true rfl | omega)) rfl (pa_cons (pv 0) pa_nil)) (pa_cons (pcall C_law_taken (hr.mono (by first | exact Nat.le_of_ble_eq_true rfl | omega)) rfl (pa_cons (pv 0) (pa_cons pe_int pa_nil))) pa_nil)))) pa_nil))) (pe_slice (slA (K := K)) (pv 5) (po_some (pv 7)) po_none)))) pss_nil)
  (pss_one (ps_ret (pe_op (opCatA (K := K)) (pe_op (opCatA (K := K)) (pe_slice (slA (K := K)) (pv 1) po_none (po_some (pv 2))) (pe_tup (pa_cons (pe_tup (pa_cons (pv 3) (pa_cons (pv 4) (pa_cons (pv 5) pa_nil)))) pa_nil))) (pe_slice (slA (K := K)) (pv 1) (po_some (pe_op op_add (pv 2) pe_int)) po_none)))))))))))))))), ?_⟩
  walk_at "rd"
  refine ask ⟨r, (xs.length : Nat), rfl, by omega, by omega, R, fun z1 H1 z10 z11 k1 R1 => ?_⟩
  obtain ⟨at_, rfl⟩ : ∃ m : Nat, z1 = (m : Int) := ⟨z1.toNat, by omega⟩
  have lat : at_ < xs.length := by omega
  have hT1 := (R.ts k1).sqT hT
  have hx1 := hx.ts (R.ts k1)
  have ea := List.getElem?_eq_getElem lat
  have ae := atI_nat ea
  obtain ⟨d, ed, hd⟩ := hx1.get' ea
  obtain ⟨p, o, ss, rfl, sg, ls⟩ := wg0 d (List.mem_of_getElem? ed)
  obtain ⟨wp, ys, ew, hW, hy⟩ := hd.tup_inv
  obtain ⟨v0, r0, rfl, g0, gr⟩ := hy.inv
  obtain ⟨v1, r1, rfl, g1, gr1⟩ := gr.inv
  obtain ⟨v2, r2, rfl, g2, gr2⟩ := gr1.inv
  cases gr2.inv0
  cases g0.int_inv
  cases g1.int_inv
  obtain ⟨bp, bs, rfl, hB, hbs⟩ := g2.tup_inv
  have lb := hbs.length
  rw [ew] at ae
  walk_at "rd"
  refine ask ⟨r, 8, rfl, by decide, by decide, R1, fun z2 H2 z20 z21 k2 R2 => ?_⟩
  have t2 := R1.ts k2
  have hT2 := t2.sqT hT1
  have hx2 := hx1.ts t2
  have hB2 := t2.sqT hB
  have hbs2 := hbs.ts t2
  walk_at "rd"
  refine ask ⟨r, ((bs.length : Nat) : Int) + 1, rfl, by omega, by omega, R2, fun z3 H3 z30 z31 k3 R3 => ?_⟩
  obtain ⟨kk, rfl⟩ : ∃ m : Nat, z3 = (m : Int) := ⟨z3.toNat, by omega⟩
  have t3 := R2.ts k3
  walk_at "rd"
  intro p4 H4 n4 h4 k4
  walk_at "rd"
  intro p5 H5 n5 h5 k5
  have k45 := k4.trans k5
  have t5 := t3.trans (keep_ts0 k45)
  have R5 := R3.keep0 k45
  have hT5 := t5.sqT hT2
  have hx5 := hx2.ts t5
  have hB5 := t5.sqT hB2
  have hbs5 := hbs2.ts t5
  have hs5 : Rp K H5 (.ref p5) (.tuple [.str "say", .tuple [.str "num", .int 1]]) := .tup (SqT.of h5) (.cons (.str _) (.cons (.tup ((keep_ts0 k5).sqT (SqT.of h4)) (.cons (.str _) (.cons (.int _) .nil))) .nil))
  have k05 : Keep [r] H H5 := ((k1.trans k2).trans k3).by0 k45
  have KK := k05
  have hT := hT5
  have hx := hx5
  have hB := hB5
  have hb := hbs5
  have hs := hs5
  have R := R5
  walk_at "rd"
  have cs : z2 = 0 ∨ z2 = 1 ∨ z2 = 2 ∨ z2 = 3 ∨ z2 = 4 ∨ z2 = 5 ∨ z2 = 6 ∨ z2 = 7 := by omega
  rcases cs with rfl | rfl | rfl | rfl | rfl | rfl | rfl | rfl
  · -- 0
    walk_at "rd"
    intro p6 H6 n6 h6 k6
    have t_ := keep_ts0 k6
    have hT := t_.sqT hT
    have hx := hx.ts t_
    have hB := t_.sqT hB
    have hb := hb.ts t_
    have hs := hs.ts t_
    have R := R.keep0 k6
    have KK := KK.by0 k6
    have he : Rp K H6 (.ref p6) (.tuple []) := .tup (SqT.of h6) .nil
    walk_at "rd"
    refine r_repGn (n := 5) hT (by omega) (by omega) (by omega) (by omega) fun p7 H7 k7 sqr => ?_
    have t_ := keep_ts0 k7
    have hT := t_.sqT hT
    have hx := hx.ts t_
    have hB := t_.sqT hB
    have hb := hb.ts t_
    have hs := hs.ts t_
    have he := he.ts t_
    have R := R.keep0 k7
    have KK := KK.by0 k7
    walk_at "rd"
    intro p8 H8 sq1 k8 m8
    rw [cutV_up] at sq1
    have t_ := keep_ts0 k8
    have hT := t_.sqT hT
    have hx := hx.ts t_
    have hB := t_.sqT hB
    have hb := hb.ts t_
    have hs := hs.ts t_
    have he := he.ts t_
    have sqr := t_.sqT sqr
    have R := R.keep0 k8
    have KK := KK.by0 k8
    walk_at "rd"
    intro p9 H9 n9 h9 k9
    have t_ := keep_ts0 k9
    have hT := t_.sqT hT
    have hx := hx.ts t_
    have hB := t_.sqT hB
    have hb := hb.ts t_
    have hs := hs.ts t_
    have he := he.ts t_
    have sqr := t_.sqT sqr
    have sq1 := t_.sqT sq1
    have R := R.keep0 k9
    have KK := KK.by0 k9
    have hw : Rp K H9 (.ref p9) (.tuple [.int (4), .int (o), .tuple (ss)]) := .tup (SqT.of h9) (.cons (.int _) (.cons (.int _) (.cons (.tup hB hb) .nil)))
    walk_at "rd"
    intro p10 H10 n10 h10 k10
    have t_ := keep_ts0 k10
    have hT := t_.sqT hT
    have hx := hx.ts t_
    have hB := t_.sqT hB
    have hb := hb.ts t_
    have hs := hs.ts t_
    have he := he.ts t_
    have sqr := t_.sqT sqr
    have sq1 := t_.sqT sq1
    have hw := hw.ts t_
    have R := R.keep0 k10
    have KK := KK.by0 k10
    have ho1 : Rp K H10 (.ref p10) (.tuple [.tuple [.int (4), .int (o), .tuple (ss)]]) := .tup (SqT.of h10) (.cons hw .nil)
    have sq2 : SqT K H10 p10 [.ref p9] := SqT.of h10
    walk_at "rd"
    refine r_catA sq1 sq2 (Nat.le_trans (by simp only [List.length_take, List.length_cons, List.length_nil]; omega : _ ≤ 1000) (by decide)) fun p11 H11 sq3 k11 m11 => ?_
    have t_ := keep_ts0 k11
    have hT := t_.sqT hT
    have hx := hx.ts t_
    have hB := t_.sqT hB
    have hb := hb.ts t_
    have hs := hs.ts t_
    have he := he.ts t_
    have sqr := t_.sqT sqr
    have sq1 := t_.sqT sq1
    have hw := hw.ts t_
    have ho1 := ho1.ts t_
    have sq2 := t_.sqT sq2
    have R := R.keep0 k11
    have KK := KK.by0 k11
    walk_at "rd"
    intro p12 H12 sq4 k12 m12
    rw [show ((at_ : Int) + 1) = ((at_ + 1 : Nat) : Int) by omega, cutV_down] at sq4
    have t_ := keep_ts0 k12
    have hT := t_.sqT hT
    have hx := hx.ts t_
    have hB := t_.sqT hB
    have hb := hb.ts t_
    have hs := hs.ts t_
    have he := he.ts t_
    have sqr := t_.sqT sqr
    have sq1 := t_.sqT sq1
    have hw := hw.ts t_
    have ho1 := ho1.ts t_
    have sq2 := t_.sqT sq2
    have sq3 := t_.sqT sq3
    have R := R.keep0 k12
    have KK := KK.by0 k12
    walk_at "rd"
    refine r_catA sq3 sq4 (Nat.le_trans (by simp only [List.length_append, List.length_take, List.length_drop, List.length_cons, List.length_nil]; omega : _ ≤ 1000) (by decide)) fun p13 H13 sq5 k13 m13 => ?_
    have t_ := keep_ts0 k13
    have hT := t_.sqT hT
    have hx := hx.ts t_
    have hB := t_.sqT hB
    have hb := hb.ts t_
    have hs := hs.ts t_
    have he := he.ts t_
    have sqr := t_.sqT sqr
    have sq1 := t_.sqT sq1
    have hw := hw.ts t_
    have ho1 := ho1.ts t_
    have sq2 := t_.sqT sq2
    have sq3 := t_.sqT sq3
    have sq4 := t_.sqT sq4
    have R := R.keep0 k13
    have KK := KK.by0 k13
    have Rl := R
    walk_at "rd"
    intro p14 H14 n14 h14 k14
    have t_ := keep_ts0 k14
    have hT := t_.sqT hT
    have hx := hx.ts t_
    have hB := t_.sqT hB
    have hb := hb.ts t_
    have hs := hs.ts t_
    have he := he.ts t_
    have sqr := t_.sqT sqr
    have sq1 := t_.sqT sq1
    have hw := hw.ts t_
    have ho1 := ho1.ts t_
    have sq2 := t_.sqT sq2
    have sq3 := t_.sqT sq3
    have sq4 := t_.sqT sq4
    have sq5 := t_.sqT sq5
    have R := R.keep0 k14
    have KK := KK.by0 k14
    have nl := n14
    walk_at "rd"
    refine ask ⟨r, 3, rfl, by decide, by decide, R, fun z15 H15 z150 z151 k15 R15 => ?_⟩
    have t_ := R.ts k15
    have hT := t_.sqT hT
    have hx := hx.ts t_
    have hB := t_.sqT hB
    have hb := hb.ts t_
    have hs := hs.ts t_
    have he := he.ts t_
    have sqr := t_.sqT sqr
    have sq1 := t_.sqT sq1
    have hw := hw.ts t_
    have ho1 := ho1.ts t_
    have sq2 := t_.sqT sq2
    have sq3 := t_.sqT sq3
    have sq4 := t_.sqT sq4
    have sq5 := t_.sqT sq5
    have R := R15
    have KK := KK.trans k15
    obtain ⟨zz, rfl⟩ : ∃ m : Nat, z15 = (m : Int) := ⟨z15.toNat, by omega⟩
    obtain ⟨v8, e8, o8⟩ := three_at (a := .ref p6) (b := .ref p7) (c := .ref p13) (z := (zz : Int)) (by omega) (by omega)
    have hl := k15 _ _ h14 (r_ne_new Rl nl)
    walk_at "rd"
    rcases o8 with rfl | rfl | rfl
    · exact q _ [] _ KK R he (fun x z => by cases z) (by simp)
    · refine q _ (List.replicate 5 ws).flatten _ KK R (.tup sqr (rps_flats hx)) (fun x z => ?_) ?_
      · obtain ⟨l, hl, hz⟩ := List.mem_flatten.mp z
        rw [List.eq_of_mem_replicate hl] at hz
        exact wg x hz
      · simp only [List.replicate, List.flatten_cons, List.flatten_nil, List.length_append, List.length_nil]
        omega
    · exact q _ _ _ KK R (.tup sq5 (((hx.take at_).append (.cons hw .nil)).append (hx.drop (at_ + 1)))) (wgs_put wg ⟨_, _, _, rfl, sg, by omega⟩) (by simp only [List.length_append, List.length_take, List.length_drop, List.length_cons, List.length_nil]; omega)
  · -- 1
    walk_at "rd"
    intro p6 H6 n6 h6 k6
    have t_ := keep_ts0 k6
    have hT := t_.sqT hT
    have hx := hx.ts t_
    have hB := t_.sqT hB
    have hb := hb.ts t_
    have hs := hs.ts t_
    have R := R.keep0 k6
    have KK := KK.by0 k6
    have nl := n6
    walk_at "rd"
    refine ask ⟨r, 2, rfl, by decide, by decide, R, fun z7 H7 z70 z71 k7 R7 => ?_⟩
    have t_ := R.ts k7
    have hT := t_.sqT hT
    have hx := hx.ts t_
    have hB := t_.sqT hB
    have hb := hb.ts t_
    have hs := hs.ts t_
    have R := R7
    have KK := KK.trans k7
    obtain ⟨zz, rfl⟩ : ∃ m : Nat, z7 = (m : Int) := ⟨z7.toNat, by omega⟩
    have hl := k7 _ _ h6 (r_ne_new R5 nl)
    obtain ⟨v8, e8, o8⟩ := two_at (a := .int 100) (b := .int (0 - 1)) (z := (zz : Int)) (by omega) (by omega)
    obtain ⟨o2, rfl⟩ : ∃ o2 : Int, v8 = .int o2 := by rcases o8 with rfl | rfl <;> exact ⟨_, rfl⟩
    walk_at "rd"
    intro p8 H8 sq1 k8 m8
    rw [cutV_up] at sq1
    have t_ := keep_ts0 k8
    have hT := t_.sqT hT
    have hx := hx.ts t_
    have hB := t_.sqT hB
    have hb := hb.ts t_
    have hs := hs.ts t_
    have R := R.keep0 k8
    have KK := KK.by0 k8
    walk_at "rd"
    intro p9 H9 n9 h9 k9
    have t_ := keep_ts0 k9
    have hT := t_.sqT hT
    have hx := hx.ts t_
    have hB := t_.sqT hB
    have hb := hb.ts t_
    have hs := hs.ts t_
    have sq1 := t_.sqT sq1
    have R := R.keep0 k9
    have KK := KK.by0 k9
    have hw : Rp K H9 (.ref p9) (.tuple [.int (p), .int (o2), .tuple (ss)]) := .tup (SqT.of h9) (.cons (.int _) (.cons (.int _) (.cons (.tup hB hb) .nil)))
    walk_at "rd"
    intro p10 H10 n10 h10 k10
    have t_ := keep_ts0 k10
    have hT := t_.sqT hT
    have hx := hx.ts t_
    have hB := t_.sqT hB
    have hb := hb.ts t_
    have hs := hs.ts t_
    have sq1 := t_.sqT sq1
    have hw := hw.ts t_
    have R := R.keep0 k10
    have KK := KK.by0 k10
    have ho1 : Rp K H10 (.ref p10) (.tuple [.tuple [.int (p), .int (o2), .tuple (ss)]]) := .tup (SqT.of h10) (.cons hw .nil)
    have sq2 : SqT K H10 p10 [.ref p9] := SqT.of h10
    walk_at "rd"
    refine r_catA sq1 sq2 (Nat.le_trans (by simp only [List.length_take, List.length_cons, List.length_nil]; omega : _ ≤ 1000) (by decide)) fun p11 H11 sq3 k11 m11 => ?_
    have t_ := keep_ts0 k11
    have hT := t_.sqT hT
    have hx := hx.ts t_
    have hB := t_.sqT hB
    have hb := hb.ts t_
    have hs := hs.ts t_
    have sq1 := t_.sqT sq1
    have hw := hw.ts t_
    have ho1 := ho1.ts t_
    have sq2 := t_.sqT sq2
    have R := R.keep0 k11
    have KK := KK.by0 k11
    walk_at "rd"
    intro p12 H12 sq4 k12 m12
    rw [show ((at_ : Int) + 1) = ((at_ + 1 : Nat) : Int) by omega, cutV_down] at sq4
    have t_ := keep_ts0 k12
    have hT := t_.sqT hT
    have hx := hx.ts t_
    have hB := t_.sqT hB
    have hb := hb.ts t_
    have hs := hs.ts t_
    have sq1 := t_.sqT sq1
    have hw := hw.ts t_
    have ho1 := ho1.ts t_
    have sq2 := t_.sqT sq2
    have sq3 := t_.sqT sq3
    have R := R.keep0 k12
    have KK := KK.by0 k12
    walk_at "rd"
    refine r_catA sq3 sq4 (Nat.le_trans (by simp only [List.length_append, List.length_take, List.length_drop, List.length_cons, List.length_nil]; omega : _ ≤ 1000) (by decide)) fun p13 H13 sq5 k13 m13 => ?_
    have t_ := keep_ts0 k13
    have hT := t_.sqT hT
    have hx := hx.ts t_
    have hB := t_.sqT hB
    have hb := hb.ts t_
    have hs := hs.ts t_
    have sq1 := t_.sqT sq1
    have hw := hw.ts t_
    have ho1 := ho1.ts t_
    have sq2 := t_.sqT sq2
    have sq3 := t_.sqT sq3
    have sq4 := t_.sqT sq4
    have R := R.keep0 k13
    have KK := KK.by0 k13
    walk_at "rd"
    exact q _ _ _ KK R (.tup sq5 (((hx.take at_).append (.cons hw .nil)).append (hx.drop (at_ + 1)))) (wgs_put wg ⟨_, _, _, rfl, sg, (by omega)⟩) (by simp only [List.length_append, List.length_take, List.length_drop, List.length_cons, List.length_nil]; omega)
  · -- 2
    walk_at "rd"
    intro p6 H6 n6 h6 k6
    have t_ := keep_ts0 k6
    have hT := t_.sqT hT
    have hx := hx.ts t_
    have hB := t_.sqT hB
    have hb := hb.ts t_
    have hs := hs.ts t_
    have R := R.keep0 k6
    have KK := KK.by0 k6
    have h1t : Rp K H6 (.ref p6) (.tuple [.tuple [.str "say", .tuple [.str "num", .int 1]]]) := .tup (SqT.of h6) (.cons hs .nil)
    have sqa : SqT K H6 p6 [.ref p5] := SqT.of h6
    walk_at "rd"
    refine ask ⟨r, 7, rfl, by decide, by decide, R, fun z7 H7 z70 z71 k7 R7 => ?_⟩
    have t_ := R.ts k7
    have hT := t_.sqT hT
    have hx := hx.ts t_
    have hB := t_.sqT hB
    have hb := hb.ts t_
    have hs := hs.ts t_
    have h1t := h1t.ts t_
    have sqa := t_.sqT sqa
    have R := R7
    have KK := KK.trans k7
    obtain ⟨z7, rfl⟩ : ∃ m : Nat, z7 = (m : Int) := ⟨z7.toNat, by omega⟩
    walk_at "rd"
    rw [show (94 : Int) + (z7 : Int) = ((94 + z7 : Nat) : Int) by omega]
    refine r_repG1 sqa (by omega) fun p8 H8 k8 sqb => ?_
    have t_ := keep_ts0 k8
    have hT := t_.sqT hT
    have hx := hx.ts t_
    have hB := t_.sqT hB
    have hb := hb.ts t_
    have hs := hs.ts t_
    have h1t := h1t.ts t_
    have sqa := t_.sqT sqa
    have R := R.keep0 k8
    have KK := KK.by0 k8
    walk_at "rd"
    intro p9 H9 n9 h9 k9
    have t_ := keep_ts0 k9
    have hT := t_.sqT hT
    have hx := hx.ts t_
    have hB := t_.sqT hB
    have hb := hb.ts t_
    have hs := hs.ts t_
    have h1t := h1t.ts t_
    have sqa := t_.sqT sqa
    have sqb := t_.sqT sqb
    have R := R.keep0 k9
    have KK := KK.by0 k9
    have hn0 : Rp K H9 (.ref p9) (.tuple [.str "num", .int 0]) := .tup (SqT.of h9) (.cons (.str _) (.cons (.int _) .nil))
    walk_at "rd"
    intro p10 H10 n10 h10 k10
    have t_ := keep_ts0 k10
    have hT := t_.sqT hT
    have hx := hx.ts t_
    have hB := t_.sqT hB
    have hb := hb.ts t_
    have hs := hs.ts t_
    have h1t := h1t.ts t_
    have sqa := t_.sqT sqa
    have sqb := t_.sqT sqb
    have hn0 := hn0.ts t_
    have R := R.keep0 k10
    have KK := KK.by0 k10
    have sqd : SqT K H10 p10 [.ref p5] := SqT.of h10
    walk_at "rd"
    refine ask ⟨r, 4, rfl, by decide, by decide, R, fun z11 H11 z110 z111 k11 R11 => ?_⟩
    have t_ := R.ts k11
    have hT := t_.sqT hT
    have hx := hx.ts t_
    have hB := t_.sqT hB
    have hb := hb.ts t_
    have hs := hs.ts t_
    have h1t := h1t.ts t_
    have sqa := t_.sqT sqa
    have sqb := t_.sqT sqb
    have hn0 := hn0.ts t_
    have sqd := t_.sqT sqd
    have R := R11
    have KK := KK.trans k11
    obtain ⟨z4, rfl⟩ : ∃ m : Nat, z11 = (m : Int) := ⟨z11.toNat, by omega⟩
    walk_at "rd"
    refine r_repG1 sqd (by omega) fun p12 H12 k12 sqe => ?_
    have t_ := keep_ts0 k12
    have hT := t_.sqT hT
    have hx := hx.ts t_
    have hB := t_.sqT hB
    have hb := hb.ts t_
    have hs := hs.ts t_
    have h1t := h1t.ts t_
    have sqa := t_.sqT sqa
    have sqb := t_.sqT sqb
    have hn0 := hn0.ts t_
    have sqd := t_.sqT sqd
    have R := R.keep0 k12
    have KK := KK.by0 k12
    walk_at "rd"
    intro p13 H13 n13 h13 k13
    have t_ := keep_ts0 k13
    have hT := t_.sqT hT
    have hx := hx.ts t_
    have hB := t_.sqT hB
    have hb := hb.ts t_
    have hs := hs.ts t_
    have h1t := h1t.ts t_
    have sqa := t_.sqT sqa
    have sqb := t_.sqT sqb
    have hn0 := hn0.ts t_
    have sqd := t_.sqT sqd
    have sqe := t_.sqT sqe
    have R := R.keep0 k13
    have KK := KK.by0 k13
    have sqf : SqT K H13 p13 [.ref p5] := SqT.of h13
    walk_at "rd"
    intro p14 H14 n14 h14 k14
    have t_ := keep_ts0 k14
    have hT := t_.sqT hT
    have hx := hx.ts t_
    have hB := t_.sqT hB
    have hb := hb.ts t_
    have hs := hs.ts t_
    have h1t := h1t.ts t_
    have sqa := t_.sqT sqa
    have sqb := t_.sqT sqb
    have hn0 := hn0.ts t_
    have sqd := t_.sqT sqd
    have sqe := t_.sqT sqe
    have sqf := t_.sqT sqf
    have R := R.keep0 k14
    have KK := KK.by0 k14
    have hif : Rp K H14 (.ref p14) (.tuple [.str "if", .tuple [.str "num", .int 0], .tuple (List.replicate z4 (.tuple [.str "say", .tuple [.str "num", .int 1]])), .tuple [.tuple [.str "say", .tuple [.str "num", .int 1]]]]) := .tup (SqT.of h14) (.cons (.str _) (.cons hn0 (.cons (.tup sqe (rps_reps hs)) (.cons (.tup sqf (.cons hs .nil)) .nil))))
    walk_at "rd"
    intro p15 H15 n15 h15 k15
    have t_ := keep_ts0 k15
    have hT := t_.sqT hT
    have hx := hx.ts t_
    have hB := t_.sqT hB
    have hb := hb.ts t_
    have hs := hs.ts t_
    have h1t := h1t.ts t_
    have sqa := t_.sqT sqa
    have sqb := t_.sqT sqb
    have hn0 := hn0.ts t_
    have sqd := t_.sqT sqd
    have sqe := t_.sqT sqe
    have sqf := t_.sqT sqf
    have hif := hif.ts t_
    have R := R.keep0 k15
    have KK := KK.by0 k15
    have sqh : SqT K H15 p15 [.ref p14] := SqT.of h15
    walk_at "rd"
    refine r_catA sqb sqh (Nat.le_trans (by simp only [List.length_replicate, List.length_cons, List.length_nil]; omega : _ ≤ 1000) (by decide)) fun p16 H16 sqi k16 m16 => ?_
    have t_ := keep_ts0 k16
    have hT := t_.sqT hT
    have hx := hx.ts t_
    have hB := t_.sqT hB
    have hb := hb.ts t_
    have hs := hs.ts t_
    have h1t := h1t.ts t_
    have sqa := t_.sqT sqa
    have sqb := t_.sqT sqb
    have hn0 := hn0.ts t_
    have sqd := t_.sqT sqd
    have sqe := t_.sqT sqe
    have sqf := t_.sqT sqf
    have hif := hif.ts t_
    have sqh := t_.sqT sqh
    have R := R.keep0 k16
    have KK := KK.by0 k16
    have sy : Sg (.tuple [.str "say", .tuple [.str "num", .int 1]]) := sg_say (tg_1 tg_int)
    have sg2 : ∀ e ∈ List.replicate (94 + z7) (.tuple [.str "say", .tuple [.str "num", .int 1]]) ++ [.tuple [.str "if", .tuple [.str "num", .int 0], .tuple (List.replicate z4 (.tuple [.str "say", .tuple [.str "num", .int 1]])), .tuple [.tuple [.str "say", .tuple [.str "num", .int 1]]]]], Sg e := fun e he => by
      rcases List.mem_append.mp he with he | he
      · rw [List.eq_of_mem_replicate he]; exact sy
      · rw [List.mem_singleton.mp he]
        exact sg_if (tg_1 tg_int) (fun e he => by rw [List.eq_of_mem_replicate he]; exact sy) (fun e he => by rw [List.mem_singleton.mp he]; exact sy) (by rw [List.length_replicate]; omega) (by simp)
    walk_at "rd"
    intro p17 H17 sq1 k17 m17
    rw [cutV_up] at sq1
    have t_ := keep_ts0 k17
    have hT := t_.sqT hT
    have hx := hx.ts t_
    have hB := t_.sqT hB
    have hb := hb.ts t_
    have hs := hs.ts t_
    have h1t := h1t.ts t_
    have sqa := t_.sqT sqa
    have sqb := t_.sqT sqb
    have hn0 := hn0.ts t_
    have sqd := t_.sqT sqd
    have sqe := t_.sqT sqe
    have sqf := t_.sqT sqf
    have hif := hif.ts t_
    have sqh := t_.sqT sqh
    have sqi := t_.sqT sqi
    have R := R.keep0 k17
    have KK := KK.by0 k17
    walk_at "rd"
    intro p18 H18 n18 h18 k18
    have t_ := keep_ts0 k18
    have hT := t_.sqT hT
    have hx := hx.ts t_
    have hB := t_.sqT hB
    have hb := hb.ts t_
    have hs := hs.ts t_
    have h1t := h1t.ts t_
    have sqa := t_.sqT sqa
    have sqb := t_.sqT sqb
    have hn0 := hn0.ts t_
    have sqd := t_.sqT sqd
    have sqe := t_.sqT sqe
    have sqf := t_.sqT sqf
    have hif := hif.ts t_
    have sqh := t_.sqT sqh
    have sqi := t_.sqT sqi
    have sq1 := t_.sqT sq1
    have R := R.keep0 k18
    have KK := KK.by0 k18
    have hw : Rp K H18 (.ref p18) (.tuple [.int (p), .int (o), .tuple (List.replicate (94 + z7) (.tuple [.str "say", .tuple [.str "num", .int 1]]) ++ [.tuple [.str "if", .tuple [.str "num", .int 0], .tuple (List.replicate z4 (.tuple [.str "say", .tuple [.str "num", .int 1]])), .tuple [.tuple [.str "say", .tuple [.str "num", .int 1]]]]])]) := .tup (SqT.of h18) (.cons (.int _) (.cons (.int _) (.cons (.tup sqi ((rps_reps hs).append (.cons hif .nil))) .nil)))
    walk_at "rd"
    intro p19 H19 n19 h19 k19
    have t_ := keep_ts0 k19
    have hT := t_.sqT hT
    have hx := hx.ts t_
    have hB := t_.sqT hB
    have hb := hb.ts t_
    have hs := hs.ts t_
    have h1t := h1t.ts t_
    have sqa := t_.sqT sqa
    have sqb := t_.sqT sqb
    have hn0 := hn0.ts t_
    have sqd := t_.sqT sqd
    have sqe := t_.sqT sqe
    have sqf := t_.sqT sqf
    have hif := hif.ts t_
    have sqh := t_.sqT sqh
    have sqi := t_.sqT sqi
    have sq1 := t_.sqT sq1
    have hw := hw.ts t_
    have R := R.keep0 k19
    have KK := KK.by0 k19
    have ho1 : Rp K H19 (.ref p19) (.tuple [.tuple [.int (p), .int (o), .tuple (List.replicate (94 + z7) (.tuple [.str "say", .tuple [.str "num", .int 1]]) ++ [.tuple [.str "if", .tuple [.str "num", .int 0], .tuple (List.replicate z4 (.tuple [.str "say", .tuple [.str "num", .int 1]])), .tuple [.tuple [.str "say", .tuple [.str "num", .int 1]]]]])]]) := .tup (SqT.of h19) (.cons hw .nil)
    have sq2 : SqT K H19 p19 [.ref p18] := SqT.of h19
    walk_at "rd"
    refine r_catA sq1 sq2 (Nat.le_trans (by simp only [List.length_take, List.length_cons, List.length_nil]; omega : _ ≤ 1000) (by decide)) fun p20 H20 sq3 k20 m20 => ?_
    have t_ := keep_ts0 k20
    have hT := t_.sqT hT
    have hx := hx.ts t_
    have hB := t_.sqT hB
    have hb := hb.ts t_
    have hs := hs.ts t_
    have h1t := h1t.ts t_
    have sqa := t_.sqT sqa
    have sqb := t_.sqT sqb
    have hn0 := hn0.ts t_
    have sqd := t_.sqT sqd
    have sqe := t_.sqT sqe
    have sqf := t_.sqT sqf
    have hif := hif.ts t_
    have sqh := t_.sqT sqh
    have sqi := t_.sqT sqi
    have sq1 := t_.sqT sq1
    have hw := hw.ts t_
    have ho1 := ho1.ts t_
    have sq2 := t_.sqT sq2
    have R := R.keep0 k20
    have KK := KK.by0 k20
    walk_at "rd"
    intro p21 H21 sq4 k21 m21
    rw [show ((at_ : Int) + 1) = ((at_ + 1 : Nat) : Int) by omega, cutV_down] at sq4
    have t_ := keep_ts0 k21
    have hT := t_.sqT hT
    have hx := hx.ts t_
    have hB := t_.sqT hB
    have hb := hb.ts t_
    have hs := hs.ts t_
    have h1t := h1t.ts t_
    have sqa := t_.sqT sqa
    have sqb := t_.sqT sqb
    have hn0 := hn0.ts t_
    have sqd := t_.sqT sqd
    have sqe := t_.sqT sqe
    have sqf := t_.sqT sqf
    have hif := hif.ts t_
    have sqh := t_.sqT sqh
    have sqi := t_.sqT sqi
    have sq1 := t_.sqT sq1
    have hw := hw.ts t_
    have ho1 := ho1.ts t_
    have sq2 := t_.sqT sq2
    have sq3 := t_.sqT sq3
    have R := R.keep0 k21
    have KK := KK.by0 k21
    walk_at "rd"
    refine r_catA sq3 sq4 (Nat.le_trans (by simp only [List.length_append, List.length_take, List.length_drop, List.length_cons, List.length_nil]; omega : _ ≤ 1000) (by decide)) fun p22 H22 sq5 k22 m22 => ?_
    have t_ := keep_ts0 k22
    have hT := t_.sqT hT
    have hx := hx.ts t_
    have hB := t_.sqT hB
    have hb := hb.ts t_
    have hs := hs.ts t_
    have h1t := h1t.ts t_
    have sqa := t_.sqT sqa
    have sqb := t_.sqT sqb
    have hn0 := hn0.ts t_
    have sqd := t_.sqT sqd
    have sqe := t_.sqT sqe
    have sqf := t_.sqT sqf
    have hif := hif.ts t_
    have sqh := t_.sqT sqh
    have sqi := t_.sqT sqi
    have sq1 := t_.sqT sq1
    have hw := hw.ts t_
    have ho1 := ho1.ts t_
    have sq2 := t_.sqT sq2
    have sq3 := t_.sqT sq3
    have sq4 := t_.sqT sq4
    have R := R.keep0 k22
    have KK := KK.by0 k22
    walk_at "rd"
    exact q _ _ _ KK R (.tup sq5 (((hx.take at_).append (.cons hw .nil)).append (hx.drop (at_ + 1)))) (wgs_put wg ⟨_, _, _, rfl, sg2, (by rw [List.length_append, List.length_replicate]; show 94 + z7 + 1 ≤ 300; omega)⟩) (by simp only [List.length_append, List.length_take, List.length_drop, List.length_cons, List.length_nil]; omega)
  · -- 3
    walk_at "rd"
    intro p6 H6 sqk k6 m6
    rw [cutV_up] at sqk
    have t_ := keep_ts0 k6
    have hT := t_.sqT hT
    have hx := hx.ts t_
    have hB := t_.sqT hB
    have hb := hb.ts t_
    have hs := hs.ts t_
    have R := R.keep0 k6
    have KK := KK.by0 k6
    walk_at "rd"
    refine ask ⟨r, 4, rfl, by decide, by decide, R, fun z7 H7 z70 z71 k7 R7 => ?_⟩
    have t_ := R.ts k7
    have hT := t_.sqT hT
    have hx := hx.ts t_
    have hB := t_.sqT hB
    have hb := hb.ts t_
    have hs := hs.ts t_
    have sqk := t_.sqT sqk
    have R := R7
    have KK := KK.trans k7
    obtain ⟨z4, rfl⟩ : ∃ m : Nat, z7 = (m : Int) := ⟨z7.toNat, by omega⟩
    walk_at "rd"
    rw [show (3 : Int) + (z4 : Int) = ((3 + z4 : Nat) : Int) by omega]
    walk_at "rd"
    refine ask ⟨r, .ref p5, _, 3 + z4, rfl, R, hs, sg_say (tg_1 tg_int), by omega, fun v9 d9 H8 k8 R8 hd9 sg9 => ?_⟩
    have t_ := R.ts k8
    have hT := t_.sqT hT
    have hx := hx.ts t_
    have hB := t_.sqT hB
    have hb := hb.ts t_
    have hs := hs.ts t_
    have sqk := t_.sqT sqk
    have R := R8
    have KK := KK.trans k8
    walk_at "rd"
    intro p9 H9 n9 h9 k9
    have t_ := keep_ts0 k9
    have hT := t_.sqT hT
    have hx := hx.ts t_
    have hB := t_.sqT hB
    have hb := hb.ts t_
    have hs := hs.ts t_
    have sqk := t_.sqT sqk
    have hd9 := hd9.ts t_
    have R := R.keep0 k9
    have KK := KK.by0 k9
    have sqh : SqT K H9 p9 [v9] := SqT.of h9
    walk_at "rd"
    refine r_catA sqk sqh (Nat.le_trans (by simp only [List.length_take, List.length_cons, List.length_nil]; omega : _ ≤ 1000) (by decide)) fun p10 H10 sqi k10 m10 => ?_
    have t_ := keep_ts0 k10
    have hT := t_.sqT hT
    have hx := hx.ts t_
    have hB := t_.sqT hB
    have hb := hb.ts t_
    have hs := hs.ts t_
    have sqk := t_.sqT sqk
    have hd9 := hd9.ts t_
    have sqh := t_.sqT sqh
    have R := R.keep0 k10
    have KK := KK.by0 k10
    have sg2 : ∀ e ∈ ss.take kk ++ [d9], Sg e := fun e he => by
      rcases List.mem_append.mp he with he | he
      · exact sg e (List.mem_of_mem_take he)
      · rw [List.mem_singleton.mp he]; exact sg9
    walk_at "rd"
    intro p11 H11 sq1 k11 m11
    rw [cutV_up] at sq1
    have t_ := keep_ts0 k11
    have hT := t_.sqT hT
    have hx := hx.ts t_
    have hB := t_.sqT hB
    have hb := hb.ts t_
    have hs := hs.ts t_
    have sqk := t_.sqT sqk
    have hd9 := hd9.ts t_
    have sqh := t_.sqT sqh
    have sqi := t_.sqT sqi
    have R := R.keep0 k11
    have KK := KK.by0 k11
    walk_at "rd"
    intro p12 H12 n12 h12 k12
    have t_ := keep_ts0 k12
    have hT := t_.sqT hT
    have hx := hx.ts t_
    have hB := t_.sqT hB
    have hb := hb.ts t_
    have hs := hs.ts t_
    have sqk := t_.sqT sqk
    have hd9 := hd9.ts t_
    have sqh := t_.sqT sqh
    have sqi := t_.sqT sqi
    have sq1 := t_.sqT sq1
    have R := R.keep0 k12
    have KK := KK.by0 k12
    have hw : Rp K H12 (.ref p12) (.tuple [.int (p), .int (o), .tuple (ss.take kk ++ [d9])]) := .tup (SqT.of h12) (.cons (.int _) (.cons (.int _) (.cons (.tup sqi ((hb.take kk).append (.cons hd9 .nil))) .nil)))
    walk_at "rd"
    intro p13 H13 n13 h13 k13
    have t_ := keep_ts0 k13
    have hT := t_.sqT hT
    have hx := hx.ts t_
    have hB := t_.sqT hB
    have hb := hb.ts t_
    have hs := hs.ts t_
    have sqk := t_.sqT sqk
    have hd9 := hd9.ts t_
    have sqh := t_.sqT sqh
    have sqi := t_.sqT sqi
    have sq1 := t_.sqT sq1
    have hw := hw.ts t_
    have R := R.keep0 k13
    have KK := KK.by0 k13
    have ho1 : Rp K H13 (.ref p13) (.tuple [.tuple [.int (p), .int (o), .tuple (ss.take kk ++ [d9])]]) := .tup (SqT.of h13) (.cons hw .nil)
    have sq2 : SqT K H13 p13 [.ref p12] := SqT.of h13
    walk_at "rd"
    refine r_catA sq1 sq2 (Nat.le_trans (by simp only [List.length_take, List.length_cons, List.length_nil]; omega : _ ≤ 1000) (by decide)) fun p14 H14 sq3 k14 m14 => ?_
    have t_ := keep_ts0 k14
    have hT := t_.sqT hT
    have hx := hx.ts t_
    have hB := t_.sqT hB
    have hb := hb.ts t_
    have hs := hs.ts t_
    have sqk := t_.sqT sqk
    have hd9 := hd9.ts t_
    have sqh := t_.sqT sqh
    have sqi := t_.sqT sqi
    have sq1 := t_.sqT sq1
    have hw := hw.ts t_
    have ho1 := ho1.ts t_
    have sq2 := t_.sqT sq2
    have R := R.keep0 k14
    have KK := KK.by0 k14
    walk_at "rd"
    intro p15 H15 sq4 k15 m15
    rw [show ((at_ : Int) + 1) = ((at_ + 1 : Nat) : Int) by omega, cutV_down] at sq4
    have t_ := keep_ts0 k15
    have hT := t_.sqT hT
    have hx := hx.ts t_
    have hB := t_.sqT hB
    have hb := hb.ts t_
    have hs := hs.ts t_
    have sqk := t_.sqT sqk
    have hd9 := hd9.ts t_
    have sqh := t_.sqT sqh
    have sqi := t_.sqT sqi
    have sq1 := t_.sqT sq1
    have hw := hw.ts t_
    have ho1 := ho1.ts t_
    have sq2 := t_.sqT sq2
    have sq3 := t_.sqT sq3
    have R := R.keep0 k15
    have KK := KK.by0 k15
    walk_at "rd"
    refine r_catA sq3 sq4 (Nat.le_trans (by simp only [List.length_append, List.length_take, List.length_drop, List.length_cons, List.length_nil]; omega : _ ≤ 1000) (by decide)) fun p16 H16 sq5 k16 m16 => ?_
    have t_ := keep_ts0 k16
    have hT := t_.sqT hT
    have hx := hx.ts t_
    have hB := t_.sqT hB
    have hb := hb.ts t_
    have hs := hs.ts t_
    have sqk := t_.sqT sqk
    have hd9 := hd9.ts t_
    have sqh := t_.sqT sqh
    have sqi := t_.sqT sqi
    have sq1 := t_.sqT sq1
    have hw := hw.ts t_
    have ho1 := ho1.ts t_
    have sq2 := t_.sqT sq2
    have sq3 := t_.sqT sq3
    have sq4 := t_.sqT sq4
    have R := R.keep0 k16
    have KK := KK.by0 k16
    walk_at "rd"
    exact q _ _ _ KK R (.tup sq5 (((hx.take at_).append (.cons hw .nil)).append (hx.drop (at_ + 1)))) (wgs_put wg ⟨_, _, _, rfl, sg2, (by rw [List.length_append, List.length_take]; show min kk ss.length + 1 ≤ 300; omega)⟩) (by simp only [List.length_append, List.length_take, List.length_drop, List.length_cons, List.length_nil]; omega)
  · -- 4
    walk_at "rd"
    intro p6 H6 sqk k6 m6
    rw [cutV_up] at sqk
    have t_ := keep_ts0 k6
    have hT := t_.sqT hT
    have hx := hx.ts t_
    have hB := t_.sqT hB
    have hb := hb.ts t_
    have hs := hs.ts t_
    have R := R.keep0 k6
    have KK := KK.by0 k6
    walk_at "rd"
    intro p7 H7 n7 h7 k7
    have t_ := keep_ts0 k7
    have hT := t_.sqT hT
    have hx := hx.ts t_
    have hB := t_.sqT hB
    have hb := hb.ts t_
    have hs := hs.ts t_
    have sqk := t_.sqT sqk
    have R := R.keep0 k7
    have KK := KK.by0 k7
    have hn1 : Rp K H7 (.ref p7) (.tuple [.str "num", .int 1]) := .tup (SqT.of h7) (.cons (.str _) (.cons (.int _) .nil))
    walk_at "rd"
    refine ask ⟨r, 4, rfl, by decide, by decide, R, fun z8 H8 z80 z81 k8 R8 => ?_⟩
    have t_ := R.ts k8
    have hT := t_.sqT hT
    have hx := hx.ts t_
    have hB := t_.sqT hB
    have hb := hb.ts t_
    have hs := hs.ts t_
    have sqk := t_.sqT sqk
    have hn1 := hn1.ts t_
    have R := R8
    have KK := KK.trans k8
    obtain ⟨z4, rfl⟩ : ∃ m : Nat, z8 = (m : Int) := ⟨z8.toNat, by omega⟩
    walk_at "rd"
    rw [show (3 : Int) + (z4 : Int) = ((3 + z4 : Nat) : Int) by omega]
    walk_at "rd"
    refine ask ⟨r, .ref p7, _, 3 + z4, rfl, R, hn1, tg_1 tg_int, by omega, fun v9 d9 H9 k9 R9 hd9 sg9 => ?_⟩
    have t_ := R.ts k9
    have hT := t_.sqT hT
    have hx := hx.ts t_
    have hB := t_.sqT hB
    have hb := hb.ts t_
    have hs := hs.ts t_
    have sqk := t_.sqT sqk
    have hn1 := hn1.ts t_
    have R := R9
    have KK := KK.trans k9
    walk_at "rd"
    intro p10 H10 n10 h10 k10
    have t_ := keep_ts0 k10
    have hT := t_.sqT hT
    have hx := hx.ts t_
    have hB := t_.sqT hB
    have hb := hb.ts t_
    have hs := hs.ts t_
    have sqk := t_.sqT sqk
    have hn1 := hn1.ts t_
    have hd9 := hd9.ts t_
    have R := R.keep0 k10
    have KK := KK.by0 k10
    have hsy : Rp K H10 (.ref p10) (.tuple [.str "say", d9]) := .tup (SqT.of h10) (.cons (.str _) (.cons hd9 .nil))
    walk_at "rd"
    intro p11 H11 n11 h11 k11
    have t_ := keep_ts0 k11
    have hT := t_.sqT hT
    have hx := hx.ts t_
    have hB := t_.sqT hB
    have hb := hb.ts t_
    have hs := hs.ts t_
    have sqk := t_.sqT sqk
    have hn1 := hn1.ts t_
    have hd9 := hd9.ts t_
    have hsy := hsy.ts t_
    have R := R.keep0 k11
    have KK := KK.by0 k11
    have sqh : SqT K H11 p11 [.ref p10] := SqT.of h11
    walk_at "rd"
    refine r_catA sqk sqh (Nat.le_trans (by simp only [List.length_take, List.length_cons, List.length_nil]; omega : _ ≤ 1000) (by decide)) fun p12 H12 sqi k12 m12 => ?_
    have t_ := keep_ts0 k12
    have hT := t_.sqT hT
    have hx := hx.ts t_
    have hB := t_.sqT hB
    have hb := hb.ts t_
    have hs := hs.ts t_
    have sqk := t_.sqT sqk
    have hn1 := hn1.ts t_
    have hd9 := hd9.ts t_
    have hsy := hsy.ts t_
    have sqh := t_.sqT sqh
    have R := R.keep0 k12
    have KK := KK.by0 k12
    have sg2 : ∀ e ∈ ss.take kk ++ [.tuple [.str "say", d9]], Sg e := fun e he => by
      rcases List.mem_append.mp he with he | he
      · exact sg e (List.mem_of_mem_take he)
      · rw [List.mem_singleton.mp he]; exact sg_say sg9
    walk_at "rd"
    intro p13 H13 sq1 k13 m13
    rw [cutV_up] at sq1
    have t_ := keep_ts0 k13
    have hT := t_.sqT hT
    have hx := hx.ts t_
    have hB := t_.sqT hB
    have hb := hb.ts t_
    have hs := hs.ts t_
    have sqk := t_.sqT sqk
    have hn1 := hn1.ts t_
    have hd9 := hd9.ts t_
    have hsy := hsy.ts t_
    have sqh := t_.sqT sqh
    have sqi := t_.sqT sqi
    have R := R.keep0 k13
    have KK := KK.by0 k13
    walk_at "rd"
    intro p14 H14 n14 h14 k14
    have t_ := keep_ts0 k14
    have hT := t_.sqT hT
    have hx := hx.ts t_
    have hB := t_.sqT hB
    have hb := hb.ts t_
    have hs := hs.ts t_
    have sqk := t_.sqT sqk
    have hn1 := hn1.ts t_
    have hd9 := hd9.ts t_
    have hsy := hsy.ts t_
    have sqh := t_.sqT sqh
    have sqi := t_.sqT sqi
    have sq1 := t_.sqT sq1
    have R := R.keep0 k14
    have KK := KK.by0 k14
    have hw : Rp K H14 (.ref p14) (.tuple [.int (p), .int (o), .tuple (ss.take kk ++ [.tuple [.str "say", d9]])]) := .tup (SqT.of h14) (.cons (.int _) (.cons (.int _) (.cons (.tup sqi ((hb.take kk).append (.cons hsy .nil))) .nil)))
    walk_at "rd"
    intro p15 H15 n15 h15 k15
    have t_ := keep_ts0 k15
    have hT := t_.sqT hT
    have hx := hx.ts t_
    have hB := t_.sqT hB
    have hb := hb.ts t_
    have hs := hs.ts t_
    have sqk := t_.sqT sqk
    have hn1 := hn1.ts t_
    have hd9 := hd9.ts t_
    have hsy := hsy.ts t_
    have sqh := t_.sqT sqh
    have sqi := t_.sqT sqi
    have sq1 := t_.sqT sq1
    have hw := hw.ts t_
    have R := R.keep0 k15
    have KK := KK.by0 k15
    have ho1 : Rp K H15 (.ref p15) (.tuple [.tuple [.int (p), .int (o), .tuple (ss.take kk ++ [.tuple [.str "say", d9]])]]) := .tup (SqT.of h15) (.cons hw .nil)
    have sq2 : SqT K H15 p15 [.ref p14] := SqT.of h15
    walk_at "rd"
    refine r_catA sq1 sq2 (Nat.le_trans (by simp only [List.length_take, List.length_cons, List.length_nil]; omega : _ ≤ 1000) (by decide)) fun p16 H16 sq3 k16 m16 => ?_
    have t_ := keep_ts0 k16
    have hT := t_.sqT hT
    have hx := hx.ts t_
    have hB := t_.sqT hB
    have hb := hb.ts t_
    have hs := hs.ts t_
    have sqk := t_.sqT sqk
    have hn1 := hn1.ts t_
    have hd9 := hd9.ts t_
    have hsy := hsy.ts t_
    have sqh := t_.sqT sqh
    have sqi := t_.sqT sqi
    have sq1 := t_.sqT sq1
    have hw := hw.ts t_
    have ho1 := ho1.ts t_
    have sq2 := t_.sqT sq2
    have R := R.keep0 k16
    have KK := KK.by0 k16
    walk_at "rd"
    intro p17 H17 sq4 k17 m17
    rw [show ((at_ : Int) + 1) = ((at_ + 1 : Nat) : Int) by omega, cutV_down] at sq4
    have t_ := keep_ts0 k17
    have hT := t_.sqT hT
    have hx := hx.ts t_
    have hB := t_.sqT hB
    have hb := hb.ts t_
    have hs := hs.ts t_
    have sqk := t_.sqT sqk
    have hn1 := hn1.ts t_
    have hd9 := hd9.ts t_
    have hsy := hsy.ts t_
    have sqh := t_.sqT sqh
    have sqi := t_.sqT sqi
    have sq1 := t_.sqT sq1
    have hw := hw.ts t_
    have ho1 := ho1.ts t_
    have sq2 := t_.sqT sq2
    have sq3 := t_.sqT sq3
    have R := R.keep0 k17
    have KK := KK.by0 k17
    walk_at "rd"
    refine r_catA sq3 sq4 (Nat.le_trans (by simp only [List.length_append, List.length_take, List.length_drop, List.length_cons, List.length_nil]; omega : _ ≤ 1000) (by decide)) fun p18 H18 sq5 k18 m18 => ?_
    have t_ := keep_ts0 k18
    have hT := t_.sqT hT
    have hx := hx.ts t_
    have hB := t_.sqT hB
    have hb := hb.ts t_
    have hs := hs.ts t_
    have sqk := t_.sqT sqk
    have hn1 := hn1.ts t_
    have hd9 := hd9.ts t_
    have hsy := hsy.ts t_
    have sqh := t_.sqT sqh
    have sqi := t_.sqT sqi
    have sq1 := t_.sqT sq1
    have hw := hw.ts t_
    have ho1 := ho1.ts t_
    have sq2 := t_.sqT sq2
    have sq3 := t_.sqT sq3
    have sq4 := t_.sqT sq4
    have R := R.keep0 k18
    have KK := KK.by0 k18
    walk_at "rd"
    exact q _ _ _ KK R (.tup sq5 (((hx.take at_).append (.cons hw .nil)).append (hx.drop (at_ + 1)))) (wgs_put wg ⟨_, _, _, rfl, sg2, (by rw [List.length_append, List.length_take]; show min kk ss.length + 1 ≤ 300; omega)⟩) (by simp only [List.length_append, List.length_take, List.length_drop, List.length_cons, List.length_nil]; omega)
  · -- 5
    walk_at "rd"
    intro p6 H6 n6 h6 k6
    have t_ := keep_ts0 k6
    have hT := t_.sqT hT
    have hx := hx.ts t_
    have hB := t_.sqT hB
    have hb := hb.ts t_
    have hs := hs.ts t_
    have R := R.keep0 k6
    have KK := KK.by0 k6
    have hw : Rp K H6 (.ref p6) (.tuple [.int 1, .int o, .tuple ss]) := .tup (SqT.of h6) (.cons (.int _) (.cons (.int _) (.cons (.tup hB hb) .nil)))
    walk_at "rd"
    intro p7 H7 n7 h7 k7
    have t_ := keep_ts0 k7
    have hT := t_.sqT hT
    have hx := hx.ts t_
    have hB := t_.sqT hB
    have hb := hb.ts t_
    have hs := hs.ts t_
    have hw := hw.ts t_
    have R := R.keep0 k7
    have KK := KK.by0 k7
    have sq2 : SqT K H7 p7 [.ref p6] := SqT.of h7
    walk_at "rd"
    intro p8 H8 sq4 k8 m8
    rw [show (1 : Int) = ((1 : Nat) : Int) from rfl, cutV_down] at sq4
    have t_ := keep_ts0 k8
    have hT := t_.sqT hT
    have hx := hx.ts t_
    have hB := t_.sqT hB
    have hb := hb.ts t_
    have hs := hs.ts t_
    have hw := hw.ts t_
    have sq2 := t_.sqT sq2
    have R := R.keep0 k8
    have KK := KK.by0 k8
    walk_at "rd"
    refine r_catA sq2 sq4 (Nat.le_trans (by simp only [List.length_drop, List.length_cons, List.length_nil]; omega : _ ≤ 1000) (by decide)) fun p9 H9 sq5 k9 m9 => ?_
    have t_ := keep_ts0 k9
    have hT := t_.sqT hT
    have hx := hx.ts t_
    have hB := t_.sqT hB
    have hb := hb.ts t_
    have hs := hs.ts t_
    have hw := hw.ts t_
    have sq2 := t_.sqT sq2
    have sq4 := t_.sqT sq4
    have R := R.keep0 k9
    have KK := KK.by0 k9
    walk_at "rd"
    exact q _ ([.tuple [.int 1, .int o, .tuple ss]] ++ ws.drop 1) _ KK R (.tup sq5 (Rps.append (.cons hw .nil) (hx.drop 1))) (fun x hx' => by
      rcases List.mem_append.mp hx' with z | z
      · rw [List.mem_singleton.mp z]; exact ⟨_, _, _, rfl, sg, by omega⟩
      · exact wg x (List.mem_of_mem_drop z)) (by simp only [List.length_append, List.length_drop, List.length_cons, List.length_nil]; omega)
  · -- 6
    walk_at "rd"
    intro p6 H6 sqk k6 m6
    rw [cutV_up] at sqk
    have t_ := keep_ts0 k6
    have hT := t_.sqT hT
    have hx := hx.ts t_
    have hB := t_.sqT hB
    have hb := hb.ts t_
    have hs := hs.ts t_
    have R := R.keep0 k6
    have KK := KK.by0 k6
    walk_at "rd"
    refine ask ⟨r, rfl, R, fun v8 d8 H7 k7 R7 hd8 sg8 => ?_⟩
    have t_ := R.ts k7
    have hT := t_.sqT hT
    have hx := hx.ts t_
    have hB := t_.sqT hB
    have hb := hb.ts t_
    have hs := hs.ts t_
    have sqk := t_.sqT sqk
    have R := R7
    have KK := KK.trans k7
    walk_at "rd"
    refine ask ⟨r, 3, rfl, by decide, by decide, R, fun z8 H8 z80 z81 k8 R8 => ?_⟩
    have t_ := R.ts k8
    have hT := t_.sqT hT
    have hx := hx.ts t_
    have hB := t_.sqT hB
    have hb := hb.ts t_
    have hs := hs.ts t_
    have sqk := t_.sqT sqk
    have hd8 := hd8.ts t_
    have R := R8
    have KK := KK.trans k8
    obtain ⟨z3b, rfl⟩ : ∃ m : Nat, z8 = (m : Int) := ⟨z8.toNat, by omega⟩
    walk_at "rd"
    refine ask ⟨r, v8, d8, z3b, rfl, R, hd8, sg8, by omega, fun v9 d9 H9 k9 R9 hd9 sg9 => ?_⟩
    have t_ := R.ts k9
    have hT := t_.sqT hT
    have hx := hx.ts t_
    have hB := t_.sqT hB
    have hb := hb.ts t_
    have hs := hs.ts t_
    have sqk := t_.sqT sqk
    have hd8 := hd8.ts t_
    have R := R9
    have KK := KK.trans k9
    walk_at "rd"
    intro p10 H10 n10 h10 k10
    have t_ := keep_ts0 k10
    have hT := t_.sqT hT
    have hx := hx.ts t_
    have hB := t_.sqT hB
    have hb := hb.ts t_
    have hs := hs.ts t_
    have sqk := t_.sqT sqk
    have hd8 := hd8.ts t_
    have hd9 := hd9.ts t_
    have R := R.keep0 k10
    have KK := KK.by0 k10
    have sqh : SqT K H10 p10 [v9] := SqT.of h10
    walk_at "rd"
    refine r_catA sqk sqh (Nat.le_trans (by simp only [List.length_take, List.length_cons, List.length_nil]; omega : _ ≤ 1000) (by decide)) fun p11 H11 sqi k11 m11 => ?_
    have t_ := keep_ts0 k11
    have hT := t_.sqT hT
    have hx := hx.ts t_
    have hB := t_.sqT hB
    have hb := hb.ts t_
    have hs := hs.ts t_
    have sqk := t_.sqT sqk
    have hd8 := hd8.ts t_
    have hd9 := hd9.ts t_
    have sqh := t_.sqT sqh
    have R := R.keep0 k11
    have KK := KK.by0 k11
    walk_at "rd"
    intro p12 H12 sqj k12 m12
    rw [cutV_down] at sqj
    have t_ := keep_ts0 k12
    have hT := t_.sqT hT
    have hx := hx.ts t_
    have hB := t_.sqT hB
    have hb := hb.ts t_
    have hs := hs.ts t_
    have sqk := t_.sqT sqk
    have hd8 := hd8.ts t_
    have hd9 := hd9.ts t_
    have sqh := t_.sqT sqh
    have sqi := t_.sqT sqi
    have R := R.keep0 k12
    have KK := KK.by0 k12
    walk_at "rd"
    refine r_catA sqi sqj (Nat.le_trans (by simp only [List.length_append, List.length_take, List.length_drop, List.length_cons, List.length_nil]; omega : _ ≤ 1000) (by decide)) fun p13 H13 sqm k13 m13 => ?_
    have t_ := keep_ts0 k13
    have hT := t_.sqT hT
    have hx := hx.ts t_
    have hB := t_.sqT hB
    have hb := hb.ts t_
    have hs := hs.ts t_
    have sqk := t_.sqT sqk
    have hd8 := hd8.ts t_
    have hd9 := hd9.ts t_
    have sqh := t_.sqT sqh
    have sqi := t_.sqT sqi
    have sqj := t_.sqT sqj
    have R := R.keep0 k13
    have KK := KK.by0 k13
    have sg2 : ∀ e ∈ ss.take kk ++ [d9] ++ ss.drop kk, Sg e := fun e he => by
      rcases List.mem_append.mp he with he | he
      · rcases List.mem_append.mp he with he | he
        · exact sg e (List.mem_of_mem_take he)
        · rw [List.mem_singleton.mp he]; exact sg9
      · exact sg e (List.mem_of_mem_drop he)
    walk_at "rd"
    intro p14 H14 sq1 k14 m14
    rw [cutV_up] at sq1
    have t_ := keep_ts0 k14
    have hT := t_.sqT hT
    have hx := hx.ts t_
    have hB := t_.sqT hB
    have hb := hb.ts t_
    have hs := hs.ts t_
    have sqk := t_.sqT sqk
    have hd8 := hd8.ts t_
    have hd9 := hd9.ts t_
    have sqh := t_.sqT sqh
    have sqi := t_.sqT sqi
    have sqj := t_.sqT sqj
    have sqm := t_.sqT sqm
    have R := R.keep0 k14
    have KK := KK.by0 k14
    walk_at "rd"
    intro p15 H15 n15 h15 k15
    have t_ := keep_ts0 k15
    have hT := t_.sqT hT
    have hx := hx.ts t_
    have hB := t_.sqT hB
    have hb := hb.ts t_
    have hs := hs.ts t_
    have sqk := t_.sqT sqk
    have hd8 := hd8.ts t_
    have hd9 := hd9.ts t_
    have sqh := t_.sqT sqh
    have sqi := t_.sqT sqi
    have sqj := t_.sqT sqj
    have sqm := t_.sqT sqm
    have sq1 := t_.sqT sq1
    have R := R.keep0 k15
    have KK := KK.by0 k15
    have hw : Rp K H15 (.ref p15) (.tuple [.int (p), .int (o), .tuple (ss.take kk ++ [d9] ++ ss.drop kk)]) := .tup (SqT.of h15) (.cons (.int _) (.cons (.int _) (.cons (.tup sqm (((hb.take kk).append (.cons hd9 .nil)).append (hb.drop kk))) .nil)))
    walk_at "rd"
    intro p16 H16 n16 h16 k16
    have t_ := keep_ts0 k16
    have hT := t_.sqT hT
    have hx := hx.ts t_
    have hB := t_.sqT hB
    have hb := hb.ts t_
    have hs := hs.ts t_
    have sqk := t_.sqT sqk
    have hd8 := hd8.ts t_
    have hd9 := hd9.ts t_
    have sqh := t_.sqT sqh
    have sqi := t_.sqT sqi
    have sqj := t_.sqT sqj
    have sqm := t_.sqT sqm
    have sq1 := t_.sqT sq1
    have hw := hw.ts t_
    have R := R.keep0 k16
    have KK := KK.by0 k16
    have ho1 : Rp K H16 (.ref p16) (.tuple [.tuple [.int (p), .int (o), .tuple (ss.take kk ++ [d9] ++ ss.drop kk)]]) := .tup (SqT.of h16) (.cons hw .nil)
    have sq2 : SqT K H16 p16 [.ref p15] := SqT.of h16
    walk_at "rd"
    refine r_catA sq1 sq2 (Nat.le_trans (by simp only [List.length_take, List.length_cons, List.length_nil]; omega : _ ≤ 1000) (by decide)) fun p17 H17 sq3 k17 m17 => ?_
    have t_ := keep_ts0 k17
    have hT := t_.sqT hT
    have hx := hx.ts t_
    have hB := t_.sqT hB
    have hb := hb.ts t_
    have hs := hs.ts t_
    have sqk := t_.sqT sqk
    have hd8 := hd8.ts t_
    have hd9 := hd9.ts t_
    have sqh := t_.sqT sqh
    have sqi := t_.sqT sqi
    have sqj := t_.sqT sqj
    have sqm := t_.sqT sqm
    have sq1 := t_.sqT sq1
    have hw := hw.ts t_
    have ho1 := ho1.ts t_
    have sq2 := t_.sqT sq2
    have R := R.keep0 k17
    have KK := KK.by0 k17
    walk_at "rd"
    intro p18 H18 sq4 k18 m18
    rw [show ((at_ : Int) + 1) = ((at_ + 1 : Nat) : Int) by omega, cutV_down] at sq4
    have t_ := keep_ts0 k18
    have hT := t_.sqT hT
    have hx := hx.ts t_
    have hB := t_.sqT hB
    have hb := hb.ts t_
    have hs := hs.ts t_
    have sqk := t_.sqT sqk
    have hd8 := hd8.ts t_
    have hd9 := hd9.ts t_
    have sqh := t_.sqT sqh
    have sqi := t_.sqT sqi
    have sqj := t_.sqT sqj
    have sqm := t_.sqT sqm
    have sq1 := t_.sqT sq1
    have hw := hw.ts t_
    have ho1 := ho1.ts t_
    have sq2 := t_.sqT sq2
    have sq3 := t_.sqT sq3
    have R := R.keep0 k18
    have KK := KK.by0 k18
    walk_at "rd"
    refine r_catA sq3 sq4 (Nat.le_trans (by simp only [List.length_append, List.length_take, List.length_drop, List.length_cons, List.length_nil]; omega : _ ≤ 1000) (by decide)) fun p19 H19 sq5 k19 m19 => ?_
    have t_ := keep_ts0 k19
    have hT := t_.sqT hT
    have hx := hx.ts t_
    have hB := t_.sqT hB
    have hb := hb.ts t_
    have hs := hs.ts t_
    have sqk := t_.sqT sqk
    have hd8 := hd8.ts t_
    have hd9 := hd9.ts t_
    have sqh := t_.sqT sqh
    have sqi := t_.sqT sqi
    have sqj := t_.sqT sqj
    have sqm := t_.sqT sqm
    have sq1 := t_.sqT sq1
    have hw := hw.ts t_
    have ho1 := ho1.ts t_
    have sq2 := t_.sqT sq2
    have sq3 := t_.sqT sq3
    have sq4 := t_.sqT sq4
    have R := R.keep0 k19
    have KK := KK.by0 k19
    walk_at "rd"
    exact q _ _ _ KK R (.tup sq5 (((hx.take at_).append (.cons hw .nil)).append (hx.drop (at_ + 1)))) (wgs_put wg ⟨_, _, _, rfl, sg2, (by simp only [List.length_append, List.length_take, List.length_drop, List.length_cons, List.length_nil]; omega)⟩) (by simp only [List.length_append, List.length_take, List.length_drop, List.length_cons, List.length_nil]; omega)
  · -- 7
    walk_at "rd"
    intro p6 H6 sqk k6 m6
    rw [cutV_up] at sqk
    have t_ := keep_ts0 k6
    have hT := t_.sqT hT
    have hx := hx.ts t_
    have hB := t_.sqT hB
    have hb := hb.ts t_
    have hs := hs.ts t_
    have R := R.keep0 k6
    have KK := KK.by0 k6
    walk_at "rd"
    refine ask ⟨r, rfl, R, fun v8 d8 H7 k7 R7 hd8 sg8 => ?_⟩
    have t_ := R.ts k7
    have hT := t_.sqT hT
    have hx := hx.ts t_
    have hB := t_.sqT hB
    have hb := hb.ts t_
    have hs := hs.ts t_
    have sqk := t_.sqT sqk
    have R := R7
    have KK := KK.trans k7
    walk_at "rd"
    refine ask ⟨r, 3, rfl, by decide, by decide, R, fun z8 H8 z80 z81 k8 R8 => ?_⟩
    have t_ := R.ts k8
    have hT := t_.sqT hT
    have hx := hx.ts t_
    have hB := t_.sqT hB
    have hb := hb.ts t_
    have hs := hs.ts t_
    have sqk := t_.sqT sqk
    have hd8 := hd8.ts t_
    have R := R8
    have KK := KK.trans k8
    obtain ⟨z3b, rfl⟩ : ∃ m : Nat, z8 = (m : Int) := ⟨z8.toNat, by omega⟩
    walk_at "rd"
    refine ask ⟨r, v8, d8, z3b, rfl, R, hd8, sg8, by omega, fun v9 d9 H9 k9 R9 hd9 sg9 => ?_⟩
    have t_ := R.ts k9
    have hT := t_.sqT hT
    have hx := hx.ts t_
    have hB := t_.sqT hB
    have hb := hb.ts t_
    have hs := hs.ts t_
    have sqk := t_.sqT sqk
    have hd8 := hd8.ts t_
    have R := R9
    have KK := KK.trans k9
    walk_at "rd"
    intro p10 H10 n10 h10 k10
    have t_ := keep_ts0 k10
    have hT := t_.sqT hT
    have hx := hx.ts t_
    have hB := t_.sqT hB
    have hb := hb.ts t_
    have hs := hs.ts t_
    have sqk := t_.sqT sqk
    have hd8 := hd8.ts t_
    have hd9 := hd9.ts t_
    have R := R.keep0 k10
    have KK := KK.by0 k10
    have sqh : SqT K H10 p10 [v9] := SqT.of h10
    walk_at "rd"
    refine r_catA sqk sqh (Nat.le_trans (by simp only [List.length_take, List.length_cons, List.length_nil]; omega : _ ≤ 1000) (by decide)) fun p11 H11 sqi k11 m11 => ?_
    have t_ := keep_ts0 k11
    have hT := t_.sqT hT
    have hx := hx.ts t_
    have hB := t_.sqT hB
    have hb := hb.ts t_
    have hs := hs.ts t_
    have sqk := t_.sqT sqk
    have hd8 := hd8.ts t_
    have hd9 := hd9.ts t_
    have sqh := t_.sqT sqh
    have R := R.keep0 k11
    have KK := KK.by0 k11
    walk_at "rd"
    intro p12 H12 sqj k12 m12
    rw [cutV_down] at sqj
    have t_ := keep_ts0 k12
    have hT := t_.sqT hT
    have hx := hx.ts t_
    have hB := t_.sqT hB
    have hb := hb.ts t_
    have hs := hs.ts t_
    have sqk := t_.sqT sqk
    have hd8 := hd8.ts t_
    have hd9 := hd9.ts t_
    have sqh := t_.sqT sqh
    have sqi := t_.sqT sqi
    have R := R.keep0 k12
    have KK := KK.by0 k12
    walk_at "rd"
    refine r_catA sqi sqj (Nat.le_trans (by simp only [List.length_append, List.length_take, List.length_drop, List.length_cons, List.length_nil]; omega : _ ≤ 1000) (by decide)) fun p13 H13 sqm k13 m13 => ?_
    have t_ := keep_ts0 k13
    have hT := t_.sqT hT
    have hx := hx.ts t_
    have hB := t_.sqT hB
    have hb := hb.ts t_
    have hs := hs.ts t_
    have sqk := t_.sqT sqk
    have hd8 := hd8.ts t_
    have hd9 := hd9.ts t_
    have sqh := t_.sqT sqh
    have sqi := t_.sqT sqi
    have sqj := t_.sqT sqj
    have R := R.keep0 k13
    have KK := KK.by0 k13
    have sg2 : ∀ e ∈ ss.take kk ++ [d9] ++ ss.drop kk, Sg e := fun e he => by
      rcases List.mem_append.mp he with he | he
      · rcases List.mem_append.mp he with he | he
        · exact sg e (List.mem_of_mem_take he)
        · rw [List.mem_singleton.mp he]; exact sg9
      · exact sg e (List.mem_of_mem_drop he)
    walk_at "rd"
    intro p14 H14 sq1 k14 m14
    rw [cutV_up] at sq1
    have t_ := keep_ts0 k14
    have hT := t_.sqT hT
    have hx := hx.ts t_
    have hB := t_.sqT hB
    have hb := hb.ts t_
    have hs := hs.ts t_
    have sqk := t_.sqT sqk
    have hd8 := hd8.ts t_
    have hd9 := hd9.ts t_
    have sqh := t_.sqT sqh
    have sqi := t_.sqT sqi
    have sqj := t_.sqT sqj
    have sqm := t_.sqT sqm
    have R := R.keep0 k14
    have KK := KK.by0 k14
    walk_at "rd"
    intro p15 H15 n15 h15 k15
    have t_ := keep_ts0 k15
    have hT := t_.sqT hT
    have hx := hx.ts t_
    have hB := t_.sqT hB
    have hb := hb.ts t_
    have hs := hs.ts t_
    have sqk := t_.sqT sqk
    have hd8 := hd8.ts t_
    have hd9 := hd9.ts t_
    have sqh := t_.sqT sqh
    have sqi := t_.sqT sqi
    have sqj := t_.sqT sqj
    have sqm := t_.sqT sqm
    have sq1 := t_.sqT sq1
    have R := R.keep0 k15
    have KK := KK.by0 k15
    have hw : Rp K H15 (.ref p15) (.tuple [.int (p), .int (o), .tuple (ss.take kk ++ [d9] ++ ss.drop kk)]) := .tup (SqT.of h15) (.cons (.int _) (.cons (.int _) (.cons (.tup sqm (((hb.take kk).append (.cons hd9 .nil)).append (hb.drop kk))) .nil)))
    walk_at "rd"
    intro p16 H16 n16 h16 k16
    have t_ := keep_ts0 k16
    have hT := t_.sqT hT
    have hx := hx.ts t_
    have hB := t_.sqT hB
    have hb := hb.ts t_
    have hs := hs.ts t_
    have sqk := t_.sqT sqk
    have hd8 := hd8.ts t_
    have hd9 := hd9.ts t_
    have sqh := t_.sqT sqh
    have sqi := t_.sqT sqi
    have sqj := t_.sqT sqj
    have sqm := t_.sqT sqm
    have sq1 := t_.sqT sq1
    have hw := hw.ts t_
    have R := R.keep0 k16
    have KK := KK.by0 k16
    have ho1 : Rp K H16 (.ref p16) (.tuple [.tuple [.int (p), .int (o), .tuple (ss.take kk ++ [d9] ++ ss.drop kk)]]) := .tup (SqT.of h16) (.cons hw .nil)
    have sq2 : SqT K H16 p16 [.ref p15] := SqT.of h16
    walk_at "rd"
    refine r_catA sq1 sq2 (Nat.le_trans (by simp only [List.length_take, List.length_cons, List.length_nil]; omega : _ ≤ 1000) (by decide)) fun p17 H17 sq3 k17 m17 => ?_
    have t_ := keep_ts0 k17
    have hT := t_.sqT hT
    have hx := hx.ts t_
    have hB := t_.sqT hB
    have hb := hb.ts t_
    have hs := hs.ts t_
    have sqk := t_.sqT sqk
    have hd8 := hd8.ts t_
    have hd9 := hd9.ts t_
    have sqh := t_.sqT sqh
    have sqi := t_.sqT sqi
    have sqj := t_.sqT sqj
    have sqm := t_.sqT sqm
    have sq1 := t_.sqT sq1
    have hw := hw.ts t_
    have ho1 := ho1.ts t_
    have sq2 := t_.sqT sq2
    have R := R.keep0 k17
    have KK := KK.by0 k17
    walk_at "rd"
    intro p18 H18 sq4 k18 m18
    rw [show ((at_ : Int) + 1) = ((at_ + 1 : Nat) : Int) by omega, cutV_down] at sq4
    have t_ := keep_ts0 k18
    have hT := t_.sqT hT
    have hx := hx.ts t_
    have hB := t_.sqT hB
    have hb := hb.ts t_
    have hs := hs.ts t_
    have sqk := t_.sqT sqk
    have hd8 := hd8.ts t_
    have hd9 := hd9.ts t_
    have sqh := t_.sqT sqh
    have sqi := t_.sqT sqi
    have sqj := t_.sqT sqj
    have sqm := t_.sqT sqm
    have sq1 := t_.sqT sq1
    have hw := hw.ts t_
    have ho1 := ho1.ts t_
    have sq2 := t_.sqT sq2
    have sq3 := t_.sqT sq3
    have R := R.keep0 k18
    have KK := KK.by0 k18
    walk_at "rd"
    refine r_catA sq3 sq4 (Nat.le_trans (by simp only [List.length_append, List.length_take, List.length_drop, List.length_cons, List.length_nil]; omega : _ ≤ 1000) (by decide)) fun p19 H19 sq5 k19 m19 => ?_
    have t_ := keep_ts0 k19
    have hT := t_.sqT hT
    have hx := hx.ts t_
    have hB := t_.sqT hB
    have hb := hb.ts t_
    have hs := hs.ts t_
    have sqk := t_.sqT sqk
    have hd8 := hd8.ts t_
    have hd9 := hd9.ts t_
    have sqh := t_.sqT sqh
    have sqi := t_.sqT sqi
    have sqj := t_.sqT sqj
    have sqm := t_.sqT sqm
    have sq1 := t_.sqT sq1
    have hw := hw.ts t_
    have ho1 := ho1.ts t_
    have sq2 := t_.sqT sq2
    have sq3 := t_.sqT sq3
    have sq4 := t_.sqT sq4
    have R := R.keep0 k19
    have KK := KK.by0 k19
    walk_at "rd"
    exact q _ _ _ KK R (.tup sq5 (((hx.take at_).append (.cons hw .nil)).append (hx.drop (at_ + 1)))) (wgs_put wg ⟨_, _, _, rfl, sg2, (by simp only [List.length_append, List.length_take, List.length_drop, List.length_cons, List.length_nil]; omega)⟩) (by simp only [List.length_append, List.length_take, List.length_drop, List.length_cons, List.length_nil]; omega)
end
end
section
section
variable {P : Program} {w : World} {K : PySem.W.Frag} {mg : Str → Option Value} {base : Heap}
theorem good_sm {PP : List Wk} {mm : Nat} (gd : Good PP mm) : Sm (shapes PP) := by
  have at_ : ∀ j, (∃ wk, wk ∈ PP ∧ (shapes PP).getD j (0, 0) = (wk.params, wk.owns)) ∨ (shapes PP).getD j (0, 0) = (0, 0) := fun j => by
    rw [List.getD_eq_getElem?_getD]
    unfold shapes
    rw [List.getElem?_map]
    cases e : PP[j]? with
    | none => exact .inr rfl
    | some wk => exact .inl ⟨wk, List.mem_of_getElem? e, rfl⟩
  refine ⟨fun j => ?_, fun j => ?_, ?_⟩
  · rcases at_ j with ⟨wk, h, e⟩ | e
    · rw [e]; exact gd.params wk h
    · rw [e]; exact Nat.zero_le _
  · rcases at_ j with ⟨wk, h, e⟩ | e
    · rw [e]; have := gd.owns wk h; show wk.owns < 100; omega
    · rw [e]; decide
  · have := gd.few
    unfold shapes
    rw [List.length_map]
    omega
end
end
section
section
variable {P : Program} {w : World} {K : PySem.W.Frag} {mg : Str → Option Value} {base : Heap}
theorem dec_th {p o : Nat} : ∀ {n : Nat} {d : PyData}, okTh (p : Int) (o : Int) (n + 1) d = true → ∃ t : Th, d = t.enc ∧ Th.ok p o n t
  | n, d, h => by
    obtain ⟨x, ds, rfl⟩ := okTh_str h
    rcases okTh_inv h with ⟨rfl, l⟩ | ⟨hx, l⟩
    · obtain ⟨a, b, rfl⟩ : ∃ a b, ds = [a, b] := by
        match ds, l with
        | [a, b], _ => exact ⟨a, b, rfl⟩
      rw [okTh_sum l] at h
      have ha := List.all_eq_true.mp h a (by simp)
      have hb := List.all_eq_true.mp h b (by simp)
      cases n with
      | zero => cases ha
      | succ n =>
        obtain ⟨s, rfl, oks⟩ := dec_th ha
        obtain ⟨t, rfl, okt⟩ := dec_th hb
        exact ⟨.sum s t, rfl, by unfold Th.ok; exact ⟨oks, okt⟩⟩
    · obtain ⟨a, rfl⟩ : ∃ a, ds = [a] := by
        match ds, l with
        | [a], _ => exact ⟨a, rfl⟩
      rcases hx with rfl | rfl | rfl | rfl
      · rw [okTh_cell l] at h
        have ha := List.all_eq_true.mp h a (by simp)
        cases n with
        | zero => cases ha
        | succ n =>
          obtain ⟨s, rfl, oks⟩ := dec_th ha
          exact ⟨.cell s, rfl, by unfold Th.ok; exact oks⟩
      · rw [okTh_num] at h
        obtain ⟨k, rfl, lk⟩ := below_nat' h
        exact ⟨.num k, rfl, by cases n <;> (unfold Th.ok; omega)⟩
      · rw [okTh_own] at h
        obtain ⟨k, rfl, lk⟩ := below_nat' h
        exact ⟨.own k, rfl, by cases n <;> (unfold Th.ok; omega)⟩
      · rw [okTh_par] at h
        obtain ⟨k, rfl, lk⟩ := below_nat' h
        exact ⟨.par k, rfl, by cases n <;> (unfold Th.ok; omega)⟩
theorem dec_t {sh : List (Nat × Nat)} {i : Nat} {d : PyData} (h : okT sh i d = true) : ∃ t : Th, d = t.enc ∧ Th.ok (sh.getD i (0, 0)).1 (sh.getD i (0, 0)).2 4 t := dec_th h
theorem dec_ts {sh : List (Nat × Nat)} {i : Nat} : ∀ {ds : List PyData}, ds.all (okT sh i) = true → ∃ ts : List Th, ds = ts.map Th.enc ∧ ∀ t ∈ ts, Th.ok (sh.getD i (0, 0)).1 (sh.getD i (0, 0)).2 4 t
  | [], _ => ⟨[], rfl, fun t z => by cases z⟩
  | d :: ds, h => by
    rw [List.all_cons, Bool.and_eq_true] at h
    obtain ⟨t, rfl, ok⟩ := dec_t h.1
    obtain ⟨ts, rfl, oks⟩ := dec_ts h.2
    refine ⟨t :: ts, rfl, fun s z => ?_⟩
    rcases List.mem_cons.mp z with rfl | z
    · exact ok
    · exact oks s z
theorem place_is {t : Th} (h : placeD t.enc = true) : t.isPlace = true := by
  cases t with
  | num n => exact absurd h (show ¬ inV (V.str "num") [.str "cell", .str "own", .str "par"] = true by decide +kernel)
  | sum a b => exact absurd h (show ¬ inV (V.str "sum") [.str "cell", .str "own", .str "par"] = true by decide +kernel)
  | cell t => rfl
  | own k => rfl
  | par k => rfl
theorem dec_sts {sh : List (Nat × Nat)} {i n : Nat} (ih : ∀ d, okSt sh i n d = true → ∃ s : St, d = s.enc ∧ St.ok sh i n s ∧ cntSt n d = s.many) : ∀ {ss : List PyData}, ss.all (okSt sh i n) = true → ∃ b : Sts, ss = b.encs ∧ Sts.ok sh i n b ∧ (ss.map (cntSt n)).sum = b.many
  | [], _ => ⟨.nil, rfl, by unfold Sts.ok; trivial, rfl⟩
  | d :: ds, h => by
    rw [List.all_cons, Bool.and_eq_true] at h
    obtain ⟨s, rfl, ok, c⟩ := ih d h.1
    obtain ⟨b, rfl, oks, cs⟩ := dec_sts ih h.2
    refine ⟨.cons s b, rfl, by unfold Sts.ok; exact ⟨ok, oks⟩, ?_⟩
    rw [List.map_cons, List.sum_cons, c, cs]
    rfl
theorem dec_bdy {sh : List (Nat × Nat)} {i n : Nat} (ih : ∀ d, okSt sh i n d = true → ∃ s : St, d = s.enc ∧ St.ok sh i n s ∧ cntSt n d = s.many) {d : PyData} (h : bodyD (okSt sh i n) d = true) : ∃ b : Sts, d = .tuple b.encs ∧ Sts.ok sh i n b ∧ cntB (cntSt n) d = b.many := by
  cases d with
  | tuple ss =>
    have h' : ss.all (okSt sh i n) = true := h
    obtain ⟨b, e, ok, c⟩ := dec_sts ih h'
    exact ⟨b, by rw [e], ok, c⟩
  | _ => cases h
theorem dec_st {sh : List (Nat × Nat)} {i : Nat} : ∀ (n : Nat) {d : PyData}, okSt sh i n d = true → ∃ s : St, d = s.enc ∧ St.ok sh i n s ∧ cntSt n d = s.many
  | 0, d, h => by cases h
  | n + 1, d, h => by
    obtain ⟨x, ds, rfl⟩ := okSt_str h
    rcases okSt_inv h with ⟨rfl, l⟩ | ⟨rfl, l⟩ | ⟨rfl, l⟩ | ⟨rfl, l⟩
    · obtain ⟨a, b, rfl⟩ : ∃ a b, ds = [a, b] := by
        match ds, l with
        | [a, b], _ => exact ⟨a, b, rfl⟩
      rw [okSt_set, Bool.and_eq_true, Bool.and_eq_true] at h
      obtain ⟨s, rfl, oks⟩ := dec_t h.1.1
      obtain ⟨t, rfl, okt⟩ := dec_t h.2
      exact ⟨.set s t, rfl, St.ok_set (place_is h.1.2) oks okt, cntSt_no (by decide +kernel)⟩
    · obtain ⟨a, rfl⟩ : ∃ a, ds = [a] := by
        match ds, l with
        | [a], _ => exact ⟨a, rfl⟩
      rw [okSt_say] at h
      obtain ⟨s, rfl, oks⟩ := dec_t h
      exact ⟨.say s, rfl, St.ok_say oks, cntSt_no (by decide +kernel)⟩
    · obtain ⟨t, b, c, rfl, hb, hc, e⟩ := okSt_if h
      rw [okSt_ite, Bool.and_eq_true] at h
      obtain ⟨s, rfl, oks⟩ := dec_t h.1
      obtain ⟨b', rfl, okb, eb⟩ := dec_bdy (fun d hd => dec_st n hd) hb
      obtain ⟨c', rfl, okc, ec⟩ := dec_bdy (fun d hd => dec_st n hd) hc
      refine ⟨.ite s b' c', rfl, St.ok_ite oks okb okc, e.trans ?_⟩
      rw [eb, ec]
      show _ = 1 + b'.many + c'.many
      omega
    · obtain ⟨a, b, rfl⟩ : ∃ a b, ds = [a, b] := by
        match ds, l with
        | [a, b], _ => exact ⟨a, b, rfl⟩
      rw [okSt_call] at h
      cases a with
      | int c =>
        cases b with
        | tuple ts =>
          rw [callD_tup, Bool.and_eq_true, Bool.and_eq_true, Bool.and_eq_true, Bool.and_eq_true, decide_eq_true_eq, decide_eq_true_eq, decide_eq_true_eq, decide_eq_true_eq] at h
          obtain ⟨⟨h1, h2⟩, h3, h4, h5⟩ := h
          obtain ⟨tl, rfl, okl⟩ := dec_ts h5
          obtain ⟨k, rfl⟩ : ∃ k : Nat, c = (k : Int) := ⟨c.toNat, by omega⟩
          refine ⟨.call k tl, rfl, ?_, cntSt_no (by decide +kernel)⟩
          unfold St.ok
          refine ⟨by omega, by omega, ?_, okl⟩
          rw [List.length_map] at h4
          exact h4
        | _ => cases h
      | _ => cases h
/-- a program's tree -/
structure Ok5 (PP : List Wk) : Prop where
  one : 1 ≤ PP.length
  few : PP.length ≤ 4
  params : ∀ wk ∈ PP, wk.params ≤ 3
  owns : ∀ wk ∈ PP, wk.owns ≤ 99
  body : ∀ (i : Nat) (wk : Wk), PP[i]? = some wk → Sts.ok (shapes PP) i 5 wk.body
  many : ∀ wk ∈ PP, wk.body.many ≤ 100
theorem dec_list {R : Nat → Wk → Prop} : ∀ {ws : List PyData} (k : Nat), (∀ (i : Nat) (x : PyData), ws[i]? = some x → ∃ wk : Wk, x = wk.enc ∧ R (k + i) wk) → ∃ PP : List Wk, ws = PP.map Wk.enc ∧ ∀ (i : Nat) (wk : Wk), PP[i]? = some wk → R (k + i) wk
  | [], k, _ => ⟨[], rfl, fun i wk e => by cases e⟩
  | x :: ws, k, h => by
    obtain ⟨wk, rfl, r⟩ := h 0 x rfl
    obtain ⟨PP, rfl, rs⟩ := dec_list (k + 1) fun i y e => by
      obtain ⟨wk, e1, r1⟩ := h (i + 1) y e
      exact ⟨wk, e1, by rw [show k + 1 + i = k + (i + 1) by omega]; exact r1⟩
    refine ⟨wk :: PP, rfl, fun i u e => ?_⟩
    match i, e with
    | 0, e => cases e; exact r
    | i + 1, e =>
      have := rs i u e
      rw [show k + (i + 1) = k + 1 + i by omega]
      exact this
theorem shD_enc {PP : List Wk} : shD (PP.map Wk.enc) = shapes PP := by
  unfold shD shapes
  rw [List.map_map]
  exact List.map_congr_left fun wk _ => rfl
theorem dec_prog {d : PyData} (h : OkProg d) : ∃ PP : List Wk, d = encP PP ∧ Ok5 PP := by
  obtain ⟨ws, rfl, hl, hh, hb⟩ := h
  obtain ⟨PP, rfl, r⟩ := dec_list (R := fun i wk => wk.params ≤ 3 ∧ wk.owns ≤ 99 ∧ Sts.ok (shD ws) i 5 wk.body ∧ wk.body.many ≤ 100) (ws := ws) 0 fun i x e => by
    obtain ⟨p, o, b, rfl, h1, h2, _⟩ := headD_inv (hh i x e)
    obtain ⟨g1, g2⟩ := hb i _ e
    obtain ⟨bb, e1, ok, c⟩ := dec_bdy (fun d hd => dec_st 5 hd) g1
    have e1' : b = .tuple bb.encs := e1
    subst e1'
    refine ⟨⟨p, o, bb⟩, rfl, h1, h2, by rw [Nat.zero_add]; exact ok, ?_⟩
    have c' : _ = bb.many := c
    show bb.many ≤ 100
    rw [← c']
    exact g2
  rw [List.length_map] at hl
  refine ⟨PP, rfl, hl.1, hl.2, fun wk hw => ?_, fun wk hw => ?_, fun i wk e => ?_, fun wk hw => ?_⟩
  · obtain ⟨i, e⟩ := List.mem_iff_getElem?.mp hw
    exact (r i wk e).1
  · obtain ⟨i, e⟩ := List.mem_iff_getElem?.mp hw
    exact (r i wk e).2.1
  · have := (r i wk e).2.2.1
    rw [shD_enc, Nat.zero_add] at this
    exact this
  · obtain ⟨i, e⟩ := List.mem_iff_getElem?.mp hw
    exact (r i wk e).2.2.2
end
end
section
section
variable {P : Program} {w : World} {K : PySem.W.Frag} {mg : Str → Option Value} {base : Heap}
theorem ok_th {p o : Nat} : ∀ {t : Th} {n : Nat}, Th.ok p o n t → okTh (p : Int) (o : Int) (n + 1) t.enc = true
  | .num k, n, h => by
    have h' : k < 3 := by cases n <;> (unfold Th.ok at h; exact h)
    show okTh _ _ _ (.tuple [.str "num", .int (k : Int)]) = true
    rw [okTh_num]
    exact below_int (by omega) (by omega)
  | .own k, n, h => by
    have h' : k < o := by cases n <;> (unfold Th.ok at h; exact h)
    show okTh _ _ _ (.tuple [.str "own", .int (k : Int)]) = true
    rw [okTh_own]
    exact below_int (by omega) (by omega)
  | .par k, n, h => by
    have h' : k < p := by cases n <;> (unfold Th.ok at h; exact h)
    show okTh _ _ _ (.tuple [.str "par", .int (k : Int)]) = true
    rw [okTh_par]
    exact below_int (by omega) (by omega)
  | .cell t, 0, h => by unfold Th.ok at h; exact h.elim
  | .sum a b, 0, h => by unfold Th.ok at h; exact h.elim
  | .cell t, n + 1, h => by
    unfold Th.ok at h
    show okTh _ _ _ (.tuple (.str "cell" :: [t.enc])) = true
    rw [okTh_cell rfl, List.all_cons, List.all_nil, ok_th h] <;> rfl
  | .sum a b, n + 1, h => by
    unfold Th.ok at h
    show okTh _ _ _ (.tuple (.str "sum" :: [a.enc, b.enc])) = true
    rw [okTh_sum rfl, List.all_cons, List.all_cons, List.all_nil, ok_th h.1, ok_th h.2] <;> rfl
theorem ok_t {sh : List (Nat × Nat)} {i : Nat} {t : Th} (h : Th.ok (sh.getD i (0, 0)).1 (sh.getD i (0, 0)).2 4 t) : okT sh i t.enc = true := ok_th h
theorem is_place {t : Th} (h : t.isPlace = true) : placeD t.enc = true := by
  cases t with
  | num n => cases h
  | sum a b => cases h
  | cell t => exact (by decide +kernel : inV (V.str "cell") [.str "cell", .str "own", .str "par"] = true)
  | own k => exact (by decide +kernel : inV (V.str "own") [.str "cell", .str "own", .str "par"] = true)
  | par k => exact (by decide +kernel : inV (V.str "par") [.str "cell", .str "own", .str "par"] = true)
mutual
theorem ok_st {sh : List (Nat × Nat)} {i : Nat} : ∀ {s : St} {n : Nat}, St.ok sh i n s → okSt sh i (n + 1) s.enc = true ∧ cntSt (n + 1) s.enc = s.many
  | .set p t, n, h => by
    have h' : p.isPlace = true ∧ Th.ok (sh.getD i (0, 0)).1 (sh.getD i (0, 0)).2 4 p ∧ Th.ok (sh.getD i (0, 0)).1 (sh.getD i (0, 0)).2 4 t := by cases n <;> (unfold St.ok at h; exact h)
    unfold St.enc
    refine ⟨?_, cntSt_no (by decide +kernel)⟩
    rw [okSt_set, ok_t h'.2.1, is_place h'.1, ok_t h'.2.2] <;> rfl
  | .say t, n, h => by
    have h' : Th.ok (sh.getD i (0, 0)).1 (sh.getD i (0, 0)).2 4 t := by cases n <;> (unfold St.ok at h; exact h)
    unfold St.enc
    refine ⟨?_, cntSt_no (by decide +kernel)⟩
    rw [okSt_say, ok_t h']
  | .call k ts, n, h => by
    have h' : i < k ∧ k < sh.length ∧ ts.length = (sh.getD k (0, 0)).1 ∧ ∀ t ∈ ts, Th.ok (sh.getD i (0, 0)).1 (sh.getD i (0, 0)).2 4 t := by cases n <;> (unfold St.ok at h; exact h)
    unfold St.enc
    refine ⟨?_, cntSt_no (by decide +kernel)⟩
    have e : ((k : Int)).toNat = k := by omega
    rw [okSt_call, callD_tup, e, decide_eq_true (by omega), decide_eq_true (by omega), decide_eq_true (by omega), decide_eq_true (by rw [List.length_map]; exact h'.2.2.1)]
    refine List.all_eq_true.mpr fun d hd => ?_
    obtain ⟨t, ht, rfl⟩ := List.mem_map.mp hd
    exact ok_t (h'.2.2.2 t ht)
  | .ite t a b, 0, h => by unfold St.ok at h; exact h.elim
  | .ite t a b, n + 1, h => by
    unfold St.ok at h
    obtain ⟨a1, a2⟩ := ok_sts h.2.1
    obtain ⟨b1, b2⟩ := ok_sts h.2.2
    have ok : okSt sh i (n + 1 + 1) (.tuple [.str "if", t.enc, .tuple a.encs, .tuple b.encs]) = true := by
      rw [okSt_ite, ok_t h.1]
      have e1 : bodyD (okSt sh i (n + 1)) (.tuple a.encs) = true := a1
      have e2 : bodyD (okSt sh i (n + 1)) (.tuple b.encs) = true := b1
      rw [e1, e2] <;> rfl
    unfold St.enc
    refine ⟨ok, ?_⟩
    obtain ⟨t', b', c', e, _, _, ec⟩ := okSt_if ok
    cases e
    rw [ec]
    have e1 : cntB (cntSt (n + 1)) (.tuple a.encs) = a.many := a2
    have e2 : cntB (cntSt (n + 1)) (.tuple b.encs) = b.many := b2
    rw [e1, e2]
    show _ = 1 + a.many + b.many
    omega
theorem ok_sts {sh : List (Nat × Nat)} {i : Nat} : ∀ {b : Sts} {n : Nat}, Sts.ok sh i n b → b.encs.all (okSt sh i (n + 1)) = true ∧ (b.encs.map (cntSt (n + 1))).sum = b.many
  | .nil, n, _ => ⟨by unfold Sts.encs; rfl, by unfold Sts.encs; rfl⟩
  | .cons s r, n, h => by
    unfold Sts.ok at h
    obtain ⟨s1, s2⟩ := ok_st h.1
    obtain ⟨r1, r2⟩ := ok_sts h.2
    unfold Sts.encs
    refine ⟨by rw [List.all_cons, s1, r1] <;> rfl, ?_⟩
    rw [List.map_cons, List.sum_cons, s2, r2]
    rfl
end
mutual
theorem st_mono {sh : List (Nat × Nat)} {i : Nat} : ∀ {s : St} {n m : Nat}, St.ok sh i n s → n ≤ m → St.ok sh i m s
  | .set p t, n, m, h, _ => by
    have h' : p.isPlace = true ∧ Th.ok (sh.getD i (0, 0)).1 (sh.getD i (0, 0)).2 4 p ∧ Th.ok (sh.getD i (0, 0)).1 (sh.getD i (0, 0)).2 4 t := by cases n <;> (unfold St.ok at h; exact h)
    exact St.ok_set h'.1 h'.2.1 h'.2.2
  | .say t, n, m, h, _ => by
    have h' : Th.ok (sh.getD i (0, 0)).1 (sh.getD i (0, 0)).2 4 t := by cases n <;> (unfold St.ok at h; exact h)
    exact St.ok_say h'
  | .call k ts, n, m, h, _ => by
    have h' : i < k ∧ k < sh.length ∧ ts.length = (sh.getD k (0, 0)).1 ∧ ∀ t ∈ ts, Th.ok (sh.getD i (0, 0)).1 (sh.getD i (0, 0)).2 4 t := by cases n <;> (unfold St.ok at h; exact h)
    cases m <;> (unfold St.ok; exact h')
  | .ite t a b, 0, m, h, _ => by unfold St.ok at h; exact h.elim
  | .ite t a b, n + 1, 0, h, l => by omega
  | .ite t a b, n + 1, m + 1, h, l => by
    unfold St.ok at h ⊢
    exact ⟨h.1, sts_mono h.2.1 (by omega), sts_mono h.2.2 (by omega)⟩
theorem sts_mono {sh : List (Nat × Nat)} {i : Nat} : ∀ {b : Sts} {n m : Nat}, Sts.ok sh i n b → n ≤ m → Sts.ok sh i m b
  | .nil, n, m, _, _ => by unfold Sts.ok; trivial
  | .cons s r, n, m, h, l => by
    unfold Sts.ok at h ⊢
    exact ⟨st_mono h.1 l, sts_mono h.2 l⟩
end
theorem ok_prog {PP : List Wk} {mm : Nat} (gd : Good PP mm) (m1 : mm ≤ 100) : OkProg (encP PP) := by
  refine ⟨PP.map Wk.enc, rfl, by rw [List.length_map]; exact ⟨gd.one, gd.few⟩, fun i x e => ?_, fun i x e => ?_⟩
  · rw [List.getElem?_map] at e
    obtain ⟨wk, ew, rfl⟩ := Option.map_eq_some_iff.mp e
    have h1 := gd.params wk (List.mem_of_getElem? ew)
    have h2 := gd.owns wk (List.mem_of_getElem? ew)
    unfold Wk.enc
    rw [headD_3, Bool.and_eq_true]
    refine ⟨below_int (by omega) ?_, below_int (by omega) (by omega)⟩
    split
    · rename_i z
      subst z
      have := gd.first wk ew
      omega
    · omega
  · rw [List.getElem?_map] at e
    obtain ⟨wk, ew, rfl⟩ := Option.map_eq_some_iff.mp e
    have ok := sts_mono (gd.body i wk ew) (by omega : 2 ≤ 4)
    obtain ⟨a, b⟩ := ok_sts ok
    have e2 : itemD wk.enc 2 = .tuple wk.body.encs := rfl
    rw [e2, shD_enc]
    refine ⟨a, ?_⟩
    have c : cntB (cntSt 5) (.tuple wk.body.encs) = wk.body.many := b
    rw [c]
    exact Nat.le_trans (gd.many wk (List.mem_of_getElem? ew)) m1
theorem hh_prog {PP : List Wk} : Hh (encP PP) := by
  refine hh_tup (head_tup fun d hd => ?_) (hhs_of fun d hd => ?_)
  · obtain ⟨wk, _, rfl⟩ := List.mem_map.mp hd
    exact ⟨_, rfl⟩
  · obtain ⟨wk, _, rfl⟩ := List.mem_map.mp hd
    unfold Wk.enc
    exact hh_tup (.inl rfl) (hhs_cons hh_int (hhs_cons hh_int (hhs_cons (hh_tup (head_tup encs_tup) (sts_hh wk.body)) hhs_nil)))
theorem wg_hh {ws : List PyData} (h : ∀ x ∈ ws, Wg x) : Hh (.tuple ws) := by
  refine hh_tup (head_tup fun d hd => ?_) (hhs_of fun d hd => ?_)
  · obtain ⟨p, o, ss, rfl, _⟩ := h d hd
    exact ⟨_, rfl⟩
  · obtain ⟨p, o, ss, rfl, sg, _⟩ := h d hd
    exact hh_tup (.inl rfl) (hhs_cons hh_int (hhs_cons hh_int (hhs_cons (hh_tup (head_tup fun e he => (sg e he).2.2) (hhs_of fun e he => (sg e he).2.1)) hhs_nil)))
theorem wg_wq {x : PyData} (h : Wg x) : Wq x := by
  obtain ⟨p, o, ss, rfl, sg, l⟩ := h
  exact ⟨p, o, .tuple ss, rfl, .tup (by omega) fun s hs => (sg s hs).1⟩
theorem encs_many : ∀ {b : Sts}, b.encs.length ≤ b.many
  | .nil => by unfold Sts.encs; exact Nat.zero_le _
  | .cons s r => by
    have := encs_many (b := r)
    have h : 1 ≤ s.many := by cases s <;> (unfold St.many; omega)
    unfold Sts.encs Sts.many
    rw [List.length_cons]
    omega
theorem drawn_wg0 {PP : List Wk} {mm : Nat} (gd : Good PP mm) (m1 : mm ≤ 100) : ∀ x ∈ PP.map Wk.enc, Wg0 x := fun x hx => by
  obtain ⟨wk, hw, rfl⟩ := List.mem_map.mp hx
  obtain ⟨i, hi⟩ := List.mem_iff_getElem?.mp hw
  have h1 := sts_words (good_sm gd) (gd.body i wk hi)
  have h2 := gd.many wk hw
  have h3 := encs_many (b := wk.body)
  exact ⟨_, _, _, rfl, fun s hs => ⟨sts_sq (by omega) s hs, Hhs.mem (sts_hh wk.body) hs, encs_tup s hs⟩, by omega⟩
end
end
section
section
variable {P : Program} {w : World} {K : PySem.W.Frag} {mg : Str → Option Value} {base : Heap}
noncomputable def OkW (sh : List (Nat × Nat)) (W : List (List Str)) : Prop := W.length = sh.length ∧ ∀ (i : Nat) (r : List Str), W[i]? = some r → r.length = (shOf sh i).1 ∧ ∀ t ∈ r, t ∈ (["copy", "place", "back", "want"] : List Str)
noncomputable def spNeedWaysX (K : PySem.W.Frag) (cB cW : Addr) : Sp := fun vs H Q E => ∃ (v u : V) (d : PyData) (W : List (List Str)), vs = [v, u] ∧ Rp K H v d ∧ Hh d ∧ Rp K H u (encW W) ∧ (∀ ws, d = .tuple ws → OkProg d → OkW (shD ws) W → ∀ H', Keep [] H H' → Q .non H') ∧
  (∀ ws, d = .tuple ws → OkProg d → ¬ OkW (shD ws) W → ∀ H', Keep [] H H' → E (.ref cW) none H') ∧ (¬ OkProg d → ∀ H', Keep [] H H' → E (.ref cB) none H')
theorem inV_ways {x : Str} : inV (V.str x) [.str "copy", .str "place", .str "back", .str "want"] = decide (x ∈ (["copy", "place", "back", "want"] : List Str)) := inV_strs' (x := x) (l := ["copy", "place", "back", "want"])
theorem okNeedWaysX {tk : Nat → Tok} {aP aW cB cW : Addr} (D : DefAt K mg "need_ways" sneed_ways pneed_ways) (T : Cst K tk aP aW mg) (E_BadWays : ExcAt K mg "BadWays" cW) (C_need_program : CalleeX P w K mg base "need_program" 25 pneed_program (spNeedProgramX K cB)) :
    CalleeX P w K mg base "need_ways" 26 pneed_ways (spNeedWaysX K cB cW) := by
  refine D.okX scneed_ways (fun vs H Q E h => ?_) (fun f cdv A outer s H vs Q E hr h => ?_)
  · obtain ⟨v, u, d, W, rfl, _⟩ := h
    rfl
  obtain ⟨v, u, d, W, rfl, hR, hh, hU, q, qw, qe⟩ := h
  refine ⟨_, (pss_cons (ps_expr (pcallX C_need_program (takes_of rfl rfl rfl rfl) (hr.mono (by first | exact Nat.le_of_ble_eq_true rfl | omega)) rfl (pa_cons (pv 0) pa_nil)))
  (pss_cons (ps_if (PW.pt (pw_or (pt_not (pt_val (pe_callB (cIsi (K := K)) (by rfl) T.isinstance (by decide +kernel) (pa_cons (pv 1) (pa_cons (pe_bltn rfl T.tuple (by decide +kernel) (v := .ty "tuple") rfl) pa_nil))))) (pw_or1 (pt_cmpR op_ne (pe_callB (cLen (K := K)) (by rfl) T.len PySem.boot_len (pa_cons (pv 1) pa_nil)) (pe_callB (cLen (K := K)) (by rfl) T.len PySem.boot_len (pa_cons (pv 0) pa_nil)) (nomark _))))) (pss_one (psRaise (K := K) (mg := mg) E_BadWays (takes_of rfl rfl rfl rfl) rfl)) pss_nil)
  (pss_one (ps_for (passes_of rfl) rfl (piZip (K := K) rfl T.zip (pa_cons (pv 0) (pa_cons (pv 1) pa_nil))) (pgTup (K := K) (by rfl) (pgs_cons (pg_name (i := 2) scneed_ways.nd rfl (Or.inl rfl)) (pgs_cons (pg_name (i := 3) scneed_ways.nd rfl (Or.inl rfl)) pgs_nil)))
   (pss_cons (ps_if (PW.pt (pw_or (pt_not (pt_val (pe_callB (cIsi (K := K)) (by rfl) T.isinstance (by decide +kernel) (pa_cons (pv 3) (pa_cons (pe_bltn rfl T.tuple (by decide +kernel) (v := .ty "tuple") rfl) pa_nil))))) (pw_or1 (pt_cmpR op_ne (pe_callB (cLen (K := K)) (by rfl) T.len PySem.boot_len (pa_cons (pv 3) pa_nil)) (pe_ix (ixT (K := K)) (pv 2) pe_int (fun _ _ => rfl)) (nomark _))))) (pss_one (psRaise (K := K) (mg := mg) E_BadWays (takes_of rfl rfl rfl rfl) rfl)) pss_nil)
  (pss_one (ps_for (passes_of rfl) rfl (piTup (K := K) (pv 3)) (pg_name (i := 4) scneed_ways.nd rfl (Or.inl rfl))
   (pss_one (ps_if (pt_cmpR (opNotIn (K := K)) (pv 4) (pe_glob (v := .ref _) rfl T.WAYS rfl) (by with_unfolding_all rfl)) (pss_one (psRaise (K := K) (mg := mg) E_BadWays (takes_of rfl rfl rfl rfl) rfl)) pss_nil))))))))), ?_⟩
  walk_at "rd"
  refine r_callS ?_
  walk_at "rd"
  refine ask ⟨v, d, rfl, hR, hh, fun ok H1 k1 => ?_, fun no H1 k1 => qe no H1 k1⟩
  obtain ⟨ws, rfl, hl, hhd, _⟩ := id ok
  obtain ⟨a, xs0, rfl, hT0, hx⟩ := hR.tup_inv
  obtain ⟨xs, hT, hl2, hat⟩ := heads_lie hT0 hx hhd
  obtain ⟨b, ys, rfl, hT2, hy⟩ := hU.tup_inv
  have ly : ys.length = W.length := by rw [hy.length, List.length_map]
  have t1 := keep_ts0 k1
  have hT' := t1.sqT hT
  have hT2' := t1.sqT hT2
  have bad : ¬ OkW (shD ws) W → ∀ H', Keep [] H H' → E (.ref cW) none H' := qw ws rfl ok
  have good : OkW (shD ws) W → ∀ H', Keep [] H H' → Q .non H' := q ws rfl ok
  generalize shD ws = sh at hl2 hat bad good
  walk_at "rd"
  refine r_orP (a := !kb "tuple" "tuple") (b := !decide ((V.int (ys.length : Int)) = V.int (xs.length : Int))) (fun R hr => by walk_at "rd"; exact hr) (fun _ R hr => by walk_at "rd"; exact hr) ?_
  by_cases cl : W.length = sh.length
  case neg =>
    rw [if_pos (by
      rw [decide_eq_false (by rw [V.int.injEq]; omega)]
      exact (by decide +kernel : (!kb "tuple" "tuple" || !false) = true))]
    walk_at "rd"
    exact r_raise (bad (fun z => cl z.1) _ k1)
  rw [if_neg (by
    rw [decide_eq_true (by rw [ly, hl2, cl])]
    exact (by decide +kernel : ¬ (!kb "tuple" "tuple" || !true) = true))]
  walk_at "rd"
  refine forZT (xs := xs) (ys := ys) (by omega) (fun i σ H' => (∃ x2 x3 x4 : Option V, σ = [some (.ref a), some (.ref b), x2, x3, x4]) ∧ Keep [] H H' ∧ ∀ (j : Nat) (r : List Str), j < i → W[j]? = some r → r.length = (shOf sh j).1 ∧ ∀ t ∈ r, t ∈ (["copy", "place", "back", "want"] : List Str)) ⟨⟨_, _, _, rfl⟩, k1, fun j r z => by omega⟩ (fun i σ H' hp => ?_) (fun i x y T0 σ H' H2 hx hy2 hp nT hT1 k2 => ?_) (fun σ H' hp => ?_)
  · obtain ⟨⟨x2, x3, x4, rfl⟩, k, _⟩ := hp
    exact ⟨(keep_ts0 k).sqT hT, (keep_ts0 k).sqT hT2⟩
  · obtain ⟨⟨x2, x3, x4, rfl⟩, k, oks⟩ := hp
    have t2 := (keep_ts0 k).trans (keep_ts0 k2)
    have hi : i < sh.length := by
      have := (List.getElem?_eq_some_iff.mp hx).1
      omega
    obtain ⟨wp, bb, e, h1⟩ := hat i hi
    rw [atI_nat hx] at e
    cases e
    obtain ⟨d, ed, hd⟩ := hy.get' hy2
    rw [List.getElem?_map] at ed
    obtain ⟨wr, ew, rfl⟩ := Option.map_eq_some_iff.mp ed
    obtain ⟨rp, zs, rfl, hR1, hz⟩ := hd.tup_inv
    have hR2 := t2.sqT hR1
    have hW2 := t2.sqT h1
    have lz : zs.length = wr.length := by rw [hz.length, List.length_map]
    have at0 : atI [.int ((shOf sh i).1 : Int), .int ((shOf sh i).2 : Int), bb] 0 = some (.int ((shOf sh i).1 : Int)) := atI_nat (xs := [.int ((shOf sh i).1 : Int), .int ((shOf sh i).2 : Int), bb]) (j := 0) rfl
    have hTT := SqT.of (K := K) hT1
    walk_at "rd"
    refine r_orP (a := !kb "tuple" "tuple") (b := !decide ((V.int (zs.length : Int)) = V.int ((shOf sh i).1 : Int))) (fun R hr => by walk_at "rd"; exact hr) (fun _ R hr => by walk_at "rd"; exact hr) ?_
    by_cases cw : wr.length = (shOf sh i).1
    case neg =>
      rw [if_pos (by
        rw [decide_eq_false (by rw [V.int.injEq]; omega)]
        exact (by decide +kernel : (!kb "tuple" "tuple" || !false) = true))]
      walk_at "rd"
      exact r_raise (bad (fun z => cw (z.2 i wr ew).1) _ (k.trans k2))
    rw [if_neg (by
      rw [decide_eq_true (by rw [lz, cw])]
      exact (by decide +kernel : ¬ (!kb "tuple" "tuple" || !true) = true))]
    walk_at "rd"
    refine forT (xs := zs) (fun j σ H' => H' = H2 ∧ (∃ x4 : Option V, σ = [some (.ref a), some (.ref b), some (.ref wp), some (.ref rp), x4]) ∧ ∀ t ∈ wr.take j, t ∈ (["copy", "place", "back", "want"] : List Str)) ⟨rfl, ⟨_, rfl⟩, fun t z => by rw [List.take_zero] at z; cases z⟩ (fun j σ H3 _ hp => ?_) (fun j x σ H3 hx3 hp => ?_) (fun σ H3 hp => ?_)
    · obtain ⟨rfl, ⟨x5, rfl⟩, _⟩ := hp
      exact hR2
    · obtain ⟨rfl, ⟨x5, rfl⟩, okj⟩ := hp
      obtain ⟨d, ed, hd⟩ := hz.get' hx3
      rw [List.getElem?_map] at ed
      obtain ⟨way, eway, rfl⟩ := Option.map_eq_some_iff.mp ed
      cases hd.str_inv
      have hWW : SqT K H3 aW [.str "copy", .str "place", .str "back", .str "want"] := sqT_of_none T.sqW
      walk_at "rd"
      rw [inV_ways]
      by_cases cm : way ∈ (["copy", "place", "back", "want"] : List Str)
      · rw [decide_eq_true cm]
        walk_at "rd"
        refine ⟨rfl, ⟨_, rfl⟩, fun t z => ?_⟩
        rw [List.take_add_one, eway] at z
        rcases List.mem_append.mp z with z | z
        · exact okj t z
        · cases List.mem_singleton.mp z
          exact cm
      · rw [decide_eq_false cm]
        walk_at "rd"
        exact r_raise (bad (fun z => cm ((z.2 i wr ew).2 way (List.mem_of_getElem? eway))) _ (k.trans k2))
    · obtain ⟨rfl, ⟨x5, rfl⟩, okj⟩ := hp
      refine ⟨⟨_, _, _, rfl⟩, k.trans k2, fun j r hj ej => ?_⟩
      by_cases z : j < i
      · exact oks j r z ej
      · have : j = i := by omega
        subst this
        rw [ew] at ej
        cases ej
        exact ⟨cw, by rw [lz, List.take_length] at okj; exact okj⟩
  · obtain ⟨⟨x2, x3, x4, rfl⟩, k, oks⟩ := hp
    refine good ⟨cl, fun i r e => oks i r ?_ e⟩ _ k
    have := (List.getElem?_eq_some_iff.mp e).1
    omega
end
end
section
section
variable {P : Program} {w : World} {K : PySem.W.Frag} {mg : Str → Option Value} {base : Heap}
theorem MakAt.keep0 {H H1 : Hp} {cM : Addr} {W : List (List Str)} {m : Mk} {v : V} (h : MakAt K H cM W m v) (k : Keep [] H H1) : MakAt K H1 cM W m v := by
  obtain ⟨a, dx, vw, vr, rfl, h1, h2, h3⟩ := h
  exact ⟨a, dx, vw, vr, rfl, k _ _ h1 (by simp), h2.ts (keep_ts0 k), h3.ts (keep_ts0 k)⟩
end
end
section
section
variable {P : Program} {w : World} {K : PySem.W.Frag} {mg : Str → Option Value} {base : Heap}
theorem drop_all : ∀ {b : Sts}, b.drop b.encs.length = .nil
  | .nil => rfl
  | .cons s r => by
    show (Sts.cons s r).drop (r.encs.length + 1) = _
    exact drop_all (b := r)
end
end
section
section
variable {P : Program} {w : World} {K : PySem.W.Frag} {mg : Str → Option Value} {base : Heap}
noncomputable def spCountOf (K : PySem.W.Frag) (n : Nat) : Sp := fun vs H Q _ => ∃ (v : V) (sh : List (Nat × Nat)) (i d : Nat) (b : Sts), vs = [v] ∧ Rp K H v (.tuple b.encs) ∧ Sts.ok sh i d b ∧ d < n ∧ Q (.int (b.many : Int)) H
noncomputable def inner : Sts → Nat
  | .nil => 0
  | .cons (.ite _ a b) r => a.many + b.many + inner r
  | .cons _ r => inner r
theorem many_inner : ∀ {b : Sts}, b.many = b.len + inner b
  | .nil => rfl
  | .cons s r => by
    have ih := many_inner (b := r)
    have l : (Sts.cons s r).len = r.len + 1 := rfl
    have e : (Sts.cons s r).many = s.many + r.many := rfl
    cases s with
    | set p t =>
      have : inner (.cons (.set p t) r) = inner r := rfl
      have h : (St.set p t).many = 1 := rfl
      omega
    | say t =>
      have : inner (.cons (.say t) r) = inner r := rfl
      have h : (St.say t).many = 1 := rfl
      omega
    | call k ts =>
      have : inner (.cons (.call k ts) r) = inner r := rfl
      have h : (St.call k ts).many = 1 := rfl
      omega
    | ite t a c =>
      have : inner (.cons (.ite t a c) r) = a.many + c.many + inner r := rfl
      have h : (St.ite t a c).many = 1 + a.many + c.many := rfl
      omega
noncomputable abbrev scount_of : Stmt := top 62
noncomputable abbrev ncount_of : List Str := ["body", "count", "step"]
noncomputable abbrev pcount_of : List Str := ["body"]
theorem sccount_of : FnScope ncount_of pcount_of (defScope scount_of) := ⟨rfl, rfl, rfl, by decide +kernel, rfl, by decide +kernel, by decide +kernel⟩
theorem okCountOf (D : DefAt K mg "count_of" scount_of pcount_of) (T : Blt mg) : ∀ n, Callee P w K mg base "count_of" (n + 1) pcount_of (spCountOf K n)
  | 0 => D.none fun vs H Q E h => by
    obtain ⟨v, sh, i, d, b, rfl, _, _, z, _⟩ := h
    omega
  | n + 1 => by
    have C_count_of := okCountOf D T n
    refine D.ok sccount_of (fun vs H Q E h => ?_) (fun f cdv A outer s H vs Q E hr h => ?_)
    · obtain ⟨v, sh, i, d, b, rfl, _⟩ := h
      rfl
    obtain ⟨v, sh, i, d, b, rfl, hb, ok, dn, q⟩ := h
    obtain ⟨a, xs, rfl, hT, hxs⟩ := hb.tup_inv
    refine ⟨_, (pss_cons (ps_set (i := 1) sccount_of.nd rfl (Or.inl rfl) (pe_callB (cLen (K := K)) (by rfl) T.len PySem.boot_len (pa_cons (pv 0) pa_nil)))
  (pss_cons (ps_for PassesOwn.never rfl (piTup (K := K) (pv 0)) (pg_name (i := 2) sccount_of.nd rfl (Or.inl rfl))
   (pss_one (ps_if (pt_cmpR op_eq (pe_ix (ixT (K := K)) (pv 2) pe_int (fun _ _ => rfl)) pe_str (nomark _)) (pss_one (ps_aug (i := 1) sccount_of.nd rfl (Or.inl rfl) (pe_op op_add (pcall C_count_of (hr.mono (by first | exact Nat.le_of_ble_eq_true rfl | omega)) rfl (pa_cons (pe_ix (ixT (K := K)) (pv 2) pe_int (fun _ _ => rfl)) pa_nil)) (pcall C_count_of (hr.mono (by first | exact Nat.le_of_ble_eq_true rfl | omega)) rfl (pa_cons (pe_ix (ixT (K := K)) (pv 2) pe_int (fun _ _ => rfl)) pa_nil))) ip_add)) pss_nil)))
  (pss_one (ps_ret (pv 1))))), ?_⟩
    walk_at "rd"
    refine forT (xs := xs) (fun j σ H' => ∃ (x2 : Option V) (c : Nat), σ = [some (.ref a), some (.int (c : Int)), x2] ∧ H' = H ∧ c + inner (b.drop j) = b.many ∧ Sts.ok sh i d (b.drop j)) ⟨_, b.len, by rw [hxs.length, Sts.encs_len]; rfl, rfl, many_inner.symm, ok⟩ (fun j σ H' _ hp => ?_) (fun j x σ H2 hx hp => ?_) (fun σ H' hp => ?_)
    · obtain ⟨x2, c, rfl, rfl, _⟩ := hp
      exact hT
    · obtain ⟨x2, c, rfl, rfl, ec, okj⟩ := hp
      obtain ⟨dd, ed, rd⟩ := hxs.get' hx
      obtain ⟨st, rfl, est⟩ := Sts.drop_get ed
      rw [est] at okj ec
      unfold Sts.ok at okj
      cases st with
      | set p t =>
        obtain ⟨a1, u, y, rfl, hS, hu, hy⟩ := St.inv_set rd
        have a0 : atI [V.str "set", u, y] 0 = some (.str "set") := at0
        walk_at "rd"
        exact ⟨_, c, rfl, rfl, ec, okj.2⟩
      | say t =>
        obtain ⟨a1, u, rfl, hS, hu⟩ := St.inv_say rd
        have a0 : atI [V.str "say", u] 0 = some (.str "say") := at0
        walk_at "rd"
        exact ⟨_, c, rfl, rfl, ec, okj.2⟩
      | call k ts =>
        obtain ⟨a1, y, rfl, hS, hy⟩ := St.inv_call rd
        have a0 : atI [V.str "call", V.int (k : Int), y] 0 = some (.str "call") := at0
        walk_at "rd"
        exact ⟨_, c, rfl, rfl, ec, okj.2⟩
      | ite t b1 b2 =>
        cases d with
        | zero => have := okj.1; unfold St.ok at this; exact this.elim
        | succ d =>
        have oki := okj.1
        unfold St.ok at oki
        obtain ⟨a1, u, y, z, rfl, hS, hu, hy, hz⟩ := St.inv_ite rd
        have a0 : atI [V.str "if", u, y, z] 0 = some (.str "if") := at0
        have a2' : atI [V.str "if", u, y, z] 2 = some y := at2
        have a3' : atI [V.str "if", u, y, z] 3 = some z := atI_nat (xs := [V.str "if", u, y, z]) (j := 3) rfl
        walk_at "rd"
        refine r_augN rfl ?_
        walk_at "rd"
        refine ask ⟨y, sh, i, d, b1, rfl, hy, oki.2.1, by omega, ?_⟩
        walk_at "rd"
        refine ask ⟨z, sh, i, d, b2, rfl, hz, oki.2.2, by omega, ?_⟩
        walk_at "rd"
        refine r_ipI ?_
        walk_at "rd"
        have ec' : c + (b1.many + b2.many + inner (b.drop (j + 1))) = b.many := ec
        refine ⟨some (.ref a1), c + (b1.many + b2.many), ?_, rfl, by omega, okj.2⟩
        rw [show (((c + (b1.many + b2.many) : Nat)) : Int) = (c : Int) + ((b1.many : Int) + (b2.many : Int)) by omega]
        rfl
    · obtain ⟨x2, c, rfl, rfl, ec, okj⟩ := hp
      walk_at "rd"
      have dn : b.drop xs.length = .nil := by rw [hxs.length]; exact drop_all
      rw [dn] at ec
      have : c = b.many := ec
      rw [this]
      exact q
end
end
section
section
variable {P : Program} {w : World} {K : PySem.W.Frag} {mg : Str → Option Value} {base : Heap}
noncomputable def Tiny (PP : List Wk) : Prop := ∀ w ∈ PP, w.owns ≤ 10 ∧ w.body.many ≤ 20
structure Mst (tk : Nat → Tok) (mg : Str → Option Value) : Prop where
  MOST_STEPS_HERE : mg "MOST_STEPS_HERE" = some (.int 20 (tk 7))
  MOST_OWNS_HERE : mg "MOST_OWNS_HERE" = some (.int 10 (tk 8))
noncomputable abbrev sneed_small : Stmt := top 61
noncomputable abbrev nneed_small : List Str := ["program", "params", "owns", "body"]
noncomputable abbrev pneed_small : List Str := ["program"]
theorem scneed_small : FnScope nneed_small pneed_small (defScope sneed_small) := ⟨rfl, rfl, rfl, by decide +kernel, rfl, by decide +kernel, by decide +kernel⟩
end
end
section
section
variable {P : Program} {w : World} {K : PySem.W.Frag} {mg : Str → Option Value} {base : Heap}
/-- what is no program; or a program with ways that are none -/
noncomputable def Refd (K : PySem.W.Frag) (cB cW : Addr) (H : Hp) (v : V) (d : PyData) (W : List (List Str)) (E : XK) : Prop := Rp K H v d ∧ Hh d ∧
  ((¬ OkProg d ∧ ∀ H', Keep [] H H' → E (.ref cB) none H') ∨ (∃ (PP : List Wk) (mm : Nat), d = encP PP ∧ Good PP mm ∧ mm ≤ 100 ∧ Tiny PP ∧ OkProg d ∧ (∀ ws, d = .tuple ws → ¬ OkW (shD ws) W) ∧ ∀ H', Keep [] H H' → E (.ref cW) none H'))
noncomputable def spNeedSmallX (K : PySem.W.Frag) (cB : Addr) : Sp := fun vs H Q E => ∃ (v : V) (d : PyData), vs = [v] ∧ Rp K H v d ∧ Hh d ∧ ((¬ OkProg d ∧ ∀ H', Keep [] H H' → E (.ref cB) none H') ∨ (∃ (PP : List Wk) (mm : Nat), d = encP PP ∧ Good PP mm ∧ mm ≤ 100 ∧ Tiny PP ∧ OkProg d ∧ ∀ H', Keep [] H H' → Q .non H'))
theorem okNeedSmallX {tk : Nat → Tok} {cB : Addr} (D : DefAt K mg "need_small" sneed_small pneed_small) (T : Mst tk mg) (E_BadProgram : ExcAt K mg "BadProgram" cB) (C_need_program : CalleeX P w K mg base "need_program" 25 pneed_program (spNeedProgramX K cB)) (C_count_of : Callee P w K mg base "count_of" 4 pcount_of (spCountOf K 3)) : CalleeX P w K mg base "need_small" 26 pneed_small (spNeedSmallX K cB) := by
  refine D.okX scneed_small (fun vs H Q E h => ?_) (fun f cdv A outer s H vs Q E hr h => ?_)
  · obtain ⟨v, d, rfl, _⟩ := h
    rfl
  obtain ⟨v, d, rfl, hR, hh, h⟩ := h
  refine ⟨_, (pss_cons (ps_expr (pcallX C_need_program (takes_of rfl rfl rfl rfl) (hr.mono (by first | exact Nat.le_of_ble_eq_true rfl | omega)) rfl (pa_cons (pv 0) pa_nil)))
  (pss_one (ps_for (passes_of rfl) rfl (piTup (K := K) (pv 0)) (pgTup (K := K) (by rfl) (pgs_cons (pg_name (i := 1) scneed_small.nd rfl (Or.inl rfl)) (pgs_cons (pg_name (i := 2) scneed_small.nd rfl (Or.inl rfl)) (pgs_cons (pg_name (i := 3) scneed_small.nd rfl (Or.inl rfl)) pgs_nil))))
   (pss_one (ps_if (PW.pt (pw_or (pt_cmpR op_gt (pv 2) (pe_glob (v := .int 10) rfl T.MOST_OWNS_HERE ⟨_, rfl⟩) (nomark _)) (pw_or1 (pt_cmpR op_gt (pcall C_count_of (hr.mono (by first | exact Nat.le_of_ble_eq_true rfl | omega)) rfl (pa_cons (pv 3) pa_nil)) (pe_glob (v := .int 20) rfl T.MOST_STEPS_HERE ⟨_, rfl⟩) (nomark _))))) (pss_one (psRaise (K := K) (mg := mg) E_BadProgram (takes_of rfl rfl rfl rfl) rfl)) pss_nil))))), ?_⟩
  walk_at "rd"
  refine r_callS ?_
  walk_at "rd"
  rcases h with ⟨no, qe⟩ | ⟨PP, mm, rfl, gd, m1, ti, ok, q⟩
  · exact ask ⟨v, d, rfl, hR, hh, fun ok => absurd ok no, fun _ H1 k1 => qe H1 k1⟩
  refine ask ⟨v, _, rfl, hR, hh, fun _ H1 k1 => ?_, fun no => absurd ok no⟩
  obtain ⟨a, xs, rfl, hT, hl, hat⟩ := encP_at hR
  have hT1 := (keep_ts0 k1).sqT hT
  walk_at "rd"
  refine forT (xs := xs) (fun j σ H' => ∃ x1 x2 x3 : Option V, σ = [some (.ref a), x1, x2, x3] ∧ Keep [] H H') ⟨_, _, _, rfl, k1⟩ (fun j σ H' _ hp => ?_) (fun j x σ H2 hx hp => ?_) (fun σ H' hp => ?_)
  · obtain ⟨x1, x2, x3, rfl, k⟩ := hp
    exact (keep_ts0 k).sqT hT
  · obtain ⟨x1, x2, x3, rfl, k⟩ := hp
    have hi : j < PP.length := by rw [← hl]; exact (List.getElem?_eq_some_iff.mp hx).1
    have ep : PP[j]? = some PP[j] := List.getElem?_eq_getElem hi
    obtain ⟨wp, vb, ap, hWk, hb⟩ := hat j PP[j] ep
    have ex : x = .ref wp := by
      have := atI_nat hx
      rw [ap] at this
      exact (Option.some.inj this).symm
    subst ex
    have hW2 := (keep_ts0 k).sqT hWk
    have tj := ti _ (List.getElem_mem hi)
    walk_at "rd"
    refine r_or ?_
    walk_at "rd"
    rw [if_neg (by rw [decide_eq_false (by omega)]; exact Bool.false_ne_true)]
    walk_at "rd"
    refine ask ⟨vb, shapes PP, j, 2, PP[j].body, rfl, hb.ts (keep_ts0 k), gd.body j _ ep, by decide, ?_⟩
    walk_at "rd"
    rw [if_neg (by rw [decide_eq_false (by omega)]; exact Bool.false_ne_true)]
    walk_at "rd"
    exact ⟨_, _, _, rfl, k⟩
  · obtain ⟨x1, x2, x3, rfl, k⟩ := hp
    exact q _ k
noncomputable def spRefW (K : PySem.W.Frag) (cB cW : Addr) : Sp := fun vs H Q E => ∃ (v u : V) (d : PyData) (W : List (List Str)), vs = [v, u] ∧ Rp K H u (encW W) ∧ Refd K cB cW H v d W E
noncomputable def spRefC (K : PySem.W.Frag) (cB cW : Addr) : Sp := fun vs H Q E => ∃ (v u c : V) (d : PyData) (W : List (List Str)), vs = [v, u, c] ∧ Rp K H u (encW W) ∧ Refd K cB cW H v d W E
noncomputable def spRefP (K : PySem.W.Frag) (cB cW : Addr) : Sp := fun vs H Q E => ∃ (v u1 u2 : V) (d : PyData) (W1 W2 : List (List Str)), vs = [v, u1, u2] ∧ Rp K H u1 (encW W1) ∧ Rp K H u2 (encW W2) ∧ Refd K cB cW H v d W2 E
noncomputable def spRef0 (K : PySem.W.Frag) (cB : Addr) : Sp := fun vs H Q E => ∃ (v : V) (d : PyData), vs = [v] ∧ Rp K H v d ∧ Hh d ∧ ¬ OkProg d ∧ ∀ H', Keep [] H H' → E (.ref cB) none H'
/-- need_ways told so -/
theorem need_refd {cB cW : Addr} {H : Hp} {v u : V} {d : PyData} {W : List (List Str)} {Q : VK} {E : XK} (hU : Rp K H u (encW W)) (r : Refd K cB cW H v d W E) : spNeedWaysX K cB cW [v, u] H Q E := by
  obtain ⟨hR, hh, h⟩ := r
  rcases h with ⟨no, qe⟩ | ⟨PP, mm, rfl, _, _, _, ok, bad, qe⟩
  · exact ⟨v, u, d, W, rfl, hR, hh, hU, fun ws _ ok => absurd ok no, fun ws _ ok => absurd ok no, fun _ => qe⟩
  · exact ⟨v, u, _, W, rfl, hR, hh, hU, fun ws e _ good => absurd good (bad ws e), fun ws e _ _ => qe, fun no => absurd ok no⟩
noncomputable abbrev smay_set : Stmt := top 83
noncomputable abbrev nmay_set : List Str := ["program", "ways", "told", "at", "params", "owns", "body", "marks"]
noncomputable abbrev pmay_set : List Str := ["program", "ways"]
theorem scmay_set : FnScope nmay_set pmay_set (defScope smay_set) := ⟨rfl, rfl, rfl, by decide +kernel, rfl, by decide +kernel, by decide +kernel⟩
noncomputable abbrev splaced : Stmt := top 59
noncomputable abbrev nplaced : List Str := ["program", "ways", "rows", "row", "way"]
noncomputable abbrev pplaced : List Str := ["program", "ways"]
theorem scplaced : FnScope nplaced pplaced (defScope splaced) := ⟨rfl, rfl, rfl, by decide +kernel, rfl, by decide +kernel, by decide +kernel⟩
noncomputable abbrev swanted : Stmt := top 60
noncomputable abbrev nwanted : List Str := ["program", "ways", "row"]
noncomputable abbrev pwanted : List Str := ["program", "ways"]
theorem scwanted : FnScope nwanted pwanted (defScope swanted) := ⟨rfl, rfl, rfl, by decide +kernel, rfl, by decide +kernel, by decide +kernel⟩
noncomputable abbrev sclasses : Stmt := top 49
noncomputable abbrev nclasses : List Str := ["program", "groups", "ways", "told", "work", "cells"]
noncomputable abbrev pclasses : List Str := ["program"]
theorem scclasses : FnScope nclasses pclasses (defScope sclasses) := ⟨rfl, rfl, rfl, by decide +kernel, rfl, by decide +kernel, by decide +kernel⟩
theorem okMixedR {cB cW : Addr} (D : DefAt K mg "mixed" smixed pmixed) (C_need_ways : CalleeX P w K mg base "need_ways" 26 pneed_ways (spNeedWaysX K cB cW)) : CalleeX P w K mg base "mixed" 27 pmixed (spRefW K cB cW) := by
  refine D.okX scmixed (fun vs H Q E h => ?_) (fun f cdv A outer s H vs Q E hr h => ?_)
  · obtain ⟨v, u, d, W, rfl, _⟩ := h
    rfl
  obtain ⟨v, u, d, W, rfl, hU, r⟩ := h
  refine ⟨_, (pss_cons (ps_expr (pcallX C_need_ways (takes_of rfl rfl rfl rfl) (hr.mono (by first | exact Nat.le_of_ble_eq_true rfl | omega)) rfl (pa_cons (pv 0) (pa_cons (pv 1) pa_nil))))
  pss_never), ?_⟩
  walk_at "rd"
  refine r_callS ?_
  walk_at "rd"
  exact ask (need_refd hU r)
theorem okMaySetR {cB cW : Addr} (D : DefAt K mg "may_set" smay_set pmay_set) (C_need_ways : CalleeX P w K mg base "need_ways" 26 pneed_ways (spNeedWaysX K cB cW)) : CalleeX P w K mg base "may_set" 27 pmay_set (spRefW K cB cW) := by
  refine D.okX scmay_set (fun vs H Q E h => ?_) (fun f cdv A outer s H vs Q E hr h => ?_)
  · obtain ⟨v, u, d, W, rfl, _⟩ := h
    rfl
  obtain ⟨v, u, d, W, rfl, hU, r⟩ := h
  refine ⟨_, (pss_cons (ps_expr (pcallX C_need_ways (takes_of rfl rfl rfl rfl) (hr.mono (by first | exact Nat.le_of_ble_eq_true rfl | omega)) rfl (pa_cons (pv 0) (pa_cons (pv 1) pa_nil))))
  pss_never), ?_⟩
  walk_at "rd"
  refine r_callS ?_
  walk_at "rd"
  exact ask (need_refd hU r)
theorem okRanR {cB cW : Addr} (D : DefAt K mg "ran" sran pran) (C_need_ways : CalleeX P w K mg base "need_ways" 26 pneed_ways (spNeedWaysX K cB cW)) : CalleeX P w K mg base "ran" 27 pran (spRefC K cB cW) := by
  refine D.okX scran (fun vs H Q E h => ?_) (fun f cdv A outer s H vs Q E hr h => ?_)
  · obtain ⟨v, u, c, d, W, rfl, _⟩ := h
    rfl
  obtain ⟨v, u, c, d, W, rfl, hU, r⟩ := h
  refine ⟨_, (pss_cons (ps_expr (pcallX C_need_ways (takes_of rfl rfl rfl rfl) (hr.mono (by first | exact Nat.le_of_ble_eq_true rfl | omega)) rfl (pa_cons (pv 0) (pa_cons (pv 1) pa_nil))))
  pss_never), ?_⟩
  walk_at "rd"
  refine r_callS ?_
  walk_at "rd"
  exact ask (need_refd hU r)
theorem okClassesR {cB : Addr} (D : DefAt K mg "classes" sclasses pclasses) (C_need_program : CalleeX P w K mg base "need_program" 25 pneed_program (spNeedProgramX K cB)) : CalleeX P w K mg base "classes" 26 pclasses (spRef0 K cB) := by
  refine D.okX scclasses (fun vs H Q E h => ?_) (fun f cdv A outer s H vs Q E hr h => ?_)
  · obtain ⟨v, d, rfl, _⟩ := h
    rfl
  obtain ⟨v, d, rfl, hR, hh, no, qe⟩ := h
  refine ⟨_, (pss_cons (ps_expr (pcallX C_need_program (takes_of rfl rfl rfl rfl) (hr.mono (by first | exact Nat.le_of_ble_eq_true rfl | omega)) rfl (pa_cons (pv 0) pa_nil)))
  pss_never), ?_⟩
  walk_at "rd"
  refine r_callS ?_
  walk_at "rd"
  exact ask ⟨v, d, rfl, hR, hh, fun ok => absurd ok no, fun _ => qe⟩
theorem okPartedR {cB cW : Addr} (D : DefAt K mg "parted" sparted pparted) (C_need_ways : CalleeX P w K mg base "need_ways" 26 pneed_ways (spNeedWaysX K cB cW)) : CalleeX P w K mg base "parted" 27 pparted (spRefP K cB cW) := by
  refine D.okX scparted (fun vs H Q E h => ?_) (fun f cdv A outer s H vs Q E hr h => ?_)
  · obtain ⟨v, u1, u2, d, W1, W2, rfl, _⟩ := h
    rfl
  obtain ⟨v, u1, u2, d, W1, W2, rfl, hU1, hU2, r⟩ := h
  refine ⟨_, (pss_cons (ps_expr (pcallX C_need_ways (takes_of rfl rfl rfl rfl) (hr.mono (by first | exact Nat.le_of_ble_eq_true rfl | omega)) rfl (pa_cons (pv 0) (pa_cons (pv 1) pa_nil))))
  (pss_cons (ps_expr (pcallX C_need_ways (takes_of rfl rfl rfl rfl) (hr.mono (by first | exact Nat.le_of_ble_eq_true rfl | omega)) rfl (pa_cons (pv 0) (pa_cons (pv 2) pa_nil))))
  pss_never)), ?_⟩
  walk_at "rd"
  refine r_callS ?_
  walk_at "rd"
  obtain ⟨hR, hh, h⟩ := id r
  refine ask ⟨v, u1, d, W1, rfl, hR, hh, hU1, fun ws _ ok _ H1 k1 => ?_, fun ws _ ok _ => ?_, fun no => ?_⟩
  · walk_at "rd"
    refine r_callS ?_
    walk_at "rd"
    refine ask (need_refd (d := d) (hU2.ts (keep_ts0 k1)) ⟨hR.ts (keep_ts0 k1), hh, ?_⟩)
    rcases h with ⟨no, qe⟩ | ⟨PP, mm, e, gd, m1, ti, ok, bad, qe⟩
    · exact absurd ok no
    · exact .inr ⟨PP, mm, e, gd, m1, ti, ok, bad, fun H' k => qe H' (k1.trans k)⟩
  · rcases h with ⟨no, qe⟩ | ⟨PP, mm, e, gd, m1, ti, ok, bad, qe⟩
    · exact absurd ok no
    · exact qe
  · rcases h with ⟨no, qe⟩ | ⟨PP, mm, e, gd, m1, ti, ok, bad, qe⟩
    · exact qe
    · exact absurd ok no
theorem okPlacedR {cB cW : Addr} (D : DefAt K mg "placed" splaced pplaced) (C_need_small : CalleeX P w K mg base "need_small" 26 pneed_small (spNeedSmallX K cB)) (C_need_ways : CalleeX P w K mg base "need_ways" 26 pneed_ways (spNeedWaysX K cB cW)) : CalleeX P w K mg base "placed" 27 pplaced (spRefW K cB cW) := by
  refine D.okX scplaced (fun vs H Q E h => ?_) (fun f cdv A outer s H vs Q E hr h => ?_)
  · obtain ⟨v, u, d, W, rfl, _⟩ := h
    rfl
  obtain ⟨v, u, d, W, rfl, hU, hR, hh, h⟩ := h
  refine ⟨_, (pss_cons (ps_expr (pcallX C_need_small (takes_of rfl rfl rfl rfl) (hr.mono (by first | exact Nat.le_of_ble_eq_true rfl | omega)) rfl (pa_cons (pv 0) pa_nil)))
  (pss_cons (ps_expr (pcallX C_need_ways (takes_of rfl rfl rfl rfl) (hr.mono (by first | exact Nat.le_of_ble_eq_true rfl | omega)) rfl (pa_cons (pv 0) (pa_cons (pv 1) pa_nil))))
  pss_never)), ?_⟩
  walk_at "rd"
  refine r_callS ?_
  walk_at "rd"
  rcases h with ⟨no, qe⟩ | ⟨PP, mm, e, gd, m1, ti, ok, bad, qe⟩
  · exact ask ⟨v, d, rfl, hR, hh, .inl ⟨no, qe⟩⟩
  refine ask ⟨v, d, rfl, hR, hh, .inr ⟨PP, mm, e, gd, m1, ti, ok, fun H1 k1 => ?_⟩⟩
  walk_at "rd"
  refine r_callS ?_
  walk_at "rd"
  exact ask (need_refd (d := d) (hU.ts (keep_ts0 k1)) ⟨hR.ts (keep_ts0 k1), hh, .inr ⟨PP, mm, e, gd, m1, ti, ok, bad, fun H' k => qe H' (k1.trans k)⟩⟩)
theorem okWantedR {cB cW : Addr} (D : DefAt K mg "wanted" swanted pwanted) (C_need_small : CalleeX P w K mg base "need_small" 26 pneed_small (spNeedSmallX K cB)) (C_need_ways : CalleeX P w K mg base "need_ways" 26 pneed_ways (spNeedWaysX K cB cW)) : CalleeX P w K mg base "wanted" 27 pwanted (spRefW K cB cW) := by
  refine D.okX scwanted (fun vs H Q E h => ?_) (fun f cdv A outer s H vs Q E hr h => ?_)
  · obtain ⟨v, u, d, W, rfl, _⟩ := h
    rfl
  obtain ⟨v, u, d, W, rfl, hU, hR, hh, h⟩ := h
  refine ⟨_, (pss_cons (ps_expr (pcallX C_need_small (takes_of rfl rfl rfl rfl) (hr.mono (by first | exact Nat.le_of_ble_eq_true rfl | omega)) rfl (pa_cons (pv 0) pa_nil)))
  (pss_cons (ps_expr (pcallX C_need_ways (takes_of rfl rfl rfl rfl) (hr.mono (by first | exact Nat.le_of_ble_eq_true rfl | omega)) rfl (pa_cons (pv 0) (pa_cons (pv 1) pa_nil))))
  pss_never)), ?_⟩
  walk_at "rd"
  refine r_callS ?_
  walk_at "rd"
  rcases h with ⟨no, qe⟩ | ⟨PP, mm, e, gd, m1, ti, ok, bad, qe⟩
  · exact ask ⟨v, d, rfl, hR, hh, .inl ⟨no, qe⟩⟩
  refine ask ⟨v, d, rfl, hR, hh, .inr ⟨PP, mm, e, gd, m1, ti, ok, fun H1 k1 => ?_⟩⟩
  walk_at "rd"
  refine r_callS ?_
  walk_at "rd"
  exact ask (need_refd (d := d) (hU.ts (keep_ts0 k1)) ⟨hR.ts (keep_ts0 k1), hh, .inr ⟨PP, mm, e, gd, m1, ti, ok, bad, fun H' k => qe H' (k1.trans k)⟩⟩)
end
end
section
section
/-- the odd ways of the law -/
noncomputable def OddW (W : List (List Str)) (a : Nat) (B : List (List Str)) : Prop := B = W ++ [[]] ∨ B = W.take (W.length - 1) ∨ B = W.take a ++ [W.getD a [] ++ [("copy" : Str)]] ++ W.drop (a + 1) ∨ B = W.take a ++ [(W.getD a []).drop 1 ++ [("Copy" : Str)]] ++ W.drop (a + 1)
theorem put_at {W : List (List Str)} {a : Nat} {r : List Str} (h : a < W.length) : (W.take a ++ [r] ++ W.drop (a + 1))[a]? = some r := by
  rw [List.append_assoc, List.getElem?_append_right (by rw [List.length_take]; omega), List.length_take, Nat.min_eq_left (by omega), Nat.sub_self]
  rfl
theorem odd_bad {sh : List (Nat × Nat)} {W B : List (List Str)} {a : Nat} (hl : W.length = sh.length) (h1 : 1 ≤ W.length) (hr : ∀ (i : Nat) (r : List Str), W[i]? = some r → r.length = (shOf sh i).1) (ha : a < W.length) (o : OddW W a B) : ¬ OkW sh B := by
  intro ok
  have ea : W[a]? = some (W.getD a []) := by
    rw [List.getD_eq_getElem?_getD, List.getElem?_eq_getElem ha]
    rfl
  rcases o with rfl | rfl | rfl | rfl
  · have := ok.1
    rw [List.length_append] at this
    simp at this
    omega
  · have := ok.1
    rw [List.length_take] at this
    omega
  · have := (ok.2 a _ (put_at ha)).1
    rw [List.length_append, hr a _ ea] at this
    simp at this
  · have := (ok.2 a _ (put_at ha)).2 "Copy" (by simp)
    exact absurd this (by decide +kernel)
/-- what is drawn, with ways of it: told so for spLawWorks -/
theorem bad_of {cP cW : Addr} {PP : List Wk} {mm : Nat} {W B : List (List Str)} {a : Nat} (gd : Good PP mm) (m1 : mm ≤ 100) (ti : Tiny PP) (wl : W.length = PP.length) (wr : ∀ (i : Nat) (wk : Wk) (r : List Str), PP[i]? = some wk → W[i]? = some r → r.length = wk.params) (ha : a < W.length) (o : OddW W a B) :
    (∃ (PP' : List Wk) (mm : Nat), encP PP = encP PP' ∧ Good PP' mm ∧ mm ≤ 100 ∧ Tiny PP' ∧ OkProg (encP PP) ∧ (∀ ws, encP PP = .tuple ws → ¬ OkW (shD ws) B)) := by
  refine ⟨PP, mm, rfl, gd, m1, ti, ok_prog gd m1, fun ws e => ?_⟩
  cases e
  have hs : shD (PP.map Wk.enc) = shapes PP := shD_enc
  rw [hs]
  have ls : (shapes PP).length = PP.length := by unfold shapes; rw [List.length_map]
  have := gd.one
  refine odd_bad (by omega) (by omega) (fun i r er => ?_) ha o
  have hi : i < PP.length := by
    have := (List.getElem?_eq_some_iff.mp er).1
    omega
  have ep := List.getElem?_eq_getElem hi
  rw [wr i _ r ep er]
  unfold shOf shapes
  rw [List.getD_eq_getElem?_getD, List.getElem?_map, ep]
  rfl
end
end
section
section
variable {P : Program} {w : World} {K : PySem.W.Frag} {mg : Str → Option Value} {base : Heap}
theorem ok5_sm {PP : List Wk} (gd : Ok5 PP) : Sm (shapes PP) := by
  have at_ : ∀ j, (∃ wk, wk ∈ PP ∧ (shapes PP).getD j (0, 0) = (wk.params, wk.owns)) ∨ (shapes PP).getD j (0, 0) = (0, 0) := fun j => by
    rw [List.getD_eq_getElem?_getD]
    unfold shapes
    rw [List.getElem?_map]
    cases e : PP[j]? with
    | none => exact .inr rfl
    | some wk => exact .inl ⟨wk, List.mem_of_getElem? e, rfl⟩
  refine ⟨fun j => ?_, fun j => ?_, ?_⟩
  · rcases at_ j with ⟨wk, h, e⟩ | e
    · rw [e]; exact gd.params wk h
    · rw [e]; exact Nat.zero_le _
  · rcases at_ j with ⟨wk, h, e⟩ | e
    · rw [e]; have := gd.owns wk h; show wk.owns < 100; omega
    · rw [e]; decide
  · have := gd.few
    unfold shapes
    rw [List.length_map]
    omega
theorem ok5_lines {PP : List Wk} (gd : Ok5 PP) : ∀ wk ∈ PP, wk.words.length ≤ 15002 ∧ ∀ x ∈ wk.words, Neat x := fun wk hw => by
  obtain ⟨i, hi⟩ := List.mem_iff_getElem?.mp hw
  have sm := ok5_sm gd
  have ok := gd.body i wk hi
  have := gd.params wk hw
  have := gd.owns wk hw
  have h1 := sts_words sm ok
  have h2 := gd.many wk hw
  refine ⟨?_, wk_neat (by omega) (by omega) (sts_low sm ok)⟩
  unfold Wk.words
  rw [List.length_append]
  show 2 + wk.body.words.length ≤ _
  omega
theorem text_fits5 {PP : List Wk} (gd : Ok5 PP) : ((PP.map Wk.line).map (·.length)).sum + (PP.map Wk.line).length * 1 ≤ 400000 := by
  have h : ∀ x ∈ PP.map Wk.line, x.length ≤ 80000 := fun x hx => by
    obtain ⟨wk, hw, rfl⟩ := List.mem_map.mp hx
    obtain ⟨a, b⟩ := ok5_lines gd wk hw
    exact (line_len b a).2
  have a := sum_le h
  have b := gd.few
  rw [List.length_map] at a ⊢
  omega
noncomputable def spWorkWords5 (K : PySem.W.Frag) : Sp := fun vs H Q _ => ∃ (vb : V) (wp : Addr) (sh : List (Nat × Nat)) (i : Nat) (wk : Wk), vs = [.ref wp] ∧ SqT K H wp [.int (wk.params : Int), .int (wk.owns : Int), vb] ∧ Rp K H vb (.tuple wk.body.encs) ∧ Sts.ok sh i 5 wk.body ∧ Sm sh ∧ wk.body.many ≤ 100 ∧ wk.params ≤ 100 ∧ wk.owns ≤ 100 ∧
  ∀ (a : Addr) (H' : Hp), Keep [] H H' → H a = none → H' a = some (.lst (vws wk.words)) → Q (.ref a) H'
noncomputable def spWrittenX (K : PySem.W.Frag) (cB : Addr) : Sp := fun vs H Q E => ∃ (v : V) (d : PyData), vs = [v] ∧ Rp K H v d ∧ Hh d ∧ (OkProg d → ∀ z H', Keep [] H H' → Q z H') ∧ (¬ OkProg d → ∀ H', Keep [] H H' → E (.ref cB) none H')
theorem okWorkWords5 (D : DefAt K mg "work_words" swork_words pwork_words) (T : Blt mg) (C_body_words : Callee P w K mg base "body_words" 26 pbody_words (spBodyWords K 6)) : Callee P w K mg base "work_words" 27 pwork_words (spWorkWords5 K) := by
  refine D.ok scwork_words (fun vs H Q E h => ?_) (fun f cdv A outer s H vs Q E hr h => ?_)
  · obtain ⟨vb, wp, sh, i, wk, rfl, _⟩ := h
    rfl
  obtain ⟨vb, wp, sh, i, wk, rfl, hS, hb, ok, sm, m1, p1, o1, q⟩ := h
  refine ⟨_, (pss_cons (ps_asg (pv 0) (pgTup (K := K) (by rfl) (pgs_cons (pg_name (i := 1) scwork_words.nd rfl (Or.inl rfl)) (pgs_cons (pg_name (i := 2) scwork_words.nd rfl (Or.inl rfl)) (pgs_cons (pg_name (i := 3) scwork_words.nd rfl (Or.inl rfl)) pgs_nil)))))
  (pss_one (ps_ret (pe_op op_cat (pe_lst (pa_cons (pe_callTy cStr (by rfl) T.str (by decide +kernel) (pa_cons (pv 1) pa_nil)) (pa_cons (pe_callTy cStr (by rfl) T.str (by decide +kernel) (pa_cons (pv 2) pa_nil)) pa_nil))) (pcall C_body_words (hr.mono (by first | exact Nat.le_of_ble_eq_true rfl | omega)) rfl (pa_cons (pv 3) pa_nil)))))), ?_⟩
  have l1 := sts_words sm ok
  walk_at "rd"
  intro b H1 nb hb1 k1
  walk_at "rd"
  refine ask ⟨vb, wk.body, sh, i, 5, rfl, hb.ts (keep_ts0 k1), ok, sm, m1, by decide, fun c H2 k2 nc hc => ?_⟩
  have hb2 := k2 _ _ hb1 (by simp)
  walk_at "rd"
  refine cat_new hb2 hc (by rw [vws_len]; show 2 + _ ≤ _; omega) fun g H3 ng hg k3 => ?_
  exact q g H3 ((k1.trans k2).trans k3) (free0 (k1.trans k2) ng) hg
theorem okWrittenX {cB : Addr} (D : DefAt K mg "written" swritten pwritten) (C_need_program : CalleeX P w K mg base "need_program" 25 pneed_program (spNeedProgramX K cB)) (C_work_words : Callee P w K mg base "work_words" 27 pwork_words (spWorkWords5 K)) : CalleeX P w K mg base "written" 28 pwritten (spWrittenX K cB) := by
  refine D.okX scwritten (fun vs H Q E h => ?_) (fun f cdv A outer s H vs Q E hr h => ?_)
  · obtain ⟨v, d, rfl, _⟩ := h
    rfl
  obtain ⟨v, d, rfl, hR, hh, q, qe⟩ := h
  refine ⟨_, (pss_cons (ps_expr (pcallX C_need_program (takes_of rfl rfl rfl rfl) (hr.mono (by first | exact Nat.le_of_ble_eq_true rfl | omega)) rfl (pa_cons (pv 0) pa_nil)))
  (pss_one (ps_ret (peJoin (K := K) pe_str (pe_lc (own := [("work", 1)]) (g := gName 1) (by rfl) scwritten.nd (piTup (K := K) (pv 0)) (blkOk_by (own := [("work", 1)]) (N := nwritten) (sc := defScope swritten) (by decide +kernel)) (fun _ _ _ _ _ => (pg_name (i := 1) scwritten.nd rfl (Or.inl rfl))) (fun _ _ _ _ _ => pts_nil) (fun _ _ _ _ _ => (peJoin (K := K) pe_str (pcall C_work_words (hr.mono (by first | exact Nat.le_of_ble_eq_true rfl | omega)) rfl (pa_cons (pv 1) pa_nil))))))))), ?_⟩
  walk_at "rd"
  refine r_callS ?_
  walk_at "rd"
  refine ask ⟨v, d, rfl, hR, hh, fun ok H1 k1 => ?_, fun no H1 k1 => qe no H1 k1⟩
  have q2 := q ok
  obtain ⟨PP, rfl, gd⟩ := dec_prog ok
  obtain ⟨a, xs, rfl, hT, hl, hat⟩ := encP_at hR
  have sm := ok5_sm gd
  have few := gd.few
  have hT1 := (keep_ts0 k1).sqT hT
  walk_at "rd"
  refine lcT (xs := xs) (fun E i H' => H1 E = none ∧ Keep [] H1 H' ∧ H' E = some (.lst (vws ((PP.map Wk.line).take i)))) (fun E H2 nE e2 k2 => ⟨nE, k2, e2⟩) (fun E i H2 _ hp => (keep_ts0 hp.2.1).sqT hT1) (fun E i x H2 hx hp => ?_) (fun E H2 hp => ?_)
  · obtain ⟨nE, k2, h2⟩ := hp
    have hi : i < PP.length := by rw [← hl]; exact (List.getElem?_eq_some_iff.mp hx).1
    have ep := List.getElem?_eq_getElem hi
    obtain ⟨wp, vb, ap, sW, hb⟩ := hat i _ ep
    have ex : x = .ref wp := by
      have := atI_nat hx
      rw [ap] at this
      exact (Option.some.inj this).symm
    subst ex
    have k12 := k1.trans k2
    have pw := gd.params _ (List.getElem_mem hi)
    have ow := gd.owns _ (List.getElem_mem hi)
    obtain ⟨l1, l2⟩ := ok5_lines gd _ (List.getElem_mem hi)
    have l3 := (line_len l2 l1).1
    walk_at "rd"
    refine ⟨rfl, ?_⟩
    walk_at "rd"
    refine ask ⟨vb, wp, shapes PP, i, PP[i], rfl, (keep_ts0 k12).sqT sW, hb.ts (keep_ts0 k12), gd.body i _ ep, sm, gd.many _ (List.getElem_mem hi), by omega, by omega, fun c H3 k3 nc hc => ?_⟩
    have h23 := k3 _ _ h2 (by simp)
    have lt : (vws ((PP.map Wk.line).take i)).length ≤ 1000 := by rw [vws_len, List.length_take, List.length_map]; omega
    walk_at "rd"
    refine r_join (ys := PP[i].words) (.inl (SqL.of hc)) (Nat.le_trans l3 (by decide)) ?_
    walk_at "rd"
    intro H4 h4 k4
    refine ⟨nE, (k2.trans k3).fresh1 k4 nE, ?_⟩
    rw [List.take_succ, List.getElem?_map, ep, vws_app]
    exact h4
  · obtain ⟨nE, k2, h2⟩ := hp
    rw [List.take_of_length_le (by rw [List.length_map]; omega)] at h2
    walk_at "rd"
    refine r_join (ys := PP.map Wk.line) (.inl (SqL.of h2)) (Nat.le_trans (text_fits5 gd) (by decide)) ?_
    walk_at "rd"
    exact q2 _ _ (k1.trans k2)
end
end
section
section
variable {P : Program} {w : World} {K : PySem.W.Frag} {mg : Str → Option Value} {base : Heap}
/-- a class of exceptions, what isinstance tells of its instances -/
structure WdE (K : PySem.W.Frag) (C cH cP cW cC cT : Addr) (p y : Bool) : Prop where
  ec : ExcC K C
  exm : PySem.W.exmOne K (.ref C) (.ref cH) = some true
  ve : PySem.W.kitOne K (.ref C) (.type "ValueError") = some true
  isP : PySem.W.kitOne K (.ref C) (.ref cP) = some p
  isW : PySem.W.kitOne K (.ref C) (.ref cW) = some y
  isC : PySem.W.kitOne K (.ref C) (.ref cC) = some false
  isT : PySem.W.kitOne K (.ref C) (.ref cT) = some false
structure GlA (mg : Str → Option Value) (x : Str) (C : Addr) : Prop where
  g : mg x = some (.ref C)
noncomputable def spLawWord (P : Program) (w : World) (K : PySem.W.Frag) (mg : Str → Option Value) (base : Heap) (cP cW : Addr) : Sp := fun vs H Q _ => ∃ (f : Addr) (o : Option Addr), vs = [.ref f] ∧ LamDo P w K mg base 40 f H o ∧ (o = none ∨ o = some cP ∨ o = some cW) ∧
  (o = none → ∀ H', Keep [] H H' → Q .non H') ∧ (o = some cP → ∀ H', Keep [] H H' → Q (.str "program") H') ∧ (o = some cW → ∀ H', Keep [] H H' → Q (.str "ways") H')
theorem r_go {k i : Nat} {E : L2.St → XK} {P : Program} {w : World} {K : PySem.W.Frag} {mg : Str → Option Value} {base : Heap} {f : Addr} {o : Option Addr} {σ : L2.St} {H : Hp} {Q : VK} (hs : σ[i]? = some (some (.ref f))) (L : LamDo P w K mg base k f H o) (t : LamT o H Q (E σ)) : tGo k i E P w K mg base σ H Q := ⟨f, o, hs, L, t⟩
theorem r_idxB {p : Addr} {bs : List Bool} {j : Nat} {H : Hp} {Q : VK} (h : SqL K H p (bs.map V.bl)) (e : bs[j]? = some true) (n : ∀ m, m < j → bs[m]? = some false) (q : Q (.int (j : Nat)) H) : rIndex K (.ref p) [.bl true] H Q := by
  refine ⟨p, bs.map V.bl, .bl true, j, .bl true, rfl, rfl, h, rfl, List.all_eq_true.mpr fun x hx => ?_, by rw [List.getElem?_map, e] <;> rfl, rfl, fun m z hm ez => ?_, q⟩
  · obtain ⟨b, _, rfl⟩ := List.mem_map.mp hx
    rfl
  · rw [List.getElem?_map, n m hm] at ez
    cases ez
    rfl
noncomputable abbrev sL_word : Stmt := top 108
noncomputable abbrev nL_word : List Str := ["_law_work", "_law_kinds", "e"]
noncomputable abbrev pL_word : List Str := ["_law_work"]
theorem scL_word : FnScope nL_word pL_word (defScope sL_word) := ⟨rfl, rfl, rfl, by decide +kernel, rfl, by decide +kernel, by decide +kernel⟩
theorem okLawWord {cH cP cW cC cT : Addr} (D : DefAt K mg "_law_word" sL_word pL_word) (T : Blt mg) (T_ValueError : mg "ValueError" = none) (E_HandError : GlA mg "HandError" cH) (E_BadProgram : GlA mg "BadProgram" cP) (E_BadWays : GlA mg "BadWays" cW) (E_BadCells : GlA mg "BadCells" cC) (E_BadText : GlA mg "BadText" cT)
    (XP : WdE K cP cH cP cW cC cT true false) (XW : WdE K cW cH cP cW cC cT false true) : Callee P w K mg base "_law_word" 42 pL_word (spLawWord P w K mg base cP cW) := by
  refine D.ok scL_word (fun vs H Q E h => ?_) (fun f cdv A outer s H vs Q E hr h => ?_)
  · obtain ⟨f, o, rfl, _⟩ := h
    rfl
  obtain ⟨f, o, rfl, L, ho, q0, q1, q2⟩ := h
  refine ⟨_, (pss_cons (ps_try_as (i := 2) rfl rfl scL_word.nd rfl rfl ⟨rfl, by decide, .inl E_HandError.g⟩ takes0 (fun W pn xe tk po =>
  (pss_one (ps_expr (pe_go (P := P) (w := w) (K := K) (mg := mg) (base := base) (k := 40) (i := 0) tk (hr.mono (by first | exact Nat.le_of_ble_eq_true rfl | omega)) rfl (.inl rfl))))) (fun a oe cls d pn hz hf =>
  (pss_cons (ps_set (i := 1) scL_word.nd rfl (Or.inl rfl) (pe_lst (pa_cons (pe_callB (call_isE2 (K := K) hz hf) (by rfl) T.isinstance (by decide +kernel) (pa_cons (pv 2) (pa_cons (pe_glob (v := .ref _) rfl E_BadProgram.g rfl) pa_nil))) (pa_cons (pe_callB (call_isE2 (K := K) hz hf) (by rfl) T.isinstance (by decide +kernel) (pa_cons (pv 2) (pa_cons (pe_glob (v := .ref _) rfl E_BadWays.g rfl) pa_nil))) (pa_cons (pe_callB (call_isE2 (K := K) hz hf) (by rfl) T.isinstance (by decide +kernel) (pa_cons (pv 2) (pa_cons (pe_glob (v := .ref _) rfl E_BadCells.g rfl) pa_nil))) (pa_cons (pe_callB (call_isE2 (K := K) hz hf) (by rfl) T.isinstance (by decide +kernel) (pa_cons (pv 2) (pa_cons (pe_glob (v := .ref _) rfl E_BadText.g rfl) pa_nil))) pa_nil))))))
  (pss_cons (ps_if (PW.pt (pw_or (pt_cmpR op_ne (peCntB (K := K) (pv 1) pe_bl) pe_int (nomark _)) (pw_or1 (pt_not (pt_val (pe_callB (call_isE2 (K := K) hz hf) (by rfl) T.isinstance (by decide +kernel) (pa_cons (pv 2) (pa_cons (pe_bltn rfl T_ValueError (by decide +kernel) (v := .ty "ValueError") rfl) pa_nil)))))))) (pss_one (ps_ret pe_str)) pss_nil)
  (pss_one (ps_ret (pe_ix (ixL (K := K)) (pe_lst (pa_cons pe_str (pa_cons pe_str (pa_cons pe_str (pa_cons pe_str pa_nil))))) (peIdxB (K := K) (pv 1) pe_bl) (fun _ _ => rfl))))))))
  (pss_one (ps_ret pe_non))), ?_⟩
  walk_at "rd"
  rcases ho with rfl | rfl | rfl
  · refine r_go rfl L (fun v H1 k1 => ?_)
    walk_at "rd"
    exact q0 rfl _ k1
  · refine r_go rfl L (fun H1 k1 => ?_)
    refine was2 XP.exm fun a ha => ?_
    walk_at "rd"
    refine r_isER2 XP.ec (.inl rfl) XP.isP ?_
    walk_at "rd"
    refine r_isER2 XP.ec (.inl rfl) XP.isW ?_
    walk_at "rd"
    refine r_isER2 XP.ec (.inl rfl) XP.isC ?_
    walk_at "rd"
    refine r_isER2 XP.ec (.inl rfl) XP.isT ?_
    walk_at "rd"
    intro p2 H2 n2 h2 k2
    walk_at "rd"
    refine r_or ?_
    walk_at "rd"
    refine r_cntB (bs := [true, false, false, false]) (SqL.of h2) ?_
    walk_at "rd"
    refine r_isE2 XP.ec (.inl rfl) XP.ve ?_
    walk_at "rd"
    intro p3 H3 n3 h3 k3
    have h2' := k3 _ _ h2 (by simp)
    walk_at "rd"
    refine r_idxB (bs := [true, false, false, false]) (j := 0) (SqL.of h2') rfl (fun m z => ?_) ?_
    · omega
    walk_at "rd"
    exact q1 rfl _ ((k1.trans k2).trans k3)
  · refine r_go rfl L (fun H1 k1 => ?_)
    refine was2 XW.exm fun a ha => ?_
    walk_at "rd"
    refine r_isER2 XW.ec (.inl rfl) XW.isP ?_
    walk_at "rd"
    refine r_isER2 XW.ec (.inl rfl) XW.isW ?_
    walk_at "rd"
    refine r_isER2 XW.ec (.inl rfl) XW.isC ?_
    walk_at "rd"
    refine r_isER2 XW.ec (.inl rfl) XW.isT ?_
    walk_at "rd"
    intro p2 H2 n2 h2 k2
    walk_at "rd"
    refine r_or ?_
    walk_at "rd"
    refine r_cntB (bs := [false, true, false, false]) (SqL.of h2) ?_
    walk_at "rd"
    refine r_isE2 XW.ec (.inl rfl) XW.ve ?_
    walk_at "rd"
    intro p3 H3 n3 h3 k3
    have h2' := k3 _ _ h2 (by simp)
    walk_at "rd"
    refine r_idxB (bs := [false, true, false, false]) (j := 1) (SqL.of h2') rfl (fun m z => ?_) ?_
    · rw [show m = 0 by omega] <;> rfl
    walk_at "rd"
    exact q2 rfl _ ((k1.trans k2).trans k3)
end
end
end Hw
namespace Hw
open PySem PySem.Spec PyProof.Rows L2 LamX NdefX
local macro_rules | `(tactic| walk_at "sz") => `(tactic| first | exact Nat.le_of_ble_eq_true rfl | exact small (by first | omega | (simp; done) | (simp; omega)))
local macro_rules | `(tactic| walk_at "szT") => `(tactic| first | exact Nat.lt_of_lt_of_le (Nat.lt_succ_self _) (Nat.le_of_ble_eq_true rfl) | exact smallT (by first | omega | (simp; done) | (simp; omega)))
local macro_rules | `(tactic| walk_at "cond") => `(tactic| first | decide | omega | (dsimp only; omega) | exact ⟨by omega, by omega⟩ | exact .inr ⟨by decide, by decide⟩)
local macro_rules | `(tactic| walk_at "sq") => `(tactic| first | assumption | exact SqL.of (by assumption) | exact SqT.of (by assumption))
local macro_rules | `(tactic| walk_at "ty") => `(tactic| first | (with_reducible assumption) | exact .base (.int _) | exact .base (.str _) | exact .base (.bl _) | exact .base .non | exact tyT (by walk_at "sq") | exact tyL (by walk_at "sq"))
local macro_rules | `(tactic| walk_at "lk") => `(tactic| first | (with_reducible exact cell_number) | (with_reducible exact cell_loans) | (with_reducible exact frame_owns) | (with_reducible exact frame_handed) | (with_reducible exact frame_roads) | (with_reducible exact want_thing) | (with_reducible exact want_frame) | (with_reducible exact run_program) | (with_reducible exact run_ways) | (with_reducible exact run_commons) | (with_reducible exact run_said) | (with_reducible exact run_lent) | (with_reducible exact run_mixed))
local macro_rules | `(tactic| walk_at "rd") => `(tactic| repeat (first
  | ((with_reducible apply r_var); exact rfl)
  | ((with_reducible apply r_cons))
  | ((with_reducible apply r_c))
  | ((with_reducible apply r_op))
  | ((with_reducible apply r_nil))
  | ((with_reducible apply r_bl))
  | ((with_reducible apply r_seq))
  | ((with_reducible apply r_test))
  | ((with_reducible apply r_if))
  | ((with_reducible apply r_ixT); (walk_at "sq"); first | exact rfl | assumption)
  | ((with_reducible apply r_name))
  | ((with_reducible apply r_call))
  | ((fail_if_success (first | (with_reducible apply stopAsk) | (with_reducible intro _) | (with_reducible apply stopEx) | (with_reducible apply stopFor) | (with_reducible apply stopLc) | (with_reducible apply stopAnd) | (with_reducible apply stopOr))); first
  | ((with_reducible apply ite_t); (first | (with_reducible exact nRN) | (with_reducible exact nIN) | (with_reducible exact dNN) | decide +kernel))
    | ((with_reducible apply ite_f); (first | (with_reducible exact dRN) | (with_reducible exact dIN) | (with_reducible exact nNN) | decide +kernel))
    | ((with_reducible apply r_next))
    | ((with_reducible apply r_eq); exact rfl)
    | ((with_reducible apply new); (walk_at "sz"))
    | ((with_reducible apply r_ret))
    | ((with_reducible apply r_asg))
    | ((with_reducible apply r_cb))
    | ((with_reducible apply r_tup))
    | ((with_reducible apply r_B))
    | ((with_reducible apply r_I0))
    | ((with_reducible apply r_drop))
    | ((with_reducible apply r_isi); (walk_at "ty"); (decide +kernel))
    | ((with_reducible apply r_ixL); (walk_at "sq"); first | exact rfl | assumption)
    | ((with_reducible apply r_fld))
    | ((with_reducible apply r_fld1); assumption; assumption; assumption; (first | exact rfl | assumption))
    | ((with_reducible apply r_fld1); assumption; assumption; assumption; (walk_at "lk"))
    | ((with_reducible apply r_gcons))
    | ((with_reducible apply r_lst))
    | ((with_reducible apply r_not))
    | ((with_reducible apply r_for))
    | ((with_reducible apply r_isL); (walk_at "sq"))
    | ((with_reducible apply r_append))
    | ((with_reducible apply r_dgetS); assumption; (walk_at "dk"))
    | ((with_reducible apply r_app); assumption; (walk_at "szT"))
    | ((with_reducible apply r_dget))
    | ((with_reducible apply r_in); (first | exact .inl (by walk_at "sq") | exact .inr (by walk_at "sq")); exact rfl; (first | exact nums_flat | exact rfl))
    | ((with_reducible apply r_notN))
    | ((with_reducible apply r_ifE))
    | ((with_reducible apply r_sfld))
    | ((with_reducible apply r_sfld1); assumption; assumption; assumption; exact (by decide))
    | ((with_reducible apply r_sfld1); assumption; assumption; assumption; exact Nat.le_of_ble_eq_true rfl)
    | ((with_reducible apply r_lc))
    | ((with_reducible apply r_iTup))
    | ((with_reducible apply r_gtup); (walk_at "sq"); rfl)
    | ((with_reducible apply r_gnil))
    | ((with_reducible apply r_lenT); (walk_at "sq"))
    | ((with_reducible apply r_overT); (walk_at "sq"))
    | ((with_reducible apply r_I); (walk_at "cond"))
    | ((with_reducible apply acc); assumption; (walk_at "szT"))
    | ((with_reducible apply r_ne); exact rfl)
    | ((with_reducible apply r_tupL); (walk_at "sq"))
    | ((with_reducible apply r_isN))
    | ((with_reducible apply r_iRng1))
    | ((with_reducible apply r_rng); (first | decide | omega | (simp; omega)); (first | decide | omega | (simp; omega)))
    | ((with_reducible apply r_lenL); (walk_at "sq"))
    | ((with_reducible apply r_ixA); (first | exact .inl (by walk_at "sq") | exact .inr (by walk_at "sq")); first | exact rfl | assumption)
    | ((with_reducible apply r_isiT2); assumption; (walk_at "ty"); (decide +kernel); (decide +kernel))
    | ((with_reducible apply r_retN))
    | ((with_reducible apply r_int))
    | ((with_reducible apply r_intB))
    | ((with_reducible apply r_notV))
    | ((with_reducible apply r_andV))
    | ((with_reducible apply r_orV))
    | ((with_reducible apply r_chain))
    | ((with_reducible apply turn))
    | ((with_reducible apply r_iList))
    | ((with_reducible apply r_overL); (walk_at "sq"))
    | ((with_reducible apply r_sub))
    | ((with_reducible apply r_setL); assumption; exact rfl)
    | ((with_reducible apply r_par))
    | ((with_reducible apply r_par2))
    | ((with_reducible apply r_sl))
    | ((with_reducible apply r_part))
    | ((with_reducible apply r_part1))
    | ((with_reducible apply r_noPart))
    | ((with_reducible apply r_slL); (walk_at "sq"))
    | ((with_reducible apply r_slA); (walk_at "sq"))
    | ((with_reducible apply r_tupT); (walk_at "sq"))
    | ((with_reducible apply r_lstL); (walk_at "sq"))
    | ((with_reducible apply r_lstT); (walk_at "sq"))
    | ((with_reducible apply r_dput))
    | ((with_reducible apply r_dputS); assumption; (walk_at "szT"))
    | ((with_reducible apply r_disp))
    | ((with_reducible apply r_pnil))
    | ((with_reducible apply r_pcons))
    | ((with_reducible apply r_enumT))
    | ((with_reducible apply r_overE); (walk_at "sq"))
    | ((with_reducible apply r_zipA))
    | ((with_reducible apply r_zipT); (walk_at "sq"); (walk_at "sq"))
    | ((with_reducible apply r_zip3))
    | ((with_reducible apply r_overZ3); (walk_at "sq"); (walk_at "sq"); (walk_at "sq"))
    | ((with_reducible apply r_make))
    | ((with_reducible apply r_isiC); assumption; assumption; assumption)
    | ((with_reducible apply r_popM))
    | ((with_reducible apply r_pop); assumption)
    | ((with_reducible apply r_tru))
    | ((with_reducible apply r_truL); (walk_at "sq"))
    | ((with_reducible apply r_str); (first | omega | assumption))
    | ((with_reducible apply r_lenS); (first | assumption | omega))
    | ((with_reducible apply r_m1))
    | ((with_reducible apply r_isS))
    | ((with_reducible apply r_un))
    | ((with_reducible apply r_neg))
    | ((with_reducible apply r_inS))
    | ((with_reducible apply r_star))
    | ((with_reducible apply r_spread); (walk_at "sq"))
    | ((with_reducible apply r_revA))
    | ((with_reducible apply r_overV); (walk_at "sq"))
    | ((with_reducible apply r_enumL))
    | ((with_reducible apply r_overEL); (walk_at "sq"))
    | ((with_reducible apply r_revR))
    | ((with_reducible apply r_revOf); (first | omega | decide))
    | ((with_reducible apply r_zipT3))
    | ((with_reducible apply r_overZT3); (walk_at "sq"); (walk_at "sq"); (walk_at "sq"))
    | ((with_reducible apply r_rep1); assumption; (first | omega | (simp; omega)))
    | ((with_reducible apply r_lc2)))))
section
variable {P : Program} {w : World} {K : PySem.W.Frag} {mg : Str → Option Value} {base : Heap}
noncomputable def BadO (cP cW : Addr) (d : PyData) (W : List (List Str)) (o : Addr) : Prop := (¬ OkProg d ∧ o = cP) ∨ (∃ (PP : List Wk) (mm : Nat), d = encP PP ∧ Good PP mm ∧ mm ≤ 100 ∧ Tiny PP ∧ OkProg d ∧ (∀ ws, d = .tuple ws → ¬ OkW (shD ws) W) ∧ o = cW)
theorem BadO.refd {cP cW o : Addr} {d : PyData} {W : List (List Str)} {H : Hp} {v : V} {E : XK} (b : BadO cP cW d W o) (hR : Rp K H v d) (hh : Hh d) (h : ∀ H', Keep [] H H' → E (.ref o) none H') : Refd K cP cW H v d W E := by
  refine ⟨hR, hh, ?_⟩
  rcases b with ⟨no, rfl⟩ | ⟨PP, mm, e, gd, m1, ti, ok, bad, rfl⟩
  · exact .inl ⟨no, h⟩
  · exact .inr ⟨PP, mm, e, gd, m1, ti, ok, bad, h⟩
noncomputable def spLawWorks (P : Program) (w : World) (K : PySem.W.Frag) (mg : Str → Option Value) (base : Heap) (T : List (Addr × Str)) (cP cW : Addr) : Sp := fun vs H Q _ => ∃ (v u c : V) (d : PyData) (W : List (List Str)) (o : Addr), vs = [v, u, c] ∧ Tabs T H ∧ Rp K H v d ∧ Hh d ∧ Rp K H u (encW W) ∧ BadO cP cW d W o ∧
  ∀ (a : Addr) (fs : List Addr) (Hc : Hp), ExtN H Hc → Tabs T Hc → H a = none → Hc a = some (.lst (fs.map V.ref)) → fs.length = 7 → (∀ f ∈ fs, LamDo P w K mg base 40 f Hc (some o)) → Q (.ref a) Hc
noncomputable abbrev sL_works : Stmt := top 106
noncomputable abbrev nL_works : List Str := ["_law_program_here", "_law_ways_here", "_law_cells_here", "_law_works_here"]
noncomputable abbrev pL_works : List Str := ["_law_program_here", "_law_ways_here", "_law_cells_here"]
theorem scL_works : FnScope nL_works pL_works (defScope sL_works) := ⟨rfl, rfl, rfl, by decide +kernel, rfl, by decide +kernel, by decide +kernel⟩
theorem okLawWorks {T : List (Addr × Str)} {cP cW : Addr} (D : DefAt K mg "_law_works" sL_works pL_works) (TW : TabAt K mg base "_law_works" T) (C_need_ways : CalleeX P w K mg base "need_ways" 26 pneed_ways (spNeedWaysX K cP cW)) (C_parted : CalleeX P w K mg base "parted" 27 pparted (spRefP K cP cW)) (C_mixed : CalleeX P w K mg base "mixed" 27 pmixed (spRefW K cP cW))
    (C_may_set : CalleeX P w K mg base "may_set" 27 pmay_set (spRefW K cP cW)) (C_ran : CalleeX P w K mg base "ran" 27 pran (spRefC K cP cW)) (C_placed : CalleeX P w K mg base "placed" 27 pplaced (spRefW K cP cW)) (C_wanted : CalleeX P w K mg base "wanted" 27 pwanted (spRefW K cP cW)) : Callee P w K mg base "_law_works" 2 pL_works (spLawWorks P w K mg base T cP cW) := by
  refine def_okF D scL_works (fun vs H Q E h => ?_) (fun f cdv A outer s H vs Q E hr hm hl h => ?_)
  · obtain ⟨v, u, c, d, W, o, rfl, _⟩ := h
    rfl
  have LC := TW.ctx (sc := defScope sL_works) (n := s.heap.objs.size) hm hl
  obtain ⟨v, u, c, d, W, o, rfl, hT, hR, hh, hU, bad, q⟩ := h
  refine ⟨_, (psf_cons (ps_set (i := 3) scL_works.nd rfl (Or.inl rfl) (pe_lst (pa_cons (pe_lamE (LC _ rfl rfl rfl) (NdefX.ndef_free (sc := defScope sL_works) (fr := ["_law_program_here", "_law_ways_here"]) (by decide +kernel))) pa_nil)))
  (psf_cons (ps_expr (peApp (K := K) (pv 3) (pe_lamE (LC _ rfl rfl rfl) (NdefX.ndef_free (sc := defScope sL_works) (fr := ["_law_program_here", "_law_ways_here"]) (by decide +kernel)))))
  (psf_cons (ps_expr (peApp (K := K) (pv 3) (pe_lamE (LC _ rfl rfl rfl) (NdefX.ndef_free (sc := defScope sL_works) (fr := ["_law_program_here", "_law_ways_here"]) (by decide +kernel)))))
  (psf_cons (ps_expr (peApp (K := K) (pv 3) (pe_lamE (LC _ rfl rfl rfl) (NdefX.ndef_free (sc := defScope sL_works) (fr := ["_law_program_here", "_law_ways_here"]) (by decide +kernel)))))
  (psf_cons (ps_expr (peApp (K := K) (pv 3) (pe_lamE (LC _ rfl rfl rfl) (NdefX.ndef_free (sc := defScope sL_works) (fr := ["_law_program_here", "_law_ways_here", "_law_cells_here"]) (by decide +kernel)))))
  (psf_cons (ps_expr (peApp (K := K) (pv 3) (pe_lamE (LC _ rfl rfl rfl) (NdefX.ndef_free (sc := defScope sL_works) (fr := ["_law_program_here", "_law_ways_here"]) (by decide +kernel)))))
  (psf_cons (ps_expr (peApp (K := K) (pv 3) (pe_lamE (LC _ rfl rfl rfl) (NdefX.ndef_free (sc := defScope sL_works) (fr := ["_law_program_here", "_law_ways_here"]) (by decide +kernel)))))
  (psf_ret (pv 3))))))))), ?_⟩
  with_reducible refine r_seqF ?_
  walk_at "rd"
  refine r_lamE hT fun f1 H1 e1 T1 n1 nn1 L1 => ?_
  walk_at "rd"
  intro p H2 np hp2 k2
  walk_at "rd"
  have T2 := tabs_0 T1 k2
  have x2 := ext_0 e1 k2
  have pn := nn1 p np
  with_reducible refine r_seqF ?_
  walk_at "rd"
  refine r_lamE T2 fun f2 H3 e3 T3 n2 nn2 L2 => ?_
  have hp3 := e3 _ _ hp2 (fun _ z => nomatch z)
  walk_at "rd"
  intro H4 hp4 k4
  walk_at "rd"
  have T4 := tabs_1 T3 k4 hp3
  have x4 := ext_1 (x2.trans e3) k4 pn
  with_reducible refine r_seqF ?_
  walk_at "rd"
  refine r_lamE T4 fun f3 H5 e5 T5 n3 nn3 L3 => ?_
  have hp5 := e5 _ _ hp4 (fun _ z => nomatch z)
  walk_at "rd"
  intro H6 hp6 k6
  walk_at "rd"
  have T6 := tabs_1 T5 k6 hp5
  have x6 := ext_1 (x4.trans e5) k6 pn
  with_reducible refine r_seqF ?_
  walk_at "rd"
  refine r_lamE T6 fun f4 H7 e7 T7 n4 nn4 L4 => ?_
  have hp7 := e7 _ _ hp6 (fun _ z => nomatch z)
  walk_at "rd"
  intro H8 hp8 k8
  walk_at "rd"
  have T8 := tabs_1 T7 k8 hp7
  have x8 := ext_1 (x6.trans e7) k8 pn
  with_reducible refine r_seqF ?_
  walk_at "rd"
  refine r_lamE T8 fun f5 H9 e9 T9 n5 nn5 L5 => ?_
  have hp9 := e9 _ _ hp8 (fun _ z => nomatch z)
  walk_at "rd"
  intro H10 hp10 k10
  walk_at "rd"
  have T10 := tabs_1 T9 k10 hp9
  have x10 := ext_1 (x8.trans e9) k10 pn
  with_reducible refine r_seqF ?_
  walk_at "rd"
  refine r_lamE T10 fun f6 H11 e11 T11 n6 nn6 L6 => ?_
  have hp11 := e11 _ _ hp10 (fun _ z => nomatch z)
  walk_at "rd"
  intro H12 hp12 k12
  walk_at "rd"
  have T12 := tabs_1 T11 k12 hp11
  have x12 := ext_1 (x10.trans e11) k12 pn
  with_reducible refine r_seqF ?_
  walk_at "rd"
  refine r_lamE T12 fun f7 H13 e13 T13 n7 nn7 L7 => ?_
  have hp13 := e13 _ _ hp12 (fun _ z => nomatch z)
  walk_at "rd"
  intro H14 hp14 k14
  walk_at "rd"
  have T14 := tabs_1 T13 k14 hp13
  have x14 := ext_1 (x12.trans e13) k14 pn
  with_reducible refine r_retF ?_
  walk_at "rd"
  intro Hc sh
  have z14 : KeepE H14 Hc := ke_0 sh.1
  have z13 := (ke_1 k14 hp13).trans z14
  have z12 := (ke_ext e13).trans z13
  have z11 := (ke_1 k12 hp11).trans z12
  have z10 := (ke_ext e11).trans z11
  have z9 := (ke_1 k10 hp9).trans z10
  have z8 := (ke_ext e9).trans z9
  have z7 := (ke_1 k8 hp7).trans z8
  have z6 := (ke_ext e7).trans z7
  have z5 := (ke_1 k6 hp5).trans z6
  have z4 := (ke_ext e5).trans z5
  have z3 := (ke_1 k4 hp3).trans z4
  have z2 := (ke_ext e3).trans z3
  have z1 := (ke_0 k2).trans z2
  have z0 := (ke_ext e1).trans z1
  have hRc := hR.ts z0.ts
  have hUc := hU.ts z0.ts
  refine q p [f1, f2, f3, f4, f5, f6, f7] Hc (ext_0 x14 sh.1) (tabs_0 T14 sh.1) pn (sh.1 _ _ hp14 (by simp)) rfl (fun f hf => ?_)
  simp only [List.mem_cons, List.not_mem_nil, or_false] at hf
  rcases hf with rfl | rfl | rfl | rfl | rfl | rfl | rfl
  · have C := ice_lam L1 sh.2.2 ["_law_program_here", "_law_ways_here"] [0, 1] (nscope_by (by decide +kernel)) (by decide +kernel) rfl
    refine lam_do (k := 39) (nscope_by (by decide +kernel)) (fun _ _ _ => rfl) (z1.lam L1) C (fun A outer s1 Hx Qx Ex c' hr kw t => ?_)
    have hRx := (rp_wo C.ice hRc).ts (keep_ts0 kw)
    have hUx := (rp_wo C.ice hUc).ts (keep_ts0 kw)
    refine ⟨_, (pcallX C_need_ways (takes_of rfl rfl rfl rfl) (hr.mono (by first | exact Nat.le_of_ble_eq_true rfl | omega)) rfl (pa_cons (pv 0) (pa_cons (pv 1) pa_nil))), ?_⟩
    walk_at "rd"
    refine r_callS ?_
    walk_at "rd"
    exact ask (need_refd hUx (bad.refd hRx hh t))
  · have C := ice_lam L2 sh.2.2 ["_law_program_here", "_law_ways_here"] [0, 1] (nscope_by (by decide +kernel)) (by decide +kernel) rfl
    refine lam_do (k := 39) (nscope_by (by decide +kernel)) (fun _ _ _ => rfl) (z3.lam L2) C (fun A outer s1 Hx Qx Ex c' hr kw t => ?_)
    have hRx := (rp_wo C.ice hRc).ts (keep_ts0 kw)
    have hUx := (rp_wo C.ice hUc).ts (keep_ts0 kw)
    refine ⟨_, (pcallX C_parted (takes_of rfl rfl rfl rfl) (hr.mono (by first | exact Nat.le_of_ble_eq_true rfl | omega)) rfl (pa_cons (pv 0) (pa_cons (pv 1) (pa_cons (pv 1) pa_nil)))), ?_⟩
    walk_at "rd"
    refine r_callS ?_
    walk_at "rd"
    exact ask ⟨v, u, u, d, W, W, rfl, hUx, hUx, bad.refd hRx hh t⟩
  · have C := ice_lam L3 sh.2.2 ["_law_program_here", "_law_ways_here"] [0, 1] (nscope_by (by decide +kernel)) (by decide +kernel) rfl
    refine lam_do (k := 39) (nscope_by (by decide +kernel)) (fun _ _ _ => rfl) (z5.lam L3) C (fun A outer s1 Hx Qx Ex c' hr kw t => ?_)
    have hRx := (rp_wo C.ice hRc).ts (keep_ts0 kw)
    have hUx := (rp_wo C.ice hUc).ts (keep_ts0 kw)
    refine ⟨_, (pcallX C_mixed (takes_of rfl rfl rfl rfl) (hr.mono (by first | exact Nat.le_of_ble_eq_true rfl | omega)) rfl (pa_cons (pv 0) (pa_cons (pv 1) pa_nil))), ?_⟩
    walk_at "rd"
    refine r_callS ?_
    walk_at "rd"
    exact ask ⟨v, u, d, W, rfl, hUx, bad.refd hRx hh t⟩
  · have C := ice_lam L4 sh.2.2 ["_law_program_here", "_law_ways_here"] [0, 1] (nscope_by (by decide +kernel)) (by decide +kernel) rfl
    refine lam_do (k := 39) (nscope_by (by decide +kernel)) (fun _ _ _ => rfl) (z7.lam L4) C (fun A outer s1 Hx Qx Ex c' hr kw t => ?_)
    have hRx := (rp_wo C.ice hRc).ts (keep_ts0 kw)
    have hUx := (rp_wo C.ice hUc).ts (keep_ts0 kw)
    refine ⟨_, (pcallX C_may_set (takes_of rfl rfl rfl rfl) (hr.mono (by first | exact Nat.le_of_ble_eq_true rfl | omega)) rfl (pa_cons (pv 0) (pa_cons (pv 1) pa_nil))), ?_⟩
    walk_at "rd"
    refine r_callS ?_
    walk_at "rd"
    exact ask ⟨v, u, d, W, rfl, hUx, bad.refd hRx hh t⟩
  · have C := ice_lam L5 sh.2.2 ["_law_program_here", "_law_ways_here", "_law_cells_here"] [0, 1, 2] (nscope_by (by decide +kernel)) (by decide +kernel) rfl
    refine lam_do (k := 39) (nscope_by (by decide +kernel)) (fun _ _ _ => rfl) (z9.lam L5) C (fun A outer s1 Hx Qx Ex c' hr kw t => ?_)
    have hRx := (rp_wo C.ice hRc).ts (keep_ts0 kw)
    have hUx := (rp_wo C.ice hUc).ts (keep_ts0 kw)
    refine ⟨_, (pcallX C_ran (takes_of rfl rfl rfl rfl) (hr.mono (by first | exact Nat.le_of_ble_eq_true rfl | omega)) rfl (pa_cons (pv 0) (pa_cons (pv 1) (pa_cons (pv 2) pa_nil)))), ?_⟩
    walk_at "rd"
    refine r_callS ?_
    walk_at "rd"
    exact ask ⟨v, u, c, d, W, rfl, hUx, bad.refd hRx hh t⟩
  · have C := ice_lam L6 sh.2.2 ["_law_program_here", "_law_ways_here"] [0, 1] (nscope_by (by decide +kernel)) (by decide +kernel) rfl
    refine lam_do (k := 39) (nscope_by (by decide +kernel)) (fun _ _ _ => rfl) (z11.lam L6) C (fun A outer s1 Hx Qx Ex c' hr kw t => ?_)
    have hRx := (rp_wo C.ice hRc).ts (keep_ts0 kw)
    have hUx := (rp_wo C.ice hUc).ts (keep_ts0 kw)
    refine ⟨_, (pcallX C_placed (takes_of rfl rfl rfl rfl) (hr.mono (by first | exact Nat.le_of_ble_eq_true rfl | omega)) rfl (pa_cons (pv 0) (pa_cons (pv 1) pa_nil))), ?_⟩
    walk_at "rd"
    refine r_callS ?_
    walk_at "rd"
    exact ask ⟨v, u, d, W, rfl, hUx, bad.refd hRx hh t⟩
  · have C := ice_lam L7 sh.2.2 ["_law_program_here", "_law_ways_here"] [0, 1] (nscope_by (by decide +kernel)) (by decide +kernel) rfl
    refine lam_do (k := 39) (nscope_by (by decide +kernel)) (fun _ _ _ => rfl) (z13.lam L7) C (fun A outer s1 Hx Qx Ex c' hr kw t => ?_)
    have hRx := (rp_wo C.ice hRc).ts (keep_ts0 kw)
    have hUx := (rp_wo C.ice hUc).ts (keep_ts0 kw)
    refine ⟨_, (pcallX C_wanted (takes_of rfl rfl rfl rfl) (hr.mono (by first | exact Nat.le_of_ble_eq_true rfl | omega)) rfl (pa_cons (pv 0) (pa_cons (pv 1) pa_nil))), ?_⟩
    walk_at "rd"
    refine r_callS ?_
    walk_at "rd"
    exact ask ⟨v, u, d, W, rfl, hUx, bad.refd hRx hh t⟩
noncomputable def spLawOthers (P : Program) (w : World) (K : PySem.W.Frag) (mg : Str → Option Value) (base : Heap) (T : List (Addr × Str)) (cP : Addr) : Sp := fun vs H Q _ => ∃ (v : V) (d : PyData), vs = [v] ∧ Tabs T H ∧ Rp K H v d ∧ Hh d ∧
  ∀ (a : Addr) (f1 f2 f3 : Addr) (Hc : Hp), ExtN H Hc → Tabs T Hc → H a = none → Hc a = some (.lst [.ref f1, .ref f2, .ref f3]) → (OkProg d → LamDo P w K mg base 40 f1 Hc none ∧ LamDo P w K mg base 40 f2 Hc none) → (¬ OkProg d → ∀ f ∈ [f1, f2, f3], LamDo P w K mg base 40 f Hc (some cP)) → Q (.ref a) Hc
noncomputable abbrev sL_others : Stmt := top 107
noncomputable abbrev nL_others : List Str := ["_law_program_here", "_law_works_here"]
noncomputable abbrev pL_others : List Str := ["_law_program_here"]
theorem scL_others : FnScope nL_others pL_others (defScope sL_others) := ⟨rfl, rfl, rfl, by decide +kernel, rfl, by decide +kernel, by decide +kernel⟩
theorem okLawOthers {T : List (Addr × Str)} {cP : Addr} (D : DefAt K mg "_law_others" sL_others pL_others) (TW : TabAt K mg base "_law_others" T) (C_need_program : CalleeX P w K mg base "need_program" 25 pneed_program (spNeedProgramX K cP)) (C_written : CalleeX P w K mg base "written" 28 pwritten (spWrittenX K cP)) (C_classes : CalleeX P w K mg base "classes" 26 pclasses (spRef0 K cP)) : Callee P w K mg base "_law_others" 2 pL_others (spLawOthers P w K mg base T cP) := by
  refine def_okF D scL_others (fun vs H Q E h => ?_) (fun f cdv A outer s H vs Q E hr hm hl h => ?_)
  · obtain ⟨v, d, rfl, _⟩ := h
    rfl
  have LC := TW.ctx (sc := defScope sL_others) (n := s.heap.objs.size) hm hl
  obtain ⟨v, d, rfl, hT, hR, hh, q⟩ := h
  refine ⟨_, (psf_cons (ps_set (i := 1) scL_others.nd rfl (Or.inl rfl) (pe_lst (pa_cons (pe_lamE (LC _ rfl rfl rfl) (NdefX.ndef_free (sc := defScope sL_others) (fr := ["_law_program_here"]) (by decide +kernel))) pa_nil)))
  (psf_cons (ps_expr (peApp (K := K) (pv 1) (pe_lamE (LC _ rfl rfl rfl) (NdefX.ndef_free (sc := defScope sL_others) (fr := ["_law_program_here"]) (by decide +kernel)))))
  (psf_cons (ps_expr (peApp (K := K) (pv 1) (pe_lamE (LC _ rfl rfl rfl) (NdefX.ndef_free (sc := defScope sL_others) (fr := ["_law_program_here"]) (by decide +kernel)))))
  (psf_ret (pv 1))))), ?_⟩
  with_reducible refine r_seqF ?_
  walk_at "rd"
  refine r_lamE hT fun f1 H1 e1 T1 n1 nn1 L1 => ?_
  walk_at "rd"
  intro p H2 np hp2 k2
  walk_at "rd"
  have T2 := tabs_0 T1 k2
  have x2 := ext_0 e1 k2
  have pn := nn1 p np
  with_reducible refine r_seqF ?_
  walk_at "rd"
  refine r_lamE T2 fun f2 H3 e3 T3 n2 nn2 L2 => ?_
  have hp3 := e3 _ _ hp2 (fun _ z => nomatch z)
  walk_at "rd"
  intro H4 hp4 k4
  walk_at "rd"
  have T4 := tabs_1 T3 k4 hp3
  have x4 := ext_1 (x2.trans e3) k4 pn
  with_reducible refine r_seqF ?_
  walk_at "rd"
  refine r_lamE T4 fun f3 H5 e5 T5 n3 nn3 L3 => ?_
  have hp5 := e5 _ _ hp4 (fun _ z => nomatch z)
  walk_at "rd"
  intro H6 hp6 k6
  walk_at "rd"
  have T6 := tabs_1 T5 k6 hp5
  have x6 := ext_1 (x4.trans e5) k6 pn
  with_reducible refine r_retF ?_
  walk_at "rd"
  intro Hc sh
  have z6 : KeepE H6 Hc := ke_0 sh.1
  have z5 := (ke_1 k6 hp5).trans z6
  have z4 := (ke_ext e5).trans z5
  have z3 := (ke_1 k4 hp3).trans z4
  have z2 := (ke_ext e3).trans z3
  have z1 := (ke_0 k2).trans z2
  have z0 := (ke_ext e1).trans z1
  have hRc := hR.ts z0.ts
  refine q p f1 f2 f3 Hc (ext_0 x6 sh.1) (tabs_0 T6 sh.1) pn (sh.1 _ _ hp6 (by simp)) (fun ok => ⟨?_, ?_⟩) (fun no f hf => ?_)
  · have C := ice_lam L1 sh.2.2 ["_law_program_here"] [0] (nscope_by (by decide +kernel)) (by decide +kernel) rfl
    refine lam_do (k := 39) (nscope_by (by decide +kernel)) (fun _ _ _ => rfl) (z1.lam L1) C (fun A outer s1 Hx Qx Ex c' hr kw t => ?_)
    have hRx := (rp_wo C.ice hRc).ts (keep_ts0 kw)
    refine ⟨_, (pcallX C_need_program (takes_of rfl rfl rfl rfl) (hr.mono (by first | exact Nat.le_of_ble_eq_true rfl | omega)) rfl (pa_cons (pv 0) pa_nil)), ?_⟩
    walk_at "rd"
    refine r_callS ?_
    walk_at "rd"
    exact ask ⟨v, d, rfl, hRx, hh, fun _ H1 k => t _ H1 k, fun no => absurd ok no⟩
  · have C := ice_lam L2 sh.2.2 ["_law_program_here"] [0] (nscope_by (by decide +kernel)) (by decide +kernel) rfl
    refine lam_do (k := 39) (nscope_by (by decide +kernel)) (fun _ _ _ => rfl) (z3.lam L2) C (fun A outer s1 Hx Qx Ex c' hr kw t => ?_)
    have hRx := (rp_wo C.ice hRc).ts (keep_ts0 kw)
    refine ⟨_, (pcallX C_written (takes_of rfl rfl rfl rfl) (hr.mono (by first | exact Nat.le_of_ble_eq_true rfl | omega)) rfl (pa_cons (pv 0) pa_nil)), ?_⟩
    walk_at "rd"
    refine r_callS ?_
    walk_at "rd"
    exact ask ⟨v, d, rfl, hRx, hh, fun _ z H1 k => t z H1 k, fun no => absurd ok no⟩
  simp only [List.mem_cons, List.not_mem_nil, or_false] at hf
  rcases hf with rfl | rfl | rfl
  · have C := ice_lam L1 sh.2.2 ["_law_program_here"] [0] (nscope_by (by decide +kernel)) (by decide +kernel) rfl
    refine lam_do (k := 39) (nscope_by (by decide +kernel)) (fun _ _ _ => rfl) (z1.lam L1) C (fun A outer s1 Hx Qx Ex c' hr kw t => ?_)
    have hRx := (rp_wo C.ice hRc).ts (keep_ts0 kw)
    refine ⟨_, (pcallX C_need_program (takes_of rfl rfl rfl rfl) (hr.mono (by first | exact Nat.le_of_ble_eq_true rfl | omega)) rfl (pa_cons (pv 0) pa_nil)), ?_⟩
    walk_at "rd"
    refine r_callS ?_
    walk_at "rd"
    exact ask ⟨v, d, rfl, hRx, hh, fun ok => absurd ok no, fun _ => t⟩
  · have C := ice_lam L2 sh.2.2 ["_law_program_here"] [0] (nscope_by (by decide +kernel)) (by decide +kernel) rfl
    refine lam_do (k := 39) (nscope_by (by decide +kernel)) (fun _ _ _ => rfl) (z3.lam L2) C (fun A outer s1 Hx Qx Ex c' hr kw t => ?_)
    have hRx := (rp_wo C.ice hRc).ts (keep_ts0 kw)
    refine ⟨_, (pcallX C_written (takes_of rfl rfl rfl rfl) (hr.mono (by first | exact Nat.le_of_ble_eq_true rfl | omega)) rfl (pa_cons (pv 0) pa_nil)), ?_⟩
    walk_at "rd"
    refine r_callS ?_
    walk_at "rd"
    exact ask ⟨v, d, rfl, hRx, hh, fun ok => absurd ok no, fun _ => t⟩
  · have C := ice_lam L3 sh.2.2 ["_law_program_here"] [0] (nscope_by (by decide +kernel)) (by decide +kernel) rfl
    refine lam_do (k := 39) (nscope_by (by decide +kernel)) (fun _ _ _ => rfl) (z5.lam L3) C (fun A outer s1 Hx Qx Ex c' hr kw t => ?_)
    have hRx := (rp_wo C.ice hRc).ts (keep_ts0 kw)
    refine ⟨_, (pcallX C_classes (takes_of rfl rfl rfl rfl) (hr.mono (by first | exact Nat.le_of_ble_eq_true rfl | omega)) rfl (pa_cons (pv 0) pa_nil)), ?_⟩
    walk_at "rd"
    refine r_callS ?_
    walk_at "rd"
    exact ask ⟨v, d, rfl, hRx, hh, no, t⟩
end
end Hw
namespace Hw
open PySem PySem.Spec PyProof.Rows L2 LamX NdefX
local macro_rules | `(tactic| walk_at "sz") => `(tactic| first | exact Nat.le_of_ble_eq_true rfl | exact small (by first | omega | (simp; done) | (simp; omega)))
local macro_rules | `(tactic| walk_at "szT") => `(tactic| first | exact Nat.lt_of_lt_of_le (Nat.lt_succ_self _) (Nat.le_of_ble_eq_true rfl) | exact smallT (by first | omega | (simp; done) | (simp; omega)))
local macro_rules | `(tactic| walk_at "cond") => `(tactic| first | decide | omega | (dsimp only; omega) | exact ⟨by omega, by omega⟩ | exact .inr ⟨by decide, by decide⟩)
local macro_rules | `(tactic| walk_at "sq") => `(tactic| first | assumption | exact SqL.of (by assumption) | exact SqT.of (by assumption))
local macro_rules | `(tactic| walk_at "ty") => `(tactic| first | (with_reducible assumption) | exact .base (.int _) | exact .base (.str _) | exact .base (.bl _) | exact .base .non | exact tyT (by walk_at "sq") | exact tyL (by walk_at "sq"))
local macro_rules | `(tactic| walk_at "lk") => `(tactic| first | (with_reducible exact cell_number) | (with_reducible exact cell_loans) | (with_reducible exact frame_owns) | (with_reducible exact frame_handed) | (with_reducible exact frame_roads) | (with_reducible exact want_thing) | (with_reducible exact want_frame) | (with_reducible exact run_program) | (with_reducible exact run_ways) | (with_reducible exact run_commons) | (with_reducible exact run_said) | (with_reducible exact run_lent) | (with_reducible exact run_mixed))
local macro_rules | `(tactic| walk_at "rd") => `(tactic| repeat (first
  | ((with_reducible apply r_var); exact rfl)
  | ((with_reducible apply r_cons))
  | ((with_reducible apply r_c))
  | ((with_reducible apply r_op))
  | ((with_reducible apply r_nil))
  | ((with_reducible apply r_bl))
  | ((with_reducible apply r_seq))
  | ((with_reducible apply r_test))
  | ((with_reducible apply r_if))
  | ((with_reducible apply r_ixT); (walk_at "sq"); first | exact rfl | assumption)
  | ((with_reducible apply r_name))
  | ((with_reducible apply r_call))
  | ((fail_if_success (first | (with_reducible apply stopAsk) | (with_reducible intro _) | (with_reducible apply stopEx) | (with_reducible apply stopFor) | (with_reducible apply stopLc) | (with_reducible apply stopAnd) | (with_reducible apply stopOr))); first
  | ((with_reducible apply ite_t); (first | (with_reducible exact nRN) | (with_reducible exact nIN) | (with_reducible exact dNN) | decide +kernel))
    | ((with_reducible apply ite_f); (first | (with_reducible exact dRN) | (with_reducible exact dIN) | (with_reducible exact nNN) | decide +kernel))
    | ((with_reducible apply r_next))
    | ((with_reducible apply r_eq); exact rfl)
    | ((with_reducible apply new); (walk_at "sz"))
    | ((with_reducible apply r_ret))
    | ((with_reducible apply r_asg))
    | ((with_reducible apply r_cb))
    | ((with_reducible apply r_tup))
    | ((with_reducible apply r_B))
    | ((with_reducible apply r_I0))
    | ((with_reducible apply r_drop))
    | ((with_reducible apply r_isi); (walk_at "ty"); (decide +kernel))
    | ((with_reducible apply r_ixL); (walk_at "sq"); first | exact rfl | assumption)
    | ((with_reducible apply r_fld))
    | ((with_reducible apply r_fld1); assumption; assumption; assumption; (first | exact rfl | assumption))
    | ((with_reducible apply r_fld1); assumption; assumption; assumption; (walk_at "lk"))
    | ((with_reducible apply r_gcons))
    | ((with_reducible apply r_lst))
    | ((with_reducible apply r_not))
    | ((with_reducible apply r_for))
    | ((with_reducible apply r_isL); (walk_at "sq"))
    | ((with_reducible apply r_append))
    | ((with_reducible apply r_dgetS); assumption; (walk_at "dk"))
    | ((with_reducible apply r_app); assumption; (walk_at "szT"))
    | ((with_reducible apply r_dget))
    | ((with_reducible apply r_in); (first | exact .inl (by walk_at "sq") | exact .inr (by walk_at "sq")); exact rfl; (first | exact nums_flat | exact rfl))
    | ((with_reducible apply r_notN))
    | ((with_reducible apply r_ifE))
    | ((with_reducible apply r_sfld))
    | ((with_reducible apply r_sfld1); assumption; assumption; assumption; exact (by decide))
    | ((with_reducible apply r_sfld1); assumption; assumption; assumption; exact Nat.le_of_ble_eq_true rfl)
    | ((with_reducible apply r_lc))
    | ((with_reducible apply r_iTup))
    | ((with_reducible apply r_gtup); (walk_at "sq"); rfl)
    | ((with_reducible apply r_gnil))
    | ((with_reducible apply r_lenT); (walk_at "sq"))
    | ((with_reducible apply r_overT); (walk_at "sq"))
    | ((with_reducible apply r_I); (walk_at "cond"))
    | ((with_reducible apply acc); assumption; (walk_at "szT"))
    | ((with_reducible apply r_ne); exact rfl)
    | ((with_reducible apply r_tupL); (walk_at "sq"))
    | ((with_reducible apply r_isN))
    | ((with_reducible apply r_iRng1))
    | ((with_reducible apply r_rng); (first | decide | omega | (simp; omega)); (first | decide | omega | (simp; omega)))
    | ((with_reducible apply r_lenL); (walk_at "sq"))
    | ((with_reducible apply r_ixA); (first | exact .inl (by walk_at "sq") | exact .inr (by walk_at "sq")); first | exact rfl | assumption)
    | ((with_reducible apply r_isiT2); assumption; (walk_at "ty"); (decide +kernel); (decide +kernel))
    | ((with_reducible apply r_retN))
    | ((with_reducible apply r_int))
    | ((with_reducible apply r_intB))
    | ((with_reducible apply r_notV))
    | ((with_reducible apply r_andV))
    | ((with_reducible apply r_orV))
    | ((with_reducible apply r_chain))
    | ((with_reducible apply turn))
    | ((with_reducible apply r_iList))
    | ((with_reducible apply r_overL); (walk_at "sq"))
    | ((with_reducible apply r_sub))
    | ((with_reducible apply r_setL); assumption; exact rfl)
    | ((with_reducible apply r_par))
    | ((with_reducible apply r_par2))
    | ((with_reducible apply r_sl))
    | ((with_reducible apply r_part))
    | ((with_reducible apply r_part1))
    | ((with_reducible apply r_noPart))
    | ((with_reducible apply r_slL); (walk_at "sq"))
    | ((with_reducible apply r_slA); (walk_at "sq"))
    | ((with_reducible apply r_tupT); (walk_at "sq"))
    | ((with_reducible apply r_lstL); (walk_at "sq"))
    | ((with_reducible apply r_lstT); (walk_at "sq"))
    | ((with_reducible apply r_dput))
    | ((with_reducible apply r_dputS); assumption; (walk_at "szT"))
    | ((with_reducible apply r_disp))
    | ((with_reducible apply r_pnil))
    | ((with_reducible apply r_pcons))
    | ((with_reducible apply r_enumT))
    | ((with_reducible apply r_overE); (walk_at "sq"))
    | ((with_reducible apply r_zipA))
    | ((with_reducible apply r_zipT); (walk_at "sq"); (walk_at "sq"))
    | ((with_reducible apply r_zip3))
    | ((with_reducible apply r_overZ3); (walk_at "sq"); (walk_at "sq"); (walk_at "sq"))
    | ((with_reducible apply r_make))
    | ((with_reducible apply r_isiC); assumption; assumption; assumption)
    | ((with_reducible apply r_popM))
    | ((with_reducible apply r_pop); assumption)
    | ((with_reducible apply r_tru))
    | ((with_reducible apply r_truL); (walk_at "sq"))
    | ((with_reducible apply r_str); (first | omega | assumption))
    | ((with_reducible apply r_lenS); (first | assumption | omega))
    | ((with_reducible apply r_m1))
    | ((with_reducible apply r_isS))
    | ((with_reducible apply r_un))
    | ((with_reducible apply r_neg))
    | ((with_reducible apply r_inS))
    | ((with_reducible apply r_star))
    | ((with_reducible apply r_spread); (walk_at "sq"))
    | ((with_reducible apply r_revA))
    | ((with_reducible apply r_overV); (walk_at "sq"))
    | ((with_reducible apply r_enumL))
    | ((with_reducible apply r_overEL); (walk_at "sq"))
    | ((with_reducible apply r_revR))
    | ((with_reducible apply r_revOf); (first | omega | decide))
    | ((with_reducible apply r_zipT3))
    | ((with_reducible apply r_overZT3); (walk_at "sq"); (walk_at "sq"); (walk_at "sq"))
    | ((with_reducible apply r_rep1); assumption; (first | omega | (simp; omega)))
    | ((with_reducible apply r_lc2)))))
section
variable {P : Program} {w : World} {K : PySem.W.Frag} {mg : Str → Option Value} {base : Heap}
theorem Row.lst {H : Hp} {r : Addr} (R : Row K H r) : ∃ xs, H r = some (.lst xs) := by
  obtain ⟨scr, ns, i, m, d, hR, _⟩ := R
  exact ⟨_, hR⟩
theorem Row.ext {H H1 : Hp} {r : Addr} (R : Row K H r) (e : ExtN H H1) : Row K H1 r := by
  obtain ⟨scr, ns, i, m, d, hR, hS, i0⟩ := R
  exact ⟨scr, ns, i, m, d, e _ _ hR (fun _ z => nomatch z), hS.ts (ke_ext e).ts, i0⟩
theorem r_giveW {T : List (Addr × Str)} {q : Str} {params : Arguments} {body : Expr} {scope : Scope} {cells : List (Str × Addr)} {fr : List Str} {js : List Nat} {σ : L2.St} {H : Hp} {Q : VK} {cP cW : Addr} (hT : Tabs T H) (o : Option Addr) (ho : o = none ∨ o = some cP ∨ o = some cW)
    (hL : ∀ f H1 H2, ExtN H H1 → Keep [] H1 H2 → Wo (cellM (cloFrom cells scope.names []) fr) H2 = H1 → LamV q params body scope (cloFrom cells scope.names []) f H2 → IceC (cloFrom cells scope.names []) fr (js.map (slotAt σ)) H2 → LamDo P w K mg base 40 f H2 o)
    (h0 : o = none → ∀ H9, ExtN H H9 → Tabs T H9 → Q .non H9) (h1 : o = some cP → ∀ H9, ExtN H H9 → Tabs T H9 → Q (.str "program") H9) (h2 : o = some cW → ∀ H9, ExtN H H9 → Tabs T H9 → Q (.str "ways") H9) :
    tGive T q params body scope cells fr js (spLawWord P w K mg base cP cW) σ H Q := by
  refine ⟨hT, fun f H1 H2 e T1 f0 nn k hw L C => ⟨f, o, rfl, hL f H1 H2 e k hw L C, ho, fun z H3 k3 => ?_, fun z H3 k3 => ?_, fun z H3 k3 => ?_⟩⟩
  all_goals have k4 : Keep [] H1 (Wo (cellM (cloFrom cells scope.names []) fr) H3) := hw ▸ wo_keep k3
  · exact h0 z _ (ext_0 e k4) (tabs_0 T1 k4)
  · exact h1 z _ (ext_0 e k4) (tabs_0 T1 k4)
  · exact h2 z _ (ext_0 e k4) (tabs_0 T1 k4)
theorem cutV_init {xs : List V} (h : 1 ≤ xs.length) : cutV xs none (some (-1)) = xs.take (xs.length - 1) := by
  unfold cutV HT.sIx
  simp
  omega
theorem rp_app {H : Hp} {p e : Addr} {xs : List V} {W : List (List Str)} (hs : SqT K H p (xs ++ [.ref e])) (hx : Rps K H xs (W.map fun ws => .tuple (ws.map PyData.str))) (he : SqT K H e []) : Rp K H (.ref p) (encW (W ++ [[]])) := by
  unfold encW
  rw [List.map_append]
  exact .tup hs (hx.append (.cons (.tup he .nil) .nil))
theorem rp_take {H : Hp} {p : Addr} {xs : List V} {n : Nat} {W : List (List Str)} (hs : SqT K H p (xs.take n)) (hx : Rps K H xs (W.map fun ws => .tuple (ws.map PyData.str))) : Rp K H (.ref p) (encW (W.take n)) := by
  unfold encW
  rw [List.map_take]
  exact .tup hs (hx.take n)
theorem rp_put {H : Hp} {p q : Addr} {xs ys : List V} {a : Nat} {r : List Str} {W : List (List Str)} (hs : SqT K H p (xs.take a ++ [.ref q] ++ xs.drop (a + 1))) (hx : Rps K H xs (W.map fun ws => .tuple (ws.map PyData.str))) (hq : SqT K H q ys) (hy : Rps K H ys (r.map PyData.str)) : Rp K H (.ref p) (encW (W.take a ++ [r] ++ W.drop (a + 1))) := by
  unfold encW
  rw [List.map_append, List.map_append, List.map_take, List.map_drop]
  exact .tup hs (((hx.take a).append (.cons (.tup hq hy) .nil)).append (hx.drop (a + 1)))
theorem rps_snoc {H : Hp} {xs : List V} {ws : List Str} {z : Str} (h : Rps K H xs (ws.map PyData.str)) : Rps K H (xs ++ [.str z]) ((ws ++ [z]).map PyData.str) := by
  rw [List.map_append]
  exact h.append (.cons (.str _) .nil)
theorem rps_drop1 {H : Hp} {xs : List V} {ws : List Str} (h : Rps K H xs (ws.map PyData.str)) : Rps K H (xs.drop 1) ((ws.drop 1).map PyData.str) := by
  rw [List.map_drop]
  exact h.drop 1
theorem dp_same {H : Hp} {z : Str} : ∀ n : Nat, DpAll K H (List.replicate n (V.str z)) (List.replicate n (PyData.str z))
  | 0 => .nil
  | n + 1 => by
    rw [List.replicate_succ, List.replicate_succ]
    exact .cons (.str z) (dp_same n)
theorem r_sameNe {H : Hp} {p q : Addr} {n : Nat} {z : Str} {Q : VK} (h1 : H p = some (.lst (List.replicate n (V.str z)))) (h2 : H q = some (.lst (List.replicate n (V.str z)))) (sh : SeqAt.shaped (.list (List.replicate n (PyData.str z))) = true) (e : (!PyData.eqv (.list (List.replicate n (PyData.str z))) (.list (List.replicate n (PyData.str z)))) = false) (k : Q (.bl false) H) : rNeD K (.ref p) (.ref q) H Q :=
  ⟨_, _, .lst (SqL.of h1) (dp_same n), .lst (SqL.of h2) (dp_same n), sh, sh, by rw [e]; exact k⟩
noncomputable def spLaw (K : PySem.W.Frag) (T : List (Addr × Str)) : Sp := fun vs H Q _ => ∃ (a : Addr) (ns : List Int), vs = [.ref a] ∧ Tabs T H ∧ Scr K H a ns ∧ ∀ H', Q (.bl true) H'
noncomputable abbrev slaw : Stmt := top 109
noncomputable abbrev nlaw : List Str := ["_law_script", "_law_row", "_law_turn", "_law_program_here", "_law_ways_here", "_law_at", "_law_odd", "_law_bad", "_law_told", "_law_other", "_law_work"]
noncomputable abbrev plaw : List Str := ["_law_script"]
theorem sclaw : FnScope nlaw plaw (defScope slaw) := ⟨rfl, rfl, rfl, by decide +kernel, rfl, by decide +kernel, by decide +kernel⟩
theorem okLaw {TT : List (Addr × Str)} {cP cW : Addr} (D : DefAt K mg "law" slaw plaw) (ne : cP ≠ cW) (T : Blt mg) (TL : TabAt K mg base "law" TT) (C_law_taken : Callee P w K mg base "_law_taken" 1 pL_taken (spTaken K)) (C_law_program : Callee P w K mg base "_law_program" 15 pL_program (spProgram K))
    (C_law_ways : Callee P w K mg base "_law_ways" 2 pL_ways (spWays K)) (C_law_word : Callee P w K mg base "_law_word" 42 pL_word (spLawWord P w K mg base cP cW)) (C_law_works : Callee P w K mg base "_law_works" 2 pL_works (spLawWorks P w K mg base TT cP cW)) (C_law_others : Callee P w K mg base "_law_others" 2 pL_others (spLawOthers P w K mg base TT cP))
    (C_need_program : CalleeX P w K mg base "need_program" 25 pneed_program (spNeedProgramX K cP)) (C_parted : CalleeX P w K mg base "parted" 27 pparted (spRefP K cP cW))
    (C_law_spoilt : Callee P w K mg base "_law_spoilt" 3 pL_spoilt (spLawSpoilt K)) (C_law_is_program : Callee P w K mg base "_law_is_program" 22 pL_is_program (spLawIsProgram K)) : Callee P w K mg base "law" 60 plaw (spLaw K TT) := by
  refine def_okL D sclaw (fun vs H Q E h => ?_) (fun f cdv A outer s H vs Q E hr hm hl h => ?_)
  · obtain ⟨a, ns, rfl, _⟩ := h
    rfl
  have LC := TL.ctx (sc := defScope slaw) (n := s.heap.objs.size) hm hl
  obtain ⟨a, ns, rfl, hT, hS, q⟩ := h
  refine ⟨_, (pss_cons (ps_set (i := 1) sclaw.nd rfl (Or.inl rfl) (pe_lst (pa_cons (pv 0) (pa_cons pe_int (pa_cons pe_int (pa_cons pe_int pa_nil))))))
  (pss_cons (ps_for PassesOwn.never rfl (pi_range1 rfl T.range (pa_cons pe_int pa_nil)) (pg_name (i := 2) sclaw.nd rfl (Or.inl rfl))
   (pss_cons (ps_set (i := 3) sclaw.nd rfl (Or.inr rfl) (pcall C_law_program (hr.mono (by first | exact Nat.le_of_ble_eq_true rfl | omega)) rfl (pa_cons (pv 1) (pa_cons pe_int pa_nil))))
  (pss_cons (ps_set (i := 4) sclaw.nd rfl (Or.inr rfl) (pcall C_law_ways (hr.mono (by first | exact Nat.le_of_ble_eq_true rfl | omega)) rfl (pa_cons (pv 1) (pa_cons (pv 3) (pa_cons (pe_lst (pa_cons pe_str (pa_cons pe_str (pa_cons pe_str (pa_cons pe_str pa_nil))))) pa_nil)))))
  (pss_cons (ps_if (pt_cmpR op_notN1 (pe_give (fr := ["_law_program_here"]) (js := [3]) C_law_word (hr.mono (by first | exact Nat.le_of_ble_eq_true rfl | omega)) rfl (LC _ rfl rfl rfl) (NdefX.nscope_by (by decide +kernel)) (ndef_at (sc := defScope slaw) (by decide +kernel)) (fun _ => rfl) rfl) pe_non (nomark _)) (pss_one (ps_ret pe_bl)) pss_nil)
  (pss_cons (ps_set (i := 5) sclaw.nd rfl (Or.inl rfl) (pcall C_law_taken (hr.mono (by first | exact Nat.le_of_ble_eq_true rfl | omega)) rfl (pa_cons (pv 1) (pa_cons (pe_callB (cLen (K := K)) (by rfl) T.len PySem.boot_len (pa_cons (pv 4) pa_nil)) pa_nil))))
  (pss_cons (ps_set (i := 6) sclaw.nd rfl (Or.inl rfl) (pe_lst (pa_cons (pe_op (opCatA (K := K)) (pv 4) (pe_tup (pa_cons (pe_tup pa_nil) pa_nil))) (pa_cons (pe_slice (slA (K := K)) (pv 4) po_none (po_some (pe_un un_minus pe_int))) (pa_cons (pe_op (opCatA (K := K)) (pe_op (opCatA (K := K)) (pe_slice (slA (K := K)) (pv 4) po_none (po_some (pv 5))) (pe_tup (pa_cons (pe_op (opCatA (K := K)) (pe_ix (ixT (K := K)) (pv 4) (pv 5) (fun _ _ => rfl)) (pe_tup (pa_cons pe_str pa_nil))) pa_nil))) (pe_slice (slA (K := K)) (pv 4) (po_some (pe_op op_add (pv 5) pe_int)) po_none)) pa_nil)))))
  (pss_cons (ps_expr (peApp (K := K) (pv 6) (pe_op (opCatA (K := K)) (pe_op (opCatA (K := K)) (pe_slice (slA (K := K)) (pv 4) po_none (po_some (pv 5))) (pe_tup (pa_cons (pe_op (opCatA (K := K)) (pe_slice (slA (K := K)) (pe_ix (ixT (K := K)) (pv 4) (pv 5) (fun _ _ => rfl)) (po_some pe_int) po_none) (pe_tup (pa_cons pe_str pa_nil))) pa_nil))) (pe_slice (slA (K := K)) (pv 4) (po_some (pe_op op_add (pv 5) pe_int)) po_none))))
  (pss_cons (ps_set (i := 7) sclaw.nd rfl (Or.inr rfl) (pe_ix (ixL (K := K)) (pv 6) (pcall C_law_taken (hr.mono (by first | exact Nat.le_of_ble_eq_true rfl | omega)) rfl (pa_cons (pv 1) (pa_cons pe_int pa_nil))) (fun _ _ => rfl)))
  (pss_cons (ps_if (pt_cmpR op_ne (pe_give (fr := ["_law_program_here", "_law_ways_here", "_law_bad"]) (js := [3, 4, 7]) C_law_word (hr.mono (by first | exact Nat.le_of_ble_eq_true rfl | omega)) rfl (LC _ rfl rfl rfl) (NdefX.nscope_by (by decide +kernel)) (ndef_at (sc := defScope slaw) (by decide +kernel)) (fun _ => rfl) rfl) pe_str (nomark _)) (pss_one (ps_ret pe_bl)) pss_nil)
  (pss_cons (ps_setLc (i := 8) (own := [("_law_work", 10)]) (g := gName 10) (by rfl) sclaw.nd rfl rfl (sw_true rfl rfl rfl (by decide +kernel)) (piList (K := K) (pcall C_law_works (hr.mono (by first | exact Nat.le_of_ble_eq_true rfl | omega)) rfl (pa_cons (pv 3) (pa_cons (pv 7) (pa_cons (pe_tup (pa_cons pe_int (pa_cons pe_int pa_nil))) pa_nil))))) (blkOk_by (own := [("_law_work", 10)]) (N := nlaw) (sc := defScope slaw) (by decide +kernel)) (fun _ _ _ _ _ => (pg_name (i := 10) sclaw.nd rfl (Or.inl rfl))) (fun _ _ _ _ _ => pts_nil) (fun _ _ _ _ _ => (pcall C_law_word (hr.mono (by first | exact Nat.le_of_ble_eq_true rfl | omega)) rfl (pa_cons (pv 10) pa_nil))))
  (pss_cons (ps_if (PW.pt (pw_or (pt_cmpR (opNeD (K := K) hr.units) (pe_slice (slL (K := K)) (pv 8) po_none (po_some pe_int)) (pe_op op_rep (pe_lst (pa_cons pe_str pa_nil)) pe_int) (nomark _)) (pw_or1 (pt_cmpR (opNeD (K := K) hr.units) (pe_slice (slL (K := K)) (pv 8) (po_some pe_int) po_none) (pe_op op_rep (pe_lst (pa_cons pe_str pa_nil)) pe_int) (nomark _))))) (pss_one (ps_ret pe_bl)) pss_nil)
  (pss_cons (ps_set (i := 9) sclaw.nd rfl (Or.inl rfl) (pcall C_law_spoilt (hr.mono (by first | exact Nat.le_of_ble_eq_true rfl | omega)) rfl (pa_cons (pv 1) (pa_cons (pv 3) pa_nil))))
  (pss_one (ps_if (pt_val (pcall C_law_is_program (hr.mono (by first | exact Nat.le_of_ble_eq_true rfl | omega)) rfl (pa_cons (pv 9) pa_nil))) (pss_one (ps_if (pt_cmpR (opNeE (K := K) hr.units0) (pe_lc (own := [("_law_work", 10)]) (g := gName 10) (by rfl) sclaw.nd (piList (K := K) (pe_slice (slL (K := K)) (pcall C_law_others (hr.mono (by first | exact Nat.le_of_ble_eq_true rfl | omega)) rfl (pa_cons (pv 9) pa_nil)) po_none (po_some pe_int))) (blkOk_by (own := [("_law_work", 10)]) (N := nlaw) (sc := defScope slaw) (by decide +kernel)) (fun _ _ _ _ _ => (pg_name (i := 10) sclaw.nd rfl (Or.inl rfl))) (fun _ _ _ _ _ => (pts_one (pt_cmpR op_notN1 (pcall C_law_word (hr.mono (by first | exact Nat.le_of_ble_eq_true rfl | omega)) rfl (pa_cons (pv 10) pa_nil)) pe_non (nomark _)))) (fun _ _ _ _ _ => (pv 10))) (pe_lst pa_nil) (nomark _)) (pss_one (ps_ret pe_bl)) pss_nil)) (pss_one (ps_if (pt_cmpR (opNeE (K := K) hr.units0) (pe_lc (own := [("_law_work", 10)]) (g := gName 10) (by rfl) sclaw.nd (piList (K := K) (pcall C_law_works (hr.mono (by first | exact Nat.le_of_ble_eq_true rfl | omega)) rfl (pa_cons (pv 9) (pa_cons (pv 7) (pa_cons (pe_tup (pa_cons pe_int (pa_cons pe_int pa_nil))) pa_nil))))) (blkOk_by (own := [("_law_work", 10)]) (N := nlaw) (sc := defScope slaw) (by decide +kernel)) (fun _ _ _ _ _ => (pg_name (i := 10) sclaw.nd rfl (Or.inl rfl))) (fun _ _ _ _ _ => (pts_one (pt_cmpR op_ne (pcall C_law_word (hr.mono (by first | exact Nat.le_of_ble_eq_true rfl | omega)) rfl (pa_cons (pv 10) pa_nil)) pe_str (nomark _)))) (fun _ _ _ _ _ => (pv 10))) (pe_lst pa_nil) (nomark _)) (pss_one (ps_ret pe_bl)) (pss_one (ps_if (pt_cmpR (opNeE (K := K) hr.units0) (pe_lc (own := [("_law_work", 10)]) (g := gName 10) (by rfl) sclaw.nd (piList (K := K) (pcall C_law_others (hr.mono (by first | exact Nat.le_of_ble_eq_true rfl | omega)) rfl (pa_cons (pv 9) pa_nil))) (blkOk_by (own := [("_law_work", 10)]) (N := nlaw) (sc := defScope slaw) (by decide +kernel)) (fun _ _ _ _ _ => (pg_name (i := 10) sclaw.nd rfl (Or.inl rfl))) (fun _ _ _ _ _ => (pts_one (pt_cmpR op_ne (pcall C_law_word (hr.mono (by first | exact Nat.le_of_ble_eq_true rfl | omega)) rfl (pa_cons (pv 10) pa_nil)) pe_str (nomark _)))) (fun _ _ _ _ _ => (pv 10))) (pe_lst pa_nil) (nomark _)) (pss_one (ps_ret pe_bl)) pss_nil))))))))))))))))))
  (pss_one (ps_ret pe_bl)))), ?_⟩
  walk_at "rd"
  intro r H1 nr h1 k1
  have R1 : Row K H1 r := ⟨a, ns, 0, 0, 0, h1, hS.ts (keep_ts0 k1), by omega⟩
  have T1 := tabs_0 hT k1
  walk_at "rd"
  refine forR (fun i σ H' => ∃ x2 x3 x4 x5 x6 x7 x8 x9 x10 : Option V, σ = [some (.ref a), some (.ref r), x2, x3, x4, x5, x6, x7, x8, x9, x10] ∧ Row K H' r ∧ Tabs TT H') ⟨_, _, _, _, _, _, _, _, _, rfl, R1, T1⟩ (fun i σ H2 hi hp => ?_) (fun σ H2 hp => ?_)
  · obtain ⟨x2, x3, x4, x5, x6, x7, x8, x9, x10, rfl, R2, T2⟩ := hp
    walk_at "rd"
    refine ask ⟨r, 6, rfl, by omega, by omega, R2, fun v PP H3 hv gd k3 R3 => ?_⟩
    walk_at "rd"
    intro po H4 n4 h4 k4
    have R4 := R3.keep0 k4
    walk_at "rd"
    refine ask ⟨r, po, v, PP, ["copy", "place", "back", "want"], rfl, R4, hv.ts (keep_ts0 k4), gd.toGood.few, gd.toGood.params, h4, by decide, by decide, (fun z => R3.ne (by rw [← z]; exact n4)), fun u W H5 hu wo k5 R5 => ?_⟩
    have T5 : Tabs TT H5 := tabs_1 (tabs_0 (tabs_1 T2 k3 (Row.lst R2).choose_spec) k4) k5 (Row.lst R4).choose_spec
    have hv5 := (hv.ts (keep_ts0 k4)).ts (R4.ts k5)
    have ti : Tiny PP := fun wk hw => ⟨gd.tight wk hw, by have := gd.many wk hw; omega⟩
    obtain ⟨au, xu, rfl, hU, hxu⟩ := hu.tup_inv
    have lxu : xu.length = W.length := by rw [hxu.length, List.length_map]
    have lW := wo.1
    have p1 := gd.one
    have p4 := gd.few
    walk_at "rd"
    refine r_giveW T5 none (.inl rfl) (fun f H6 H7 e6 k7 hw L6 C7 => ?_) (fun _ H6 e6 T => ?_) (fun z => nomatch z) (fun z => nomatch z)
    · refine lam_do (k := 39) (nscope_by (by decide +kernel)) (fun _ _ _ => rfl) L6 C7 (fun A outer s1 Hx Qx Ex c' hr kw t => ?_)
      rw [hw] at kw
      have hvx := hv5.ts ((ke_ext e6).ts.trans (keep_ts0 kw))
      refine ⟨_, (pcallX C_need_program (takes_of rfl rfl rfl rfl) (hr.mono (by first | exact Nat.le_of_ble_eq_true rfl | omega)) rfl (pa_cons (pv 0) pa_nil)), ?_⟩
      walk_at "rd"
      refine r_callS ?_
      walk_at "rd"
      exact ask ⟨v, encP PP, rfl, hvx, hh_prog, fun _ H1 k => t _ H1 k, fun no => absurd (ok_prog gd.toGood (by omega)) no⟩
    have t6 := (ke_ext e6).ts
    have R := R5.ext e6
    have hv := hv5.ts t6
    have hU := t6.sqT hU
    have hxu := hxu.ts t6
    walk_at "rd"
    refine ask ⟨r, (xu.length : Nat), rfl, by omega, by omega, R, fun z6 H8 z60 z61 k8 R8 => ?_⟩
    obtain ⟨at_, rfl⟩ : ∃ m : Nat, z6 = (m : Int) := ⟨z6.toNat, by omega⟩
    have at_lt : at_ < W.length := by omega
    have t8 := R.ts k8
    have T := tabs_1 T k8 (Row.lst R).choose_spec
    have R := R8
    have hv := hv.ts t8
    have hU := t8.sqT hU
    have hxu := hxu.ts t8
    obtain ⟨xi, exi⟩ : ∃ xi, xu[at_]? = some xi := ⟨_, List.getElem?_eq_getElem (by omega)⟩
    obtain ⟨di, edi, hdi⟩ := hxu.get' exi
    have eW : W[at_]? = some (W.getD at_ []) := by
      rw [List.getD_eq_getElem?_getD, List.getElem?_eq_getElem at_lt]
      rfl
    rw [List.getElem?_map, eW] at edi
    cases edi
    obtain ⟨aw, xw, rfl, hW, hxw⟩ := hdi.tup_inv
    have ae := atI_nat exi
    have lxw : xw.length ≤ 3 := by
      rw [hxw.length, List.length_map]
      have ep := List.getElem?_eq_getElem (show at_ < PP.length by omega)
      rw [(wo.2 at_ _ _ ep eW).1]
      exact gd.params _ (List.mem_of_getElem? ep)
    walk_at "rd"
    intro p101 H101 n101 h101 k101
    have t_ := keep_ts0 k101
    replace T := tabs_0 T k101
    replace R := R.keep0 k101
    replace hv := hv.ts t_
    replace hU := t_.sqT hU
    replace hxu := hxu.ts t_
    replace hW := t_.sqT hW
    replace hxw := hxw.ts t_
    have sq101 : SqT K H101 p101 [] := SqT.of h101
    walk_at "rd"
    intro p102 H102 n102 h102 k102
    have t_ := keep_ts0 k102
    replace T := tabs_0 T k102
    replace R := R.keep0 k102
    replace hv := hv.ts t_
    replace hU := t_.sqT hU
    replace hxu := hxu.ts t_
    replace hW := t_.sqT hW
    replace hxw := hxw.ts t_
    replace sq101 := t_.sqT sq101
    have sq102 : SqT K H102 p102 [.ref p101] := SqT.of h102
    walk_at "rd"
    refine r_catA hU sq102 (Nat.le_trans (by simp only [List.length_append, List.length_take, List.length_drop, List.length_cons, List.length_nil]; omega : _ ≤ 1000) (by decide)) fun p103 H103 sq103 k103 m103 => ?_
    have t_ := keep_ts0 k103
    replace T := tabs_0 T k103
    replace R := R.keep0 k103
    replace hv := hv.ts t_
    replace hU := t_.sqT hU
    replace hxu := hxu.ts t_
    replace hW := t_.sqT hW
    replace hxw := hxw.ts t_
    replace sq101 := t_.sqT sq101
    replace sq102 := t_.sqT sq102
    walk_at "rd"
    intro p104 H104 sq104 k104 m104
    rw [cutV_init (by omega)] at sq104
    have t_ := keep_ts0 k104
    replace T := tabs_0 T k104
    replace R := R.keep0 k104
    replace hv := hv.ts t_
    replace hU := t_.sqT hU
    replace hxu := hxu.ts t_
    replace hW := t_.sqT hW
    replace hxw := hxw.ts t_
    replace sq101 := t_.sqT sq101
    replace sq102 := t_.sqT sq102
    replace sq103 := t_.sqT sq103
    walk_at "rd"
    intro p105 H105 sq105 k105 m105
    rw [cutV_up] at sq105
    have t_ := keep_ts0 k105
    replace T := tabs_0 T k105
    replace R := R.keep0 k105
    replace hv := hv.ts t_
    replace hU := t_.sqT hU
    replace hxu := hxu.ts t_
    replace hW := t_.sqT hW
    replace hxw := hxw.ts t_
    replace sq101 := t_.sqT sq101
    replace sq102 := t_.sqT sq102
    replace sq103 := t_.sqT sq103
    replace sq104 := t_.sqT sq104
    walk_at "rd"
    intro p106 H106 n106 h106 k106
    have t_ := keep_ts0 k106
    replace T := tabs_0 T k106
    replace R := R.keep0 k106
    replace hv := hv.ts t_
    replace hU := t_.sqT hU
    replace hxu := hxu.ts t_
    replace hW := t_.sqT hW
    replace hxw := hxw.ts t_
    replace sq101 := t_.sqT sq101
    replace sq102 := t_.sqT sq102
    replace sq103 := t_.sqT sq103
    replace sq104 := t_.sqT sq104
    replace sq105 := t_.sqT sq105
    have sq106 : SqT K H106 p106 [.str "copy"] := SqT.of h106
    walk_at "rd"
    refine r_catA hW sq106 (Nat.le_trans (by simp only [List.length_append, List.length_take, List.length_drop, List.length_cons, List.length_nil]; omega : _ ≤ 1000) (by decide)) fun p107 H107 sq107 k107 m107 => ?_
    have t_ := keep_ts0 k107
    replace T := tabs_0 T k107
    replace R := R.keep0 k107
    replace hv := hv.ts t_
    replace hU := t_.sqT hU
    replace hxu := hxu.ts t_
    replace hW := t_.sqT hW
    replace hxw := hxw.ts t_
    replace sq101 := t_.sqT sq101
    replace sq102 := t_.sqT sq102
    replace sq103 := t_.sqT sq103
    replace sq104 := t_.sqT sq104
    replace sq105 := t_.sqT sq105
    replace sq106 := t_.sqT sq106
    walk_at "rd"
    intro p108 H108 n108 h108 k108
    have t_ := keep_ts0 k108
    replace T := tabs_0 T k108
    replace R := R.keep0 k108
    replace hv := hv.ts t_
    replace hU := t_.sqT hU
    replace hxu := hxu.ts t_
    replace hW := t_.sqT hW
    replace hxw := hxw.ts t_
    replace sq101 := t_.sqT sq101
    replace sq102 := t_.sqT sq102
    replace sq103 := t_.sqT sq103
    replace sq104 := t_.sqT sq104
    replace sq105 := t_.sqT sq105
    replace sq106 := t_.sqT sq106
    replace sq107 := t_.sqT sq107
    have sq108 : SqT K H108 p108 [.ref p107] := SqT.of h108
    walk_at "rd"
    refine r_catA sq105 sq108 (Nat.le_trans (by simp only [List.length_append, List.length_take, List.length_drop, List.length_cons, List.length_nil]; omega : _ ≤ 1000) (by decide)) fun p109 H109 sq109 k109 m109 => ?_
    have t_ := keep_ts0 k109
    replace T := tabs_0 T k109
    replace R := R.keep0 k109
    replace hv := hv.ts t_
    replace hU := t_.sqT hU
    replace hxu := hxu.ts t_
    replace hW := t_.sqT hW
    replace hxw := hxw.ts t_
    replace sq101 := t_.sqT sq101
    replace sq102 := t_.sqT sq102
    replace sq103 := t_.sqT sq103
    replace sq104 := t_.sqT sq104
    replace sq105 := t_.sqT sq105
    replace sq106 := t_.sqT sq106
    replace sq107 := t_.sqT sq107
    replace sq108 := t_.sqT sq108
    walk_at "rd"
    intro p110 H110 sq110 k110 m110
    rw [show ((at_ : Int) + 1) = ((at_ + 1 : Nat) : Int) by omega, cutV_down] at sq110
    have t_ := keep_ts0 k110
    replace T := tabs_0 T k110
    replace R := R.keep0 k110
    replace hv := hv.ts t_
    replace hU := t_.sqT hU
    replace hxu := hxu.ts t_
    replace hW := t_.sqT hW
    replace hxw := hxw.ts t_
    replace sq101 := t_.sqT sq101
    replace sq102 := t_.sqT sq102
    replace sq103 := t_.sqT sq103
    replace sq104 := t_.sqT sq104
    replace sq105 := t_.sqT sq105
    replace sq106 := t_.sqT sq106
    replace sq107 := t_.sqT sq107
    replace sq108 := t_.sqT sq108
    replace sq109 := t_.sqT sq109
    walk_at "rd"
    refine r_catA sq109 sq110 (Nat.le_trans (by simp only [List.length_append, List.length_take, List.length_drop, List.length_cons, List.length_nil]; omega : _ ≤ 1000) (by decide)) fun p111 H111 sq111 k111 m111 => ?_
    have t_ := keep_ts0 k111
    replace T := tabs_0 T k111
    replace R := R.keep0 k111
    replace hv := hv.ts t_
    replace hU := t_.sqT hU
    replace hxu := hxu.ts t_
    replace hW := t_.sqT hW
    replace hxw := hxw.ts t_
    replace sq101 := t_.sqT sq101
    replace sq102 := t_.sqT sq102
    replace sq103 := t_.sqT sq103
    replace sq104 := t_.sqT sq104
    replace sq105 := t_.sqT sq105
    replace sq106 := t_.sqT sq106
    replace sq107 := t_.sqT sq107
    replace sq108 := t_.sqT sq108
    replace sq109 := t_.sqT sq109
    replace sq110 := t_.sqT sq110
    walk_at "rd"
    have Rb := R
    intro p112 H112 n112 h112 k112
    have t_ := keep_ts0 k112
    replace T := tabs_0 T k112
    replace R := R.keep0 k112
    replace hv := hv.ts t_
    replace hU := t_.sqT hU
    replace hxu := hxu.ts t_
    replace hW := t_.sqT hW
    replace hxw := hxw.ts t_
    replace sq101 := t_.sqT sq101
    replace sq102 := t_.sqT sq102
    replace sq103 := t_.sqT sq103
    replace sq104 := t_.sqT sq104
    replace sq105 := t_.sqT sq105
    replace sq106 := t_.sqT sq106
    replace sq107 := t_.sqT sq107
    replace sq108 := t_.sqT sq108
    replace sq109 := t_.sqT sq109
    replace sq110 := t_.sqT sq110
    replace sq111 := t_.sqT sq111
    have hL := h112
    have nL : H111 p112 = none := n112
    have nr : p112 ≠ r := fun z => r_ne_new Rb nL (by rw [z]; exact List.mem_singleton.mpr rfl)
    walk_at "rd"
    intro p113 H113 sq113 k113 m113
    rw [cutV_up] at sq113
    have t_ := keep_ts0 k113
    replace T := tabs_0 T k113
    replace R := R.keep0 k113
    replace hv := hv.ts t_
    replace hU := t_.sqT hU
    replace hxu := hxu.ts t_
    replace hW := t_.sqT hW
    replace hxw := hxw.ts t_
    replace sq101 := t_.sqT sq101
    replace sq102 := t_.sqT sq102
    replace sq103 := t_.sqT sq103
    replace sq104 := t_.sqT sq104
    replace sq105 := t_.sqT sq105
    replace sq106 := t_.sqT sq106
    replace sq107 := t_.sqT sq107
    replace sq108 := t_.sqT sq108
    replace sq109 := t_.sqT sq109
    replace sq110 := t_.sqT sq110
    replace sq111 := t_.sqT sq111
    replace hL := k113 _ _ hL (by simp)
    walk_at "rd"
    intro p114 H114 sq114 k114 m114
    rw [show (1 : Int) = ((1 : Nat) : Int) from rfl, cutV_down] at sq114
    have t_ := keep_ts0 k114
    replace T := tabs_0 T k114
    replace R := R.keep0 k114
    replace hv := hv.ts t_
    replace hU := t_.sqT hU
    replace hxu := hxu.ts t_
    replace hW := t_.sqT hW
    replace hxw := hxw.ts t_
    replace sq101 := t_.sqT sq101
    replace sq102 := t_.sqT sq102
    replace sq103 := t_.sqT sq103
    replace sq104 := t_.sqT sq104
    replace sq105 := t_.sqT sq105
    replace sq106 := t_.sqT sq106
    replace sq107 := t_.sqT sq107
    replace sq108 := t_.sqT sq108
    replace sq109 := t_.sqT sq109
    replace sq110 := t_.sqT sq110
    replace sq111 := t_.sqT sq111
    replace hL := k114 _ _ hL (by simp)
    replace sq113 := t_.sqT sq113
    walk_at "rd"
    intro p115 H115 n115 h115 k115
    have t_ := keep_ts0 k115
    replace T := tabs_0 T k115
    replace R := R.keep0 k115
    replace hv := hv.ts t_
    replace hU := t_.sqT hU
    replace hxu := hxu.ts t_
    replace hW := t_.sqT hW
    replace hxw := hxw.ts t_
    replace sq101 := t_.sqT sq101
    replace sq102 := t_.sqT sq102
    replace sq103 := t_.sqT sq103
    replace sq104 := t_.sqT sq104
    replace sq105 := t_.sqT sq105
    replace sq106 := t_.sqT sq106
    replace sq107 := t_.sqT sq107
    replace sq108 := t_.sqT sq108
    replace sq109 := t_.sqT sq109
    replace sq110 := t_.sqT sq110
    replace sq111 := t_.sqT sq111
    replace hL := k115 _ _ hL (by simp)
    replace sq113 := t_.sqT sq113
    replace sq114 := t_.sqT sq114
    have sq115 : SqT K H115 p115 [.str "Copy"] := SqT.of h115
    walk_at "rd"
    refine r_catA sq114 sq115 (Nat.le_trans (by simp only [List.length_append, List.length_take, List.length_drop, List.length_cons, List.length_nil]; omega : _ ≤ 1000) (by decide)) fun p116 H116 sq116 k116 m116 => ?_
    have t_ := keep_ts0 k116
    replace T := tabs_0 T k116
    replace R := R.keep0 k116
    replace hv := hv.ts t_
    replace hU := t_.sqT hU
    replace hxu := hxu.ts t_
    replace hW := t_.sqT hW
    replace hxw := hxw.ts t_
    replace sq101 := t_.sqT sq101
    replace sq102 := t_.sqT sq102
    replace sq103 := t_.sqT sq103
    replace sq104 := t_.sqT sq104
    replace sq105 := t_.sqT sq105
    replace sq106 := t_.sqT sq106
    replace sq107 := t_.sqT sq107
    replace sq108 := t_.sqT sq108
    replace sq109 := t_.sqT sq109
    replace sq110 := t_.sqT sq110
    replace sq111 := t_.sqT sq111
    replace hL := k116 _ _ hL (by simp)
    replace sq113 := t_.sqT sq113
    replace sq114 := t_.sqT sq114
    replace sq115 := t_.sqT sq115
    walk_at "rd"
    intro p117 H117 n117 h117 k117
    have t_ := keep_ts0 k117
    replace T := tabs_0 T k117
    replace R := R.keep0 k117
    replace hv := hv.ts t_
    replace hU := t_.sqT hU
    replace hxu := hxu.ts t_
    replace hW := t_.sqT hW
    replace hxw := hxw.ts t_
    replace sq101 := t_.sqT sq101
    replace sq102 := t_.sqT sq102
    replace sq103 := t_.sqT sq103
    replace sq104 := t_.sqT sq104
    replace sq105 := t_.sqT sq105
    replace sq106 := t_.sqT sq106
    replace sq107 := t_.sqT sq107
    replace sq108 := t_.sqT sq108
    replace sq109 := t_.sqT sq109
    replace sq110 := t_.sqT sq110
    replace sq111 := t_.sqT sq111
    replace hL := k117 _ _ hL (by simp)
    replace sq113 := t_.sqT sq113
    replace sq114 := t_.sqT sq114
    replace sq115 := t_.sqT sq115
    replace sq116 := t_.sqT sq116
    have sq117 : SqT K H117 p117 [.ref p116] := SqT.of h117
    walk_at "rd"
    refine r_catA sq113 sq117 (Nat.le_trans (by simp only [List.length_append, List.length_take, List.length_drop, List.length_cons, List.length_nil]; omega : _ ≤ 1000) (by decide)) fun p118 H118 sq118 k118 m118 => ?_
    have t_ := keep_ts0 k118
    replace T := tabs_0 T k118
    replace R := R.keep0 k118
    replace hv := hv.ts t_
    replace hU := t_.sqT hU
    replace hxu := hxu.ts t_
    replace hW := t_.sqT hW
    replace hxw := hxw.ts t_
    replace sq101 := t_.sqT sq101
    replace sq102 := t_.sqT sq102
    replace sq103 := t_.sqT sq103
    replace sq104 := t_.sqT sq104
    replace sq105 := t_.sqT sq105
    replace sq106 := t_.sqT sq106
    replace sq107 := t_.sqT sq107
    replace sq108 := t_.sqT sq108
    replace sq109 := t_.sqT sq109
    replace sq110 := t_.sqT sq110
    replace sq111 := t_.sqT sq111
    replace hL := k118 _ _ hL (by simp)
    replace sq113 := t_.sqT sq113
    replace sq114 := t_.sqT sq114
    replace sq115 := t_.sqT sq115
    replace sq116 := t_.sqT sq116
    replace sq117 := t_.sqT sq117
    walk_at "rd"
    intro p119 H119 sq119 k119 m119
    rw [show ((at_ : Int) + 1) = ((at_ + 1 : Nat) : Int) by omega, cutV_down] at sq119
    have t_ := keep_ts0 k119
    replace T := tabs_0 T k119
    replace R := R.keep0 k119
    replace hv := hv.ts t_
    replace hU := t_.sqT hU
    replace hxu := hxu.ts t_
    replace hW := t_.sqT hW
    replace hxw := hxw.ts t_
    replace sq101 := t_.sqT sq101
    replace sq102 := t_.sqT sq102
    replace sq103 := t_.sqT sq103
    replace sq104 := t_.sqT sq104
    replace sq105 := t_.sqT sq105
    replace sq106 := t_.sqT sq106
    replace sq107 := t_.sqT sq107
    replace sq108 := t_.sqT sq108
    replace sq109 := t_.sqT sq109
    replace sq110 := t_.sqT sq110
    replace sq111 := t_.sqT sq111
    replace hL := k119 _ _ hL (by simp)
    replace sq113 := t_.sqT sq113
    replace sq114 := t_.sqT sq114
    replace sq115 := t_.sqT sq115
    replace sq116 := t_.sqT sq116
    replace sq117 := t_.sqT sq117
    replace sq118 := t_.sqT sq118
    walk_at "rd"
    refine r_catA sq118 sq119 (Nat.le_trans (by simp only [List.length_append, List.length_take, List.length_drop, List.length_cons, List.length_nil]; omega : _ ≤ 1000) (by decide)) fun p120 H120 sq120 k120 m120 => ?_
    have t_ := keep_ts0 k120
    replace T := tabs_0 T k120
    replace R := R.keep0 k120
    replace hv := hv.ts t_
    replace hU := t_.sqT hU
    replace hxu := hxu.ts t_
    replace hW := t_.sqT hW
    replace hxw := hxw.ts t_
    replace sq101 := t_.sqT sq101
    replace sq102 := t_.sqT sq102
    replace sq103 := t_.sqT sq103
    replace sq104 := t_.sqT sq104
    replace sq105 := t_.sqT sq105
    replace sq106 := t_.sqT sq106
    replace sq107 := t_.sqT sq107
    replace sq108 := t_.sqT sq108
    replace sq109 := t_.sqT sq109
    replace sq110 := t_.sqT sq110
    replace sq111 := t_.sqT sq111
    replace hL := k120 _ _ hL (by simp)
    replace sq113 := t_.sqT sq113
    replace sq114 := t_.sqT sq114
    replace sq115 := t_.sqT sq115
    replace sq116 := t_.sqT sq116
    replace sq117 := t_.sqT sq117
    replace sq118 := t_.sqT sq118
    replace sq119 := t_.sqT sq119
    walk_at "rd"
    intro H121 h121 k121
    have hL0 := hL
    have t_ := k121.ts fun x hx => by cases List.mem_singleton.mp hx; exact .inl ⟨_, hL0⟩
    replace T := tabs_1 T k121 hL0
    replace R := R.keep k121 (by simpa using Ne.symm nr) t_
    replace hv := hv.ts t_
    replace hU := t_.sqT hU
    replace hxu := hxu.ts t_
    replace hW := t_.sqT hW
    replace hxw := hxw.ts t_
    replace sq101 := t_.sqT sq101
    replace sq102 := t_.sqT sq102
    replace sq103 := t_.sqT sq103
    replace sq104 := t_.sqT sq104
    replace sq105 := t_.sqT sq105
    replace sq106 := t_.sqT sq106
    replace sq107 := t_.sqT sq107
    replace sq108 := t_.sqT sq108
    replace sq109 := t_.sqT sq109
    replace sq110 := t_.sqT sq110
    replace sq111 := t_.sqT sq111
    replace sq113 := t_.sqT sq113
    replace sq114 := t_.sqT sq114
    replace sq115 := t_.sqT sq115
    replace sq116 := t_.sqT sq116
    replace sq117 := t_.sqT sq117
    replace sq118 := t_.sqT sq118
    replace sq119 := t_.sqT sq119
    replace sq120 := t_.sqT sq120
    have hL := h121
    have b1 : Rp K H121 (.ref p103) (encW (W ++ [[]])) := rp_app sq103 hxu sq101
    have b2 : Rp K H121 (.ref p104) (encW (W.take (W.length - 1))) := by rw [← lxu]; exact rp_take sq104 hxu
    have b3 : Rp K H121 (.ref p111) (encW (W.take at_ ++ [W.getD at_ [] ++ [("copy" : Str)]] ++ W.drop (at_ + 1))) := rp_put sq111 hxu sq107 (rps_snoc hxw)
    have b4 : Rp K H121 (.ref p120) (encW (W.take at_ ++ [(W.getD at_ []).drop 1 ++ [("Copy" : Str)]] ++ W.drop (at_ + 1))) := rp_put sq120 hxu sq116 (rps_snoc (rps_drop1 hxw))
    have hu : Rp K H121 (.ref au) (encW W) := .tup hU hxu
    walk_at "rd"
    refine ask ⟨r, 4, rfl, by decide, by decide, R, fun z122 H122 z1220 z1221 k122 R122 => ?_⟩
    have T := tabs_1 T k122 (Row.lst R).choose_spec
    have t_ := R.ts k122
    have hL := k122 _ _ hL (by simpa using nr)
    have hv := hv.ts t_
    have hu := hu.ts t_
    have b1 := b1.ts t_
    have b2 := b2.ts t_
    have b3 := b3.ts t_
    have b4 := b4.ts t_
    have R := R122
    obtain ⟨bv, B, eb, hB, oB⟩ : ∃ (bv : Addr) (B : List (List Str)), atI [V.ref p103, V.ref p104, V.ref p111, V.ref p120] z122 = some (.ref bv) ∧ Rp K H122 (.ref bv) (encW B) ∧ OddW W at_ B := by
      have : z122 = 0 ∨ z122 = 1 ∨ z122 = 2 ∨ z122 = 3 := by omega
      rcases this with rfl | rfl | rfl | rfl
      · exact ⟨_, _, rfl, b1, .inl rfl⟩
      · exact ⟨_, _, rfl, b2, .inr (.inl rfl)⟩
      · exact ⟨_, _, rfl, b3, .inr (.inr (.inl rfl))⟩
      · exact ⟨_, _, rfl, b4, .inr (.inr (.inr rfl))⟩
    obtain ⟨PP', mm', e1, g1, m1, t1, ok1, no1⟩ := bad_of (cP := cP) (cW := cW) gd.toGood (by omega : 8 ≤ 100) ti wo.1 (fun i wk r e1 e2 => (wo.2 i wk r e1 e2).1) at_lt oB
    have bad : BadO cP cW (encP PP) B cW := .inr ⟨PP', mm', e1, g1, m1, t1, ok1, no1, rfl⟩
    clear b1
    clear b2
    clear b3
    clear b4
    walk_at "rd"
    refine r_giveW T (some cW) (.inr (.inr rfl)) (fun f2 Ha Hb ea2 kb hwb Lb Cb => ?_) (fun z => nomatch z) (fun z => absurd (Option.some.inj z).symm ne) (fun _ Hg eg T => ?_)
    · refine lam_do (k := 39) (nscope_by (by decide +kernel)) (fun _ _ _ => rfl) Lb Cb (fun A outer s1 Hx Qx Ex c' hr kw t => ?_)
      rw [hwb] at kw
      have tx := (ke_ext ea2).ts.trans (keep_ts0 kw)
      have hvx := hv.ts tx
      have hux := hu.ts tx
      have hbx := hB.ts tx
      refine ⟨_, (pcallX C_parted (takes_of rfl rfl rfl rfl) (hr.mono (by first | exact Nat.le_of_ble_eq_true rfl | omega)) rfl (pa_cons (pv 0) (pa_cons (pv 1) (pa_cons (pv 2) pa_nil)))), ?_⟩
      walk_at "rd"
      refine r_callS ?_
      walk_at "rd"
      exact ask ⟨v, .ref au, .ref bv, encP PP, W, B, rfl, hux, hbx, bad.refd hvx hh_prog t⟩
    have t_ := (ke_ext eg).ts
    have hv := hv.ts t_
    have hB := hB.ts t_
    have R := R.ext eg
    walk_at "rd"
    intro p123 H123 n123 h123 k123
    have t_ := keep_ts0 k123
    replace T := tabs_0 T k123
    replace R := R.keep0 k123
    replace hv := hv.ts t_
    replace hB := hB.ts t_
    walk_at "rd"
    refine ask ⟨v, .ref bv, .ref p123, encP PP, B, cW, rfl, T, hv, hh_prog, hB, bad, fun aw1 fs Hc ec Tc nc hc lc dc => ?_⟩
    have t_ := (ke_ext ec).ts
    have hv := hv.ts t_
    have hB := hB.ts t_
    have R := R.ext ec
    have T := Tc
    walk_at "rd"
    refine lcL (a := aw1) (xs := fs.map V.ref) (fun E i H => Keep [] Hc H ∧ Hc E = none ∧ H E = some (.lst (List.replicate i (.str "ways")))) (fun E H3 n3 h3 k3 => ⟨k3, n3, h3⟩) (fun E i H3 _ p => SqL.of (p.1 _ _ hc (by simp))) (fun E i x H3 ex p => ?_) (fun E Hd p => ?_)
    · obtain ⟨k3, n3, h3⟩ := p
      have hi : i < 7 := by have := (List.getElem?_eq_some_iff.mp ex).1; rw [List.length_map] at this; omega
      rw [List.getElem?_map] at ex
      obtain ⟨f, ef, rfl⟩ := Option.map_eq_some_iff.mp ex
      walk_at "rd"
      refine ⟨rfl, ?_⟩
      walk_at "rd"
      refine ask ⟨f, some cW, rfl, (dc f (List.mem_of_getElem? ef)).keep k3, .inr (.inr rfl), (fun z => nomatch z), (fun z => absurd (Option.some.inj z).symm ne), fun _ H4 k4 => ?_⟩
      have h4 := k4 _ _ h3 (by simp)
      walk_at "rd"
      intro H5 h5 k5
      exact ⟨(k3.trans k4).fresh1 k5 n3, n3, by rw [List.replicate_succ']; exact h5⟩
    obtain ⟨kd, _, hE⟩ := p
    rw [List.length_map, lc] at hE
    have t_ := keep_ts0 kd
    replace T := tabs_0 T kd
    replace R := R.keep0 kd
    replace hv := hv.ts t_
    replace hB := hB.ts t_
    walk_at "rd"
    refine r_or ?_
    walk_at "rd"
    intro p124 H124 n124 h124 k124
    have t_ := keep_ts0 k124
    replace T := tabs_0 T k124
    replace R := R.keep0 k124
    replace hv := hv.ts t_
    replace hB := hB.ts t_
    replace hE := k124 _ _ hE (by simp)
    have s1 := h124
    rw [show cutV (List.replicate 7 (V.str "ways")) none (some 5) = List.replicate 5 (V.str "ways") from rfl] at s1
    walk_at "rd"
    intro p125 H125 n125 h125 k125
    have t_ := keep_ts0 k125
    replace T := tabs_0 T k125
    replace R := R.keep0 k125
    replace hv := hv.ts t_
    replace hB := hB.ts t_
    replace hE := k125 _ _ hE (by simp)
    replace s1 := k125 _ _ s1 (by simp)
    have s2 := h125
    walk_at "rd"
    refine r_rep1 (n := 5) s2 (by omega) ?_
    walk_at "rd"
    intro p126 H126 n126 h126 k126
    have t_ := keep_ts0 k126
    replace T := tabs_0 T k126
    replace R := R.keep0 k126
    replace hv := hv.ts t_
    replace hB := hB.ts t_
    replace hE := k126 _ _ hE (by simp)
    replace s1 := k126 _ _ s1 (by simp)
    walk_at "rd"
    refine r_sameNe s1 h126 (by decide +kernel) (by decide +kernel) ?_
    walk_at "rd"
    intro p127 H127 n127 h127 k127
    have t_ := keep_ts0 k127
    replace T := tabs_0 T k127
    replace R := R.keep0 k127
    replace hv := hv.ts t_
    replace hB := hB.ts t_
    replace hE := k127 _ _ hE (by simp)
    have s1 := h127
    rw [show cutV (List.replicate 7 (V.str "ways")) (some 5) none = List.replicate 2 (V.str "ways") from rfl] at s1
    walk_at "rd"
    intro p128 H128 n128 h128 k128
    have t_ := keep_ts0 k128
    replace T := tabs_0 T k128
    replace R := R.keep0 k128
    replace hv := hv.ts t_
    replace hB := hB.ts t_
    replace hE := k128 _ _ hE (by simp)
    replace s1 := k128 _ _ s1 (by simp)
    have s2 := h128
    walk_at "rd"
    refine r_rep1 (n := 2) s2 (by omega) ?_
    walk_at "rd"
    intro p129 H129 n129 h129 k129
    have t_ := keep_ts0 k129
    replace T := tabs_0 T k129
    replace R := R.keep0 k129
    replace hv := hv.ts t_
    replace hB := hB.ts t_
    replace hE := k129 _ _ hE (by simp)
    replace s1 := k129 _ _ s1 (by simp)
    walk_at "rd"
    refine r_sameNe s1 h129 (by decide +kernel) (by decide +kernel) ?_
    walk_at "rd"
    refine ask ⟨r, v, PP.map Wk.enc, rfl, R, hv, drawn_wg0 gd.toGood (by omega), (by rw [List.length_map]; exact gd.one), (by rw [List.length_map]; exact gd.few), fun v2 ws H130 k130 R130 hv2 wg l20 => ?_⟩
    have T := tabs_1 T k130 (Row.lst R).choose_spec
    have hB := hB.ts (R.ts k130)
    have R := R130
    walk_at "rd"
    refine ask ⟨v2, ws, rfl, hv2, fun d hd => wg_wq (wg d hd), by omega, fun b H131 hb k131 => ?_⟩
    have t_ := keep_ts0 k131
    replace T := tabs_0 T k131
    replace R := R.keep0 k131
    replace hB := hB.ts t_
    replace hv2 := hv2.ts t_
    have hh2 : Hh (.tuple ws) := wg_hh wg
    walk_at "rd"
    cases b
    · have no : ¬ OkProg (.tuple ws) := fun z => by cases hb.mpr z
      walk_at "rd"
      intro p132 H132 n132 h132 k132
      have t_ := keep_ts0 k132
      replace T := tabs_0 T k132
      replace R := R.keep0 k132
      replace hB := hB.ts t_
      replace hv2 := hv2.ts t_
      walk_at "rd"
      refine ask ⟨v2, .ref bv, .ref p132, .tuple ws, B, cP, rfl, T, hv2, hh2, hB, .inl ⟨no, rfl⟩, fun aw2 fs2 Hc2 ec2 Tc2 nc2 hc2 lc2 dc => ?_⟩
      have t_ := (ke_ext ec2).ts
      have hB := hB.ts t_
      have hv2 := hv2.ts t_
      have R := R.ext ec2
      have T := Tc2
      walk_at "rd"
      refine lcLi (a := aw2) (xs := fs2.map V.ref) (fun E i H => Keep [] Hc2 H ∧ Hc2 E = none ∧ H E = some (.lst [])) (fun E H3 n3 h3 k3 => ⟨k3, n3, h3⟩) (fun E i H3 _ p => SqL.of (p.1 _ _ hc2 (by simp))) (fun E i x H3 ex p => ?_) (fun E Hd p => ?_)
      · obtain ⟨k3, n3, h3⟩ := p
        rw [List.getElem?_map] at ex
        obtain ⟨f, ef, rfl⟩ := Option.map_eq_some_iff.mp ex
        walk_at "rd"
        refine ⟨rfl, ?_⟩
        walk_at "rd"
        refine ask ⟨f, some cP, rfl, (dc f (List.mem_of_getElem? ef)).keep k3, .inr (.inl rfl), (fun z => nomatch z), (fun _ H4 k4 => ?_), fun z => absurd (Option.some.inj z) ne⟩
        walk_at "rd"
        exact ⟨k3.trans k4, n3, k4 _ _ h3 (by simp)⟩
      obtain ⟨kd, _, hE⟩ := p
      have t_ := keep_ts0 kd
      replace T := tabs_0 T kd
      replace R := R.keep0 kd
      replace hB := hB.ts t_
      replace hv2 := hv2.ts t_
      walk_at "rd"
      intro p133 H133 n133 h133 k133
      have t_ := keep_ts0 k133
      replace T := tabs_0 T k133
      replace R := R.keep0 k133
      replace hB := hB.ts t_
      replace hv2 := hv2.ts t_
      replace hE := k133 _ _ hE (by simp)
      walk_at "rd"
      refine r_neE (SqL.of hE) (SqL.of h133) ?_
      walk_at "rd"
      refine ask ⟨v2, .tuple ws, rfl, T, hv2, hh2, fun aw2 f1 f2 f3 Hc2 ec2 Tc2 nc2 hc2 _ dc => ?_⟩
      have dc := dc no
      have t_ := (ke_ext ec2).ts
      have hB := hB.ts t_
      have hv2 := hv2.ts t_
      have R := R.ext ec2
      have T := Tc2
      walk_at "rd"
      refine lcLi (a := aw2) (xs := [f1, f2, f3].map V.ref) (fun E i H => Keep [] Hc2 H ∧ Hc2 E = none ∧ H E = some (.lst [])) (fun E H3 n3 h3 k3 => ⟨k3, n3, h3⟩) (fun E i H3 _ p => SqL.of (p.1 _ _ hc2 (by simp))) (fun E i x H3 ex p => ?_) (fun E Hd p => ?_)
      · obtain ⟨k3, n3, h3⟩ := p
        rw [List.getElem?_map] at ex
        obtain ⟨f, ef, rfl⟩ := Option.map_eq_some_iff.mp ex
        walk_at "rd"
        refine ⟨rfl, ?_⟩
        walk_at "rd"
        refine ask ⟨f, some cP, rfl, (dc f (List.mem_of_getElem? ef)).keep k3, .inr (.inl rfl), (fun z => nomatch z), (fun _ H4 k4 => ?_), fun z => absurd (Option.some.inj z) ne⟩
        walk_at "rd"
        exact ⟨k3.trans k4, n3, k4 _ _ h3 (by simp)⟩
      obtain ⟨kd, _, hE⟩ := p
      have t_ := keep_ts0 kd
      replace T := tabs_0 T kd
      replace R := R.keep0 kd
      replace hB := hB.ts t_
      replace hv2 := hv2.ts t_
      walk_at "rd"
      intro p134 H134 n134 h134 k134
      have t_ := keep_ts0 k134
      replace T := tabs_0 T k134
      replace R := R.keep0 k134
      replace hB := hB.ts t_
      replace hv2 := hv2.ts t_
      replace hE := k134 _ _ hE (by simp)
      walk_at "rd"
      refine r_neE (SqL.of hE) (SqL.of h134) ?_
      walk_at "rd"
      exact ⟨_, _, _, _, _, _, _, _, _, rfl, R, T⟩
    · have ok : OkProg (.tuple ws) := hb.mp rfl
      walk_at "rd"
      refine ask ⟨v2, .tuple ws, rfl, T, hv2, hh2, fun aw3 f1 f2 f3 Hc2 ec2 Tc2 nc2 hc2 dc _ => ?_⟩
      obtain ⟨d1, d2⟩ := dc ok
      have t_ := (ke_ext ec2).ts
      have hB := hB.ts t_
      have hv2 := hv2.ts t_
      have R := R.ext ec2
      have T := Tc2
      walk_at "rd"
      intro aw2 Hc3 n135 h135 k135
      rw [show cutV [V.ref f1, V.ref f2, V.ref f3] none (some 2) = [f1, f2].map V.ref from rfl] at h135
      have t_ := keep_ts0 k135
      replace T := tabs_0 T k135
      replace R := R.keep0 k135
      replace hB := hB.ts t_
      replace hv2 := hv2.ts t_
      have d1 := d1.keep k135
      have d2 := d2.keep k135
      have dc : ∀ f ∈ [f1, f2], LamDo P w K mg base 40 f Hc3 none := fun f hf => by
        rcases List.mem_cons.mp hf with rfl | hf
        · exact d1
        · rw [List.mem_singleton.mp hf]; exact d2
      walk_at "rd"
      refine lcLi (a := aw2) (xs := [f1, f2].map V.ref) (fun E i H => Keep [] Hc3 H ∧ Hc3 E = none ∧ H E = some (.lst [])) (fun E H3 n3 h3 k3 => ⟨k3, n3, h3⟩) (fun E i H3 _ p => SqL.of (p.1 _ _ h135 (by simp))) (fun E i x H3 ex p => ?_) (fun E Hd p => ?_)
      · obtain ⟨k3, n3, h3⟩ := p
        rw [List.getElem?_map] at ex
        obtain ⟨f, ef, rfl⟩ := Option.map_eq_some_iff.mp ex
        walk_at "rd"
        refine ⟨rfl, ?_⟩
        walk_at "rd"
        refine ask ⟨f, none, rfl, (dc f (List.mem_of_getElem? ef)).keep k3, .inl rfl, (fun _ H4 k4 => ?_), (fun z => nomatch z), fun z => nomatch z⟩
        walk_at "rd"
        exact ⟨k3.trans k4, n3, k4 _ _ h3 (by simp)⟩
      obtain ⟨kd, _, hE⟩ := p
      have t_ := keep_ts0 kd
      replace T := tabs_0 T kd
      replace R := R.keep0 kd
      replace hB := hB.ts t_
      replace hv2 := hv2.ts t_
      walk_at "rd"
      intro p136 H136 n136 h136 k136
      have t_ := keep_ts0 k136
      replace T := tabs_0 T k136
      replace R := R.keep0 k136
      replace hB := hB.ts t_
      replace hv2 := hv2.ts t_
      replace hE := k136 _ _ hE (by simp)
      walk_at "rd"
      refine r_neE (SqL.of hE) (SqL.of h136) ?_
      walk_at "rd"
      exact ⟨_, _, _, _, _, _, _, _, _, rfl, R, T⟩
  · obtain ⟨x2, x3, x4, x5, x6, x7, x8, x9, x10, rfl, R2, T2⟩ := hp
    walk_at "rd"
    exact q _
end
end Hw
namespace Hw
open PySem PySem.Spec PyProof.Rows L2 LamX NdefX
section
variable {P : Program} {w : World} {K : PySem.W.Frag} {mg : Str → Option Value} {base : Heap}
theorem law_t {cs : List (Addr × Addr)} {TT : List (Addr × Str)} {k : Nat} {fa : Addr} {fd : FuncData} {x : Str} (F : FnOk P w K mg base CX0 k fa fd [x] (spLaw K TT)) (nT : ∀ p ∈ cs, K.lookup p.2 = none) (hTT : ∀ p ∈ TT, ∃ q ∈ cs, q.2 = p.1) : FnOk P w K mg base CX0 k fa fd [x] (spLawT K cs) :=
  fn_ice F (fun vs H Q E h => by
    obtain ⟨a, ns, rfl, _⟩ := h
    rfl) fun vs H Q E h => by
    obtain ⟨a, ns, rfl, hT, hS, q⟩ := h
    refine ⟨a, ns.map V.int, rfl, hS, fun H1 e1 z => ⟨a, ns, rfl, tabs_nil fun p hp => ?_, ?_, q⟩⟩
    · obtain ⟨c, hc, ec⟩ := hTT p hp
      have h1 := hT c hc
      rw [ec] at h1
      rw [e1 p.1 ?_]
      · exact h1
      · intro y
        rw [y] at h1
        rcases hS with (hS | ⟨o, hS⟩) | ⟨o, _, _, hS, _⟩
        · rw [h1] at hS
          cases hS
        · rw [h1] at hS
          cases hS
        · have n := nT c hc
          rw [ec, y, hS] at n
          cases n
    · rcases z with ⟨o, z⟩ | z
      · exact .inl ⟨o, z⟩
      · exact .inr ⟨rfl, z⟩
theorem okLawIsBodies (D : DefAt K mg "_law_is_body" sL_is_body pL_is_body) (Ds : DefAt K mg "_law_is_step" sL_is_step pL_is_step) (T : Blt mg) (C1 : Callee P w K mg base "_law_is_number" 1 pL_is_number (spLawNumber K)) (C2 : Callee P w K mg base "_law_is_thing" 8 pL_is_thing (spLawIsThing K 6)) : ∀ n : Nat, Callee P w K mg base "_law_is_body" (2 * n + 9) pL_is_body (spLawIsBody K n)
  | 0 => D.none fun vs H Q E h => by
    obtain ⟨_, _, _, _, _, _, _, _, _, _, _, h5, h6, _⟩ := h
    omega
  | n + 1 => okLawIsBody D T (okLawIsStep Ds T C1 C2 (okLawIsBodies D Ds T C1 C2 n))
theorem tt_one {a b c : Addr} {x y z : Str} (ab : a ≠ b) (ac : a ≠ c) : ∀ p ∈ [(a, x), (b, y), (c, z)], p.1 = a → p.2 = x := by
  intro p hp e
  simp only [List.mem_cons, List.not_mem_nil, or_false] at hp
  rcases hp with rfl | rfl | rfl
  · rfl
  · exact absurd e.symm ab
  · exact absurd e.symm ac
theorem tt_two {a b c : Addr} {x y z : Str} (ab : a ≠ b) (bc : b ≠ c) : ∀ p ∈ [(a, x), (b, y), (c, z)], p.1 = b → p.2 = y := by
  intro p hp e
  simp only [List.mem_cons, List.not_mem_nil, or_false] at hp
  rcases hp with rfl | rfl | rfl
  · exact absurd e ab
  · rfl
  · exact absurd e.symm bc
theorem tt_three {a b c : Addr} {x y z : Str} (ac : a ≠ c) (bc : b ≠ c) : ∀ p ∈ [(a, x), (b, y), (c, z)], p.1 = c → p.2 = z := by
  intro p hp e
  simp only [List.mem_cons, List.not_mem_nil, or_false] at hp
  rcases hp with rfl | rfl | rfl
  · exact absurd e ac
  · exact absurd e bc
  · rfl
theorem wd_ne {cH cP cW cC cT : Addr} (XP : WdE K cP cH cP cW cC cT true false) (XW : WdE K cW cH cP cW cC cT false true) : cP ≠ cW := fun z => by
  have a := XP.isP
  have b := XW.isP
  rw [← z, a] at b
  cases b
end
end Hw
namespace Hw
open PySem PySem.Spec PyProof.Rows L2 LamX NdefX
theorem Callee.at_ {P : Program} {w : World} {K : PySem.W.Frag} {mg : Str → Option Value} {base : Heap} {x : Str} {k : Nat} {ps : List Str} {sp : Sp} {f : Addr} {fd : FuncData} {oc : Value} {od : Option Addr} {osl : Array (Option Value)} (C : Callee P w K mg base x k ps sp) (m : mg x = some (.ref f)) (l : K.lookup f = some ⟨oc, od, .func fd, osl⟩) :
    FnOk P w K mg base CX0 k f fd ps sp := by
  obtain ⟨f', fd', F, m', kp, b, oc', od', osl', lk⟩ := C.ex
  rw [m] at m'
  cases m'
  rw [l] at lk
  cases lk
  exact F
theorem kit_self {K : PySem.W.Frag} {C : Addr} : PySem.W.kitOne K (.ref C) (.ref C) = some true := by
  unfold PySem.W.kitOne
  rw [if_pos (beq_self_eq_true _)]
theorem kit_no {K : PySem.W.Frag} {C D : Addr} (n : C ≠ D) (h1 : PySem.W.isClsIn K D = true) (h2 : PySem.W.typeIn K (.ref D) = some (.type "type")) (h3 : PySem.W.subIn K (.ref C) (.ref D) = some false) : PySem.W.kitOne K (.ref C) (.ref D) = some false := by
  unfold PySem.W.kitOne PySem.W.kitCls
  rw [if_neg (by rw [beq_eq_false_iff_ne.mpr fun z => n (Value.ref.inj z)]; exact Bool.false_ne_true)]
  unfold PySem.W.isClsIn at h1
  show (if ((PySem.W.clsIn K D).isSome && PySem.W.typeIn K (.ref D) == some (.type "type")) = true then PySem.W.subIn K (.ref C) (.ref D) else none) = some false
  rw [if_pos (by rw [h1, h2]; exact beq_self_eq_true _), h3]
theorem lawOk {P : Program} {w : World} {K : PySem.W.Frag} {mg : Str → Option Value} {base : Heap} {tk : Nat → Tok} {aP aW : Addr} (T : Cst K tk aP aW mg)
    (D_is_below : DefAt K mg "is_below" sis_below pis_below)
    (D_is_number : DefAt K mg "is_number" sis_number pis_number)
    (D_is_shaped : DefAt K mg "is_shaped" sis_shaped pis_shaped)
    (D_need_program : DefAt K mg "need_program" sneed_program pneed_program)
    (D_need_head : DefAt K mg "need_head" sneed_head pneed_head)
    (D_need_body : DefAt K mg "need_body" sneed_body pneed_body)
    (D_need_step : DefAt K mg "need_step" sneed_step pneed_step)
    (D_need_call : DefAt K mg "need_call" sneed_call pneed_call)
    (D_need_place : DefAt K mg "need_place" sneed_place pneed_place)
    (D_need_thing : DefAt K mg "need_thing" sneed_thing pneed_thing)
    (D_is_plain : DefAt K mg "is_plain" sis_plain pis_plain)
    (D_need_ways : DefAt K mg "need_ways" sneed_ways pneed_ways)
    (D_ran : DefAt K mg "ran" sran pran)
    (D_parted : DefAt K mg "parted" sparted pparted)
    (D_classes : DefAt K mg "classes" sclasses pclasses)
    (D_mixed : DefAt K mg "mixed" smixed pmixed)
    (D_placed : DefAt K mg "placed" splaced pplaced)
    (D_wanted : DefAt K mg "wanted" swanted pwanted)
    (D_need_small : DefAt K mg "need_small" sneed_small pneed_small)
    (D_count_of : DefAt K mg "count_of" scount_of pcount_of)
    (D_written : DefAt K mg "written" swritten pwritten)
    (D_work_words : DefAt K mg "work_words" swork_words pwork_words)
    (D_body_words : DefAt K mg "body_words" sbody_words pbody_words)
    (D_step_words : DefAt K mg "step_words" sstep_words pstep_words)
    (D_things_words : DefAt K mg "things_words" sthings_words pthings_words)
    (D_thing_words : DefAt K mg "thing_words" sthing_words pthing_words)
    (D_may_set : DefAt K mg "may_set" smay_set pmay_set)
    (D__law_taken : DefAt K mg "_law_taken" sL_taken pL_taken)
    (D__law_thing : DefAt K mg "_law_thing" sL_thing pL_thing)
    (D__law_place : DefAt K mg "_law_place" sL_place pL_place)
    (D__law_step : DefAt K mg "_law_step" sL_step pL_step)
    (D__law_body : DefAt K mg "_law_body" sL_body pL_body)
    (D__law_program : DefAt K mg "_law_program" sL_program pL_program)
    (D__law_ways : DefAt K mg "_law_ways" sL_ways pL_ways)
    (D__law_is_number : DefAt K mg "_law_is_number" sL_is_number pL_is_number)
    (D__law_is_thing : DefAt K mg "_law_is_thing" sL_is_thing pL_is_thing)
    (D__law_is_step : DefAt K mg "_law_is_step" sL_is_step pL_is_step)
    (D__law_is_body : DefAt K mg "_law_is_body" sL_is_body pL_is_body)
    (D__law_count : DefAt K mg "_law_count" sL_count pL_count)
    (D__law_is_program : DefAt K mg "_law_is_program" sL_is_program pL_is_program)
    (D__law_deep : DefAt K mg "_law_deep" sL_deep pL_deep)
    (D__law_around : DefAt K mg "_law_around" sL_around pL_around)
    (D__law_odd_step : DefAt K mg "_law_odd_step" sL_odd_step pL_odd_step)
    (D__law_spoilt : DefAt K mg "_law_spoilt" sL_spoilt pL_spoilt)
    (D__law_works : DefAt K mg "_law_works" sL_works pL_works)
    (D__law_others : DefAt K mg "_law_others" sL_others pL_others)
    (D__law_word : DefAt K mg "_law_word" sL_word pL_word)
    (D_law : DefAt K mg "law" slaw plaw)
    (MS : Mst tk mg)
    (T_ValueError : mg "ValueError" = none)
    {cBadProgram : Addr} (E_BadProgram : ExcAt K mg "BadProgram" cBadProgram)
    {cBadWays : Addr} (E_BadWays : ExcAt K mg "BadWays" cBadWays)
    {cHandError cBadCells cBadText : Addr} (G_HandError : GlA mg "HandError" cHandError) (G_BadCells : GlA mg "BadCells" cBadCells) (G_BadText : GlA mg "BadText" cBadText) (XP : WdE K cBadProgram cHandError cBadProgram cBadWays cBadCells cBadText true false) (XW : WdE K cBadWays cHandError cBadProgram cBadWays cBadCells cBadText false true) {TT : List (Addr × Str)} (TL : TabAt K mg base "law" TT) (TW : TabAt K mg base "_law_works" TT) (TO : TabAt K mg base "_law_others" TT) :
    Callee P w K mg base "law" 130 plaw (spLaw K TT) := by
  have B : Blt mg := T.toBlt
  have tn := T.toNrs
  have ne : cBadProgram ≠ cBadWays := wd_ne XP XW
  have taken := okTaken (P := P) (w := w) (base := base) D__law_taken B
  have thing := okThing D__law_thing B taken 3
  have place := okPlace D__law_place B thing
  have steps := okSteps D__law_step D__law_body B taken thing place 3
  have program := okProgram D__law_program B taken place steps.2
  have ways := okWays D__law_ways B taken
  have below := okIsBelow (P := P) (w := w) (base := base) D_is_below B
  have number := okIsNumber D_is_number tn below
  have shaped := okIsShaped (P := P) (w := w) (base := base) D_is_shaped B
  have plain := okIsPlain D_is_plain B below number shaped
  have nthing := okNeedThingX D_need_thing tn E_BadProgram shaped plain 6
  have nplace := okNeedPlaceX D_need_place T E_BadProgram nthing
  have ncall := okNeedCallX D_need_call T E_BadProgram below nthing
  have nbody := okNeedBodiesX D_need_body D_need_step T E_BadProgram shaped nthing nplace ncall 6
  have nhead := okNeedHeadX D_need_head tn E_BadProgram below
  have nprogram := okNeedProgramX D_need_program T E_BadProgram nhead nbody
  have nways := okNeedWaysX D_need_ways T E_BadWays nprogram
  have count := okCountOf (P := P) (w := w) (base := base) D_count_of B
  have nsmall := okNeedSmallX D_need_small MS E_BadProgram nprogram (count 3)
  have parted := okPartedR D_parted nways
  have mixed := okMixedR D_mixed nways
  have mayset := okMaySetR D_may_set nways
  have ran := okRanR D_ran nways
  have classes := okClassesR D_classes nprogram
  have placed := okPlacedR D_placed nsmall nways
  have wanted := okWantedR D_wanted nsmall nways
  have tw := okThingWords (P := P) (w := w) (base := base) D_thing_words B D_things_words
  have tws := okThingsWords D_things_words (tw 5)
  have bw := okWords D_body_words D_step_words B (tw 5) tws
  have ww := okWorkWords5 D_work_words B (bw 6)
  have written := okWrittenX D_written nprogram ww
  have lnumber := okLawNumber (P := P) (w := w) (base := base) D__law_is_number B
  have lthing := okLawIsThing D__law_is_thing B lnumber 6
  have lbody := okLawIsBodies D__law_is_body D__law_is_step B lnumber lthing 6
  have lcount := okLawCount (P := P) (w := w) (base := base) D__law_count B 6
  have lprogram := okLawIsProgram D__law_is_program B lbody lcount
  have deep := okLawDeep D__law_deep B taken
  have around := okLawAround D__law_around B taken
  have oddstep := okLawOddStep D__law_odd_step B taken
  have spoilt := okLawSpoilt D__law_spoilt B taken deep around oddstep
  have word := okLawWord (P := P) (w := w) (base := base) D__law_word B T_ValueError G_HandError ⟨E_BadProgram.g⟩ ⟨E_BadWays.g⟩ G_BadCells G_BadText XP XW
  have works := okLawWorks (T := TT) D__law_works TW nways parted mixed mayset ran placed wanted
  have others := okLawOthers (T := TT) D__law_others TO nprogram written classes
  exact (okLaw D_law ne B TL taken program ways word works others nprogram parted spoilt lprogram).mono (by omega)
theorem mk_D0 {K : PySem.W.Frag} {h : Heap} {mg : Str → Option Value} {f0 : Addr} {od0 an0 : Option Addr} {sl0 : Array (Option Value)} {oc0 kV0 dc0 pm0 cd0 ct0 : Value} (X : K.In h) (G : h.Ns mainGlobals mg)
    (a0 : PySem.W.nsIn K mainGlobals "is_below" = some (some (.ref f0)))
    (l0 : K.lookup f0 = some ⟨oc0, od0, .func (PySem.W.fnOf "is_below" "is_below" (defArgs sis_below) (defBody sis_below) (defScope sis_below) .none kV0 dc0 pm0 an0 cd0 ct0), sl0⟩)
    (c0 : PySem.W.codeIn K cd0 "is_below" = true)
    (k0 : PySem.W.keepIn K (.ref f0) = true) :
    DefAt K mg "is_below" sis_below pis_below := by
  have F0 := fun_mk (st := sis_below) l0 c0 k0
  exact ⟨_, _, F0, PySem.W.mg_of X G a0, F0.binds (ps := pis_below) fun _ _ _ _ _ _ us hl => by obtain ⟨x0, x1, rfl⟩ := Hw.len2 hl; rfl⟩
theorem mk_D1 {K : PySem.W.Frag} {h : Heap} {mg : Str → Option Value} {f1 : Addr} {od1 an1 : Option Addr} {sl1 : Array (Option Value)} {oc1 kV1 dc1 pm1 cd1 ct1 : Value} (X : K.In h) (G : h.Ns mainGlobals mg)
    (a1 : PySem.W.nsIn K mainGlobals "is_number" = some (some (.ref f1)))
    (l1 : K.lookup f1 = some ⟨oc1, od1, .func (PySem.W.fnOf "is_number" "is_number" (defArgs sis_number) (defBody sis_number) (defScope sis_number) .none kV1 dc1 pm1 an1 cd1 ct1), sl1⟩)
    (c1 : PySem.W.codeIn K cd1 "is_number" = true)
    (k1 : PySem.W.keepIn K (.ref f1) = true) :
    DefAt K mg "is_number" sis_number pis_number := by
  have F1 := fun_mk (st := sis_number) l1 c1 k1
  exact ⟨_, _, F1, PySem.W.mg_of X G a1, F1.binds (ps := pis_number) fun _ _ _ _ _ _ us hl => by obtain ⟨x0, rfl⟩ := Hw.len1 hl; rfl⟩
theorem mk_D2 {K : PySem.W.Frag} {h : Heap} {mg : Str → Option Value} {f2 : Addr} {od2 an2 : Option Addr} {sl2 : Array (Option Value)} {oc2 kV2 dc2 pm2 cd2 ct2 : Value} (X : K.In h) (G : h.Ns mainGlobals mg)
    (a2 : PySem.W.nsIn K mainGlobals "is_shaped" = some (some (.ref f2)))
    (l2 : K.lookup f2 = some ⟨oc2, od2, .func (PySem.W.fnOf "is_shaped" "is_shaped" (defArgs sis_shaped) (defBody sis_shaped) (defScope sis_shaped) .none kV2 dc2 pm2 an2 cd2 ct2), sl2⟩)
    (c2 : PySem.W.codeIn K cd2 "is_shaped" = true)
    (k2 : PySem.W.keepIn K (.ref f2) = true) :
    DefAt K mg "is_shaped" sis_shaped pis_shaped := by
  have F2 := fun_mk (st := sis_shaped) l2 c2 k2
  exact ⟨_, _, F2, PySem.W.mg_of X G a2, F2.binds (ps := pis_shaped) fun _ _ _ _ _ _ us hl => by obtain ⟨x0, x1, x2, rfl⟩ := Hw.len3 hl; rfl⟩
theorem mk_D3 {K : PySem.W.Frag} {h : Heap} {mg : Str → Option Value} {f3 : Addr} {od3 an3 : Option Addr} {sl3 : Array (Option Value)} {oc3 kV3 dc3 pm3 cd3 ct3 : Value} (X : K.In h) (G : h.Ns mainGlobals mg)
    (a3 : PySem.W.nsIn K mainGlobals "need_program" = some (some (.ref f3)))
    (l3 : K.lookup f3 = some ⟨oc3, od3, .func (PySem.W.fnOf "need_program" "need_program" (defArgs sneed_program) (defBody sneed_program) (defScope sneed_program) .none kV3 dc3 pm3 an3 cd3 ct3), sl3⟩)
    (c3 : PySem.W.codeIn K cd3 "need_program" = true)
    (k3 : PySem.W.keepIn K (.ref f3) = true) :
    DefAt K mg "need_program" sneed_program pneed_program := by
  have F3 := fun_mk (st := sneed_program) l3 c3 k3
  exact ⟨_, _, F3, PySem.W.mg_of X G a3, F3.binds (ps := pneed_program) fun _ _ _ _ _ _ us hl => by obtain ⟨x0, rfl⟩ := Hw.len1 hl; rfl⟩
theorem mk_D4 {K : PySem.W.Frag} {h : Heap} {mg : Str → Option Value} {f4 : Addr} {od4 an4 : Option Addr} {sl4 : Array (Option Value)} {oc4 kV4 dc4 pm4 cd4 ct4 : Value} (X : K.In h) (G : h.Ns mainGlobals mg)
    (a4 : PySem.W.nsIn K mainGlobals "need_head" = some (some (.ref f4)))
    (l4 : K.lookup f4 = some ⟨oc4, od4, .func (PySem.W.fnOf "need_head" "need_head" (defArgs sneed_head) (defBody sneed_head) (defScope sneed_head) .none kV4 dc4 pm4 an4 cd4 ct4), sl4⟩)
    (c4 : PySem.W.codeIn K cd4 "need_head" = true)
    (k4 : PySem.W.keepIn K (.ref f4) = true) :
    DefAt K mg "need_head" sneed_head pneed_head := by
  have F4 := fun_mk (st := sneed_head) l4 c4 k4
  exact ⟨_, _, F4, PySem.W.mg_of X G a4, F4.binds (ps := pneed_head) fun _ _ _ _ _ _ us hl => by obtain ⟨x0, x1, rfl⟩ := Hw.len2 hl; rfl⟩
theorem mk_D5 {K : PySem.W.Frag} {h : Heap} {mg : Str → Option Value} {f5 : Addr} {od5 an5 : Option Addr} {sl5 : Array (Option Value)} {oc5 kV5 dc5 pm5 cd5 ct5 : Value} (X : K.In h) (G : h.Ns mainGlobals mg)
    (a5 : PySem.W.nsIn K mainGlobals "need_body" = some (some (.ref f5)))
    (l5 : K.lookup f5 = some ⟨oc5, od5, .func (PySem.W.fnOf "need_body" "need_body" (defArgs sneed_body) (defBody sneed_body) (defScope sneed_body) .none kV5 dc5 pm5 an5 cd5 ct5), sl5⟩)
    (c5 : PySem.W.codeIn K cd5 "need_body" = true)
    (k5 : PySem.W.keepIn K (.ref f5) = true) :
    DefAt K mg "need_body" sneed_body pneed_body := by
  have F5 := fun_mk (st := sneed_body) l5 c5 k5
  exact ⟨_, _, F5, PySem.W.mg_of X G a5, F5.binds (ps := pneed_body) fun _ _ _ _ _ _ us hl => by obtain ⟨x0, x1, x2, x3, x4, rfl⟩ := Hw.len5 hl; rfl⟩
theorem mk_D6 {K : PySem.W.Frag} {h : Heap} {mg : Str → Option Value} {f6 : Addr} {od6 an6 : Option Addr} {sl6 : Array (Option Value)} {oc6 kV6 dc6 pm6 cd6 ct6 : Value} (X : K.In h) (G : h.Ns mainGlobals mg)
    (a6 : PySem.W.nsIn K mainGlobals "need_step" = some (some (.ref f6)))
    (l6 : K.lookup f6 = some ⟨oc6, od6, .func (PySem.W.fnOf "need_step" "need_step" (defArgs sneed_step) (defBody sneed_step) (defScope sneed_step) .none kV6 dc6 pm6 an6 cd6 ct6), sl6⟩)
    (c6 : PySem.W.codeIn K cd6 "need_step" = true)
    (k6 : PySem.W.keepIn K (.ref f6) = true) :
    DefAt K mg "need_step" sneed_step pneed_step := by
  have F6 := fun_mk (st := sneed_step) l6 c6 k6
  exact ⟨_, _, F6, PySem.W.mg_of X G a6, F6.binds (ps := pneed_step) fun _ _ _ _ _ _ us hl => by obtain ⟨x0, x1, x2, x3, x4, rfl⟩ := Hw.len5 hl; rfl⟩
theorem mk_D7 {K : PySem.W.Frag} {h : Heap} {mg : Str → Option Value} {f7 : Addr} {od7 an7 : Option Addr} {sl7 : Array (Option Value)} {oc7 kV7 dc7 pm7 cd7 ct7 : Value} (X : K.In h) (G : h.Ns mainGlobals mg)
    (a7 : PySem.W.nsIn K mainGlobals "need_call" = some (some (.ref f7)))
    (l7 : K.lookup f7 = some ⟨oc7, od7, .func (PySem.W.fnOf "need_call" "need_call" (defArgs sneed_call) (defBody sneed_call) (defScope sneed_call) .none kV7 dc7 pm7 an7 cd7 ct7), sl7⟩)
    (c7 : PySem.W.codeIn K cd7 "need_call" = true)
    (k7 : PySem.W.keepIn K (.ref f7) = true) :
    DefAt K mg "need_call" sneed_call pneed_call := by
  have F7 := fun_mk (st := sneed_call) l7 c7 k7
  exact ⟨_, _, F7, PySem.W.mg_of X G a7, F7.binds (ps := pneed_call) fun _ _ _ _ _ _ us hl => by obtain ⟨x0, x1, x2, x3, rfl⟩ := Hw.len4 hl; rfl⟩
theorem mk_D8 {K : PySem.W.Frag} {h : Heap} {mg : Str → Option Value} {f8 : Addr} {od8 an8 : Option Addr} {sl8 : Array (Option Value)} {oc8 kV8 dc8 pm8 cd8 ct8 : Value} (X : K.In h) (G : h.Ns mainGlobals mg)
    (a8 : PySem.W.nsIn K mainGlobals "need_place" = some (some (.ref f8)))
    (l8 : K.lookup f8 = some ⟨oc8, od8, .func (PySem.W.fnOf "need_place" "need_place" (defArgs sneed_place) (defBody sneed_place) (defScope sneed_place) .none kV8 dc8 pm8 an8 cd8 ct8), sl8⟩)
    (c8 : PySem.W.codeIn K cd8 "need_place" = true)
    (k8 : PySem.W.keepIn K (.ref f8) = true) :
    DefAt K mg "need_place" sneed_place pneed_place := by
  have F8 := fun_mk (st := sneed_place) l8 c8 k8
  exact ⟨_, _, F8, PySem.W.mg_of X G a8, F8.binds (ps := pneed_place) fun _ _ _ _ _ _ us hl => by obtain ⟨x0, x1, rfl⟩ := Hw.len2 hl; rfl⟩
theorem mk_D9 {K : PySem.W.Frag} {h : Heap} {mg : Str → Option Value} {f9 : Addr} {od9 an9 : Option Addr} {sl9 : Array (Option Value)} {oc9 kV9 dc9 pm9 cd9 ct9 : Value} (X : K.In h) (G : h.Ns mainGlobals mg)
    (a9 : PySem.W.nsIn K mainGlobals "need_thing" = some (some (.ref f9)))
    (l9 : K.lookup f9 = some ⟨oc9, od9, .func (PySem.W.fnOf "need_thing" "need_thing" (defArgs sneed_thing) (defBody sneed_thing) (defScope sneed_thing) .none kV9 dc9 pm9 an9 cd9 ct9), sl9⟩)
    (c9 : PySem.W.codeIn K cd9 "need_thing" = true)
    (k9 : PySem.W.keepIn K (.ref f9) = true) :
    DefAt K mg "need_thing" sneed_thing pneed_thing := by
  have F9 := fun_mk (st := sneed_thing) l9 c9 k9
  exact ⟨_, _, F9, PySem.W.mg_of X G a9, F9.binds (ps := pneed_thing) fun _ _ _ _ _ _ us hl => by obtain ⟨x0, x1, x2, rfl⟩ := Hw.len3 hl; rfl⟩
theorem mk_D10 {K : PySem.W.Frag} {h : Heap} {mg : Str → Option Value} {f10 : Addr} {od10 an10 : Option Addr} {sl10 : Array (Option Value)} {oc10 kV10 dc10 pm10 cd10 ct10 : Value} (X : K.In h) (G : h.Ns mainGlobals mg)
    (a10 : PySem.W.nsIn K mainGlobals "is_plain" = some (some (.ref f10)))
    (l10 : K.lookup f10 = some ⟨oc10, od10, .func (PySem.W.fnOf "is_plain" "is_plain" (defArgs sis_plain) (defBody sis_plain) (defScope sis_plain) .none kV10 dc10 pm10 an10 cd10 ct10), sl10⟩)
    (c10 : PySem.W.codeIn K cd10 "is_plain" = true)
    (k10 : PySem.W.keepIn K (.ref f10) = true) :
    DefAt K mg "is_plain" sis_plain pis_plain := by
  have F10 := fun_mk (st := sis_plain) l10 c10 k10
  exact ⟨_, _, F10, PySem.W.mg_of X G a10, F10.binds (ps := pis_plain) fun _ _ _ _ _ _ us hl => by obtain ⟨x0, x1, rfl⟩ := Hw.len2 hl; rfl⟩
theorem mk_D11 {K : PySem.W.Frag} {h : Heap} {mg : Str → Option Value} {f11 : Addr} {od11 an11 : Option Addr} {sl11 : Array (Option Value)} {oc11 kV11 dc11 pm11 cd11 ct11 : Value} (X : K.In h) (G : h.Ns mainGlobals mg)
    (a11 : PySem.W.nsIn K mainGlobals "need_ways" = some (some (.ref f11)))
    (l11 : K.lookup f11 = some ⟨oc11, od11, .func (PySem.W.fnOf "need_ways" "need_ways" (defArgs sneed_ways) (defBody sneed_ways) (defScope sneed_ways) .none kV11 dc11 pm11 an11 cd11 ct11), sl11⟩)
    (c11 : PySem.W.codeIn K cd11 "need_ways" = true)
    (k11 : PySem.W.keepIn K (.ref f11) = true) :
    DefAt K mg "need_ways" sneed_ways pneed_ways := by
  have F11 := fun_mk (st := sneed_ways) l11 c11 k11
  exact ⟨_, _, F11, PySem.W.mg_of X G a11, F11.binds (ps := pneed_ways) fun _ _ _ _ _ _ us hl => by obtain ⟨x0, x1, rfl⟩ := Hw.len2 hl; rfl⟩
theorem mk_D12 {K : PySem.W.Frag} {h : Heap} {mg : Str → Option Value} {f12 : Addr} {od12 an12 : Option Addr} {sl12 : Array (Option Value)} {oc12 kV12 dc12 pm12 cd12 ct12 : Value} (X : K.In h) (G : h.Ns mainGlobals mg)
    (a12 : PySem.W.nsIn K mainGlobals "ran" = some (some (.ref f12)))
    (l12 : K.lookup f12 = some ⟨oc12, od12, .func (PySem.W.fnOf "ran" "ran" (defArgs sran) (defBody sran) (defScope sran) .none kV12 dc12 pm12 an12 cd12 ct12), sl12⟩)
    (c12 : PySem.W.codeIn K cd12 "ran" = true)
    (k12 : PySem.W.keepIn K (.ref f12) = true) :
    DefAt K mg "ran" sran pran := by
  have F12 := fun_mk (st := sran) l12 c12 k12
  exact ⟨_, _, F12, PySem.W.mg_of X G a12, F12.binds (ps := pran) fun _ _ _ _ _ _ us hl => by obtain ⟨x0, x1, x2, rfl⟩ := Hw.len3 hl; rfl⟩
theorem mk_D13 {K : PySem.W.Frag} {h : Heap} {mg : Str → Option Value} {f13 : Addr} {od13 an13 : Option Addr} {sl13 : Array (Option Value)} {oc13 kV13 dc13 pm13 cd13 ct13 : Value} (X : K.In h) (G : h.Ns mainGlobals mg)
    (a13 : PySem.W.nsIn K mainGlobals "parted" = some (some (.ref f13)))
    (l13 : K.lookup f13 = some ⟨oc13, od13, .func (PySem.W.fnOf "parted" "parted" (defArgs sparted) (defBody sparted) (defScope sparted) .none kV13 dc13 pm13 an13 cd13 ct13), sl13⟩)
    (c13 : PySem.W.codeIn K cd13 "parted" = true)
    (k13 : PySem.W.keepIn K (.ref f13) = true) :
    DefAt K mg "parted" sparted pparted := by
  have F13 := fun_mk (st := sparted) l13 c13 k13
  exact ⟨_, _, F13, PySem.W.mg_of X G a13, F13.binds (ps := pparted) fun _ _ _ _ _ _ us hl => by obtain ⟨x0, x1, x2, rfl⟩ := Hw.len3 hl; rfl⟩
theorem mk_D14 {K : PySem.W.Frag} {h : Heap} {mg : Str → Option Value} {f14 : Addr} {od14 an14 : Option Addr} {sl14 : Array (Option Value)} {oc14 kV14 dc14 pm14 cd14 ct14 : Value} (X : K.In h) (G : h.Ns mainGlobals mg)
    (a14 : PySem.W.nsIn K mainGlobals "classes" = some (some (.ref f14)))
    (l14 : K.lookup f14 = some ⟨oc14, od14, .func (PySem.W.fnOf "classes" "classes" (defArgs sclasses) (defBody sclasses) (defScope sclasses) .none kV14 dc14 pm14 an14 cd14 ct14), sl14⟩)
    (c14 : PySem.W.codeIn K cd14 "classes" = true)
    (k14 : PySem.W.keepIn K (.ref f14) = true) :
    DefAt K mg "classes" sclasses pclasses := by
  have F14 := fun_mk (st := sclasses) l14 c14 k14
  exact ⟨_, _, F14, PySem.W.mg_of X G a14, F14.binds (ps := pclasses) fun _ _ _ _ _ _ us hl => by obtain ⟨x0, rfl⟩ := Hw.len1 hl; rfl⟩
theorem mk_D15 {K : PySem.W.Frag} {h : Heap} {mg : Str → Option Value} {f15 : Addr} {od15 an15 : Option Addr} {sl15 : Array (Option Value)} {oc15 kV15 dc15 pm15 cd15 ct15 : Value} (X : K.In h) (G : h.Ns mainGlobals mg)
    (a15 : PySem.W.nsIn K mainGlobals "mixed" = some (some (.ref f15)))
    (l15 : K.lookup f15 = some ⟨oc15, od15, .func (PySem.W.fnOf "mixed" "mixed" (defArgs smixed) (defBody smixed) (defScope smixed) .none kV15 dc15 pm15 an15 cd15 ct15), sl15⟩)
    (c15 : PySem.W.codeIn K cd15 "mixed" = true)
    (k15 : PySem.W.keepIn K (.ref f15) = true) :
    DefAt K mg "mixed" smixed pmixed := by
  have F15 := fun_mk (st := smixed) l15 c15 k15
  exact ⟨_, _, F15, PySem.W.mg_of X G a15, F15.binds (ps := pmixed) fun _ _ _ _ _ _ us hl => by obtain ⟨x0, x1, rfl⟩ := Hw.len2 hl; rfl⟩
theorem mk_D16 {K : PySem.W.Frag} {h : Heap} {mg : Str → Option Value} {f16 : Addr} {od16 an16 : Option Addr} {sl16 : Array (Option Value)} {oc16 kV16 dc16 pm16 cd16 ct16 : Value} (X : K.In h) (G : h.Ns mainGlobals mg)
    (a16 : PySem.W.nsIn K mainGlobals "placed" = some (some (.ref f16)))
    (l16 : K.lookup f16 = some ⟨oc16, od16, .func (PySem.W.fnOf "placed" "placed" (defArgs splaced) (defBody splaced) (defScope splaced) .none kV16 dc16 pm16 an16 cd16 ct16), sl16⟩)
    (c16 : PySem.W.codeIn K cd16 "placed" = true)
    (k16 : PySem.W.keepIn K (.ref f16) = true) :
    DefAt K mg "placed" splaced pplaced := by
  have F16 := fun_mk (st := splaced) l16 c16 k16
  exact ⟨_, _, F16, PySem.W.mg_of X G a16, F16.binds (ps := pplaced) fun _ _ _ _ _ _ us hl => by obtain ⟨x0, x1, rfl⟩ := Hw.len2 hl; rfl⟩
theorem mk_D17 {K : PySem.W.Frag} {h : Heap} {mg : Str → Option Value} {f17 : Addr} {od17 an17 : Option Addr} {sl17 : Array (Option Value)} {oc17 kV17 dc17 pm17 cd17 ct17 : Value} (X : K.In h) (G : h.Ns mainGlobals mg)
    (a17 : PySem.W.nsIn K mainGlobals "wanted" = some (some (.ref f17)))
    (l17 : K.lookup f17 = some ⟨oc17, od17, .func (PySem.W.fnOf "wanted" "wanted" (defArgs swanted) (defBody swanted) (defScope swanted) .none kV17 dc17 pm17 an17 cd17 ct17), sl17⟩)
    (c17 : PySem.W.codeIn K cd17 "wanted" = true)
    (k17 : PySem.W.keepIn K (.ref f17) = true) :
    DefAt K mg "wanted" swanted pwanted := by
  have F17 := fun_mk (st := swanted) l17 c17 k17
  exact ⟨_, _, F17, PySem.W.mg_of X G a17, F17.binds (ps := pwanted) fun _ _ _ _ _ _ us hl => by obtain ⟨x0, x1, rfl⟩ := Hw.len2 hl; rfl⟩
theorem mk_D18 {K : PySem.W.Frag} {h : Heap} {mg : Str → Option Value} {f18 : Addr} {od18 an18 : Option Addr} {sl18 : Array (Option Value)} {oc18 kV18 dc18 pm18 cd18 ct18 : Value} (X : K.In h) (G : h.Ns mainGlobals mg)
    (a18 : PySem.W.nsIn K mainGlobals "need_small" = some (some (.ref f18)))
    (l18 : K.lookup f18 = some ⟨oc18, od18, .func (PySem.W.fnOf "need_small" "need_small" (defArgs sneed_small) (defBody sneed_small) (defScope sneed_small) .none kV18 dc18 pm18 an18 cd18 ct18), sl18⟩)
    (c18 : PySem.W.codeIn K cd18 "need_small" = true)
    (k18 : PySem.W.keepIn K (.ref f18) = true) :
    DefAt K mg "need_small" sneed_small pneed_small := by
  have F18 := fun_mk (st := sneed_small) l18 c18 k18
  exact ⟨_, _, F18, PySem.W.mg_of X G a18, F18.binds (ps := pneed_small) fun _ _ _ _ _ _ us hl => by obtain ⟨x0, rfl⟩ := Hw.len1 hl; rfl⟩
theorem mk_D19 {K : PySem.W.Frag} {h : Heap} {mg : Str → Option Value} {f19 : Addr} {od19 an19 : Option Addr} {sl19 : Array (Option Value)} {oc19 kV19 dc19 pm19 cd19 ct19 : Value} (X : K.In h) (G : h.Ns mainGlobals mg)
    (a19 : PySem.W.nsIn K mainGlobals "count_of" = some (some (.ref f19)))
    (l19 : K.lookup f19 = some ⟨oc19, od19, .func (PySem.W.fnOf "count_of" "count_of" (defArgs scount_of) (defBody scount_of) (defScope scount_of) .none kV19 dc19 pm19 an19 cd19 ct19), sl19⟩)
    (c19 : PySem.W.codeIn K cd19 "count_of" = true)
    (k19 : PySem.W.keepIn K (.ref f19) = true) :
    DefAt K mg "count_of" scount_of pcount_of := by
  have F19 := fun_mk (st := scount_of) l19 c19 k19
  exact ⟨_, _, F19, PySem.W.mg_of X G a19, F19.binds (ps := pcount_of) fun _ _ _ _ _ _ us hl => by obtain ⟨x0, rfl⟩ := Hw.len1 hl; rfl⟩
theorem mk_D20 {K : PySem.W.Frag} {h : Heap} {mg : Str → Option Value} {f20 : Addr} {od20 an20 : Option Addr} {sl20 : Array (Option Value)} {oc20 kV20 dc20 pm20 cd20 ct20 : Value} (X : K.In h) (G : h.Ns mainGlobals mg)
    (a20 : PySem.W.nsIn K mainGlobals "written" = some (some (.ref f20)))
    (l20 : K.lookup f20 = some ⟨oc20, od20, .func (PySem.W.fnOf "written" "written" (defArgs swritten) (defBody swritten) (defScope swritten) .none kV20 dc20 pm20 an20 cd20 ct20), sl20⟩)
    (c20 : PySem.W.codeIn K cd20 "written" = true)
    (k20 : PySem.W.keepIn K (.ref f20) = true) :
    DefAt K mg "written" swritten pwritten := by
  have F20 := fun_mk (st := swritten) l20 c20 k20
  exact ⟨_, _, F20, PySem.W.mg_of X G a20, F20.binds (ps := pwritten) fun _ _ _ _ _ _ us hl => by obtain ⟨x0, rfl⟩ := Hw.len1 hl; rfl⟩
theorem mk_D21 {K : PySem.W.Frag} {h : Heap} {mg : Str → Option Value} {f21 : Addr} {od21 an21 : Option Addr} {sl21 : Array (Option Value)} {oc21 kV21 dc21 pm21 cd21 ct21 : Value} (X : K.In h) (G : h.Ns mainGlobals mg)
    (a21 : PySem.W.nsIn K mainGlobals "work_words" = some (some (.ref f21)))
    (l21 : K.lookup f21 = some ⟨oc21, od21, .func (PySem.W.fnOf "work_words" "work_words" (defArgs swork_words) (defBody swork_words) (defScope swork_words) .none kV21 dc21 pm21 an21 cd21 ct21), sl21⟩)
    (c21 : PySem.W.codeIn K cd21 "work_words" = true)
    (k21 : PySem.W.keepIn K (.ref f21) = true) :
    DefAt K mg "work_words" swork_words pwork_words := by
  have F21 := fun_mk (st := swork_words) l21 c21 k21
  exact ⟨_, _, F21, PySem.W.mg_of X G a21, F21.binds (ps := pwork_words) fun _ _ _ _ _ _ us hl => by obtain ⟨x0, rfl⟩ := Hw.len1 hl; rfl⟩
theorem mk_D22 {K : PySem.W.Frag} {h : Heap} {mg : Str → Option Value} {f22 : Addr} {od22 an22 : Option Addr} {sl22 : Array (Option Value)} {oc22 kV22 dc22 pm22 cd22 ct22 : Value} (X : K.In h) (G : h.Ns mainGlobals mg)
    (a22 : PySem.W.nsIn K mainGlobals "body_words" = some (some (.ref f22)))
    (l22 : K.lookup f22 = some ⟨oc22, od22, .func (PySem.W.fnOf "body_words" "body_words" (defArgs sbody_words) (defBody sbody_words) (defScope sbody_words) .none kV22 dc22 pm22 an22 cd22 ct22), sl22⟩)
    (c22 : PySem.W.codeIn K cd22 "body_words" = true)
    (k22 : PySem.W.keepIn K (.ref f22) = true) :
    DefAt K mg "body_words" sbody_words pbody_words := by
  have F22 := fun_mk (st := sbody_words) l22 c22 k22
  exact ⟨_, _, F22, PySem.W.mg_of X G a22, F22.binds (ps := pbody_words) fun _ _ _ _ _ _ us hl => by obtain ⟨x0, rfl⟩ := Hw.len1 hl; rfl⟩
theorem mk_D23 {K : PySem.W.Frag} {h : Heap} {mg : Str → Option Value} {f23 : Addr} {od23 an23 : Option Addr} {sl23 : Array (Option Value)} {oc23 kV23 dc23 pm23 cd23 ct23 : Value} (X : K.In h) (G : h.Ns mainGlobals mg)
    (a23 : PySem.W.nsIn K mainGlobals "step_words" = some (some (.ref f23)))
    (l23 : K.lookup f23 = some ⟨oc23, od23, .func (PySem.W.fnOf "step_words" "step_words" (defArgs sstep_words) (defBody sstep_words) (defScope sstep_words) .none kV23 dc23 pm23 an23 cd23 ct23), sl23⟩)
    (c23 : PySem.W.codeIn K cd23 "step_words" = true)
    (k23 : PySem.W.keepIn K (.ref f23) = true) :
    DefAt K mg "step_words" sstep_words pstep_words := by
  have F23 := fun_mk (st := sstep_words) l23 c23 k23
  exact ⟨_, _, F23, PySem.W.mg_of X G a23, F23.binds (ps := pstep_words) fun _ _ _ _ _ _ us hl => by obtain ⟨x0, rfl⟩ := Hw.len1 hl; rfl⟩
theorem mk_D24 {K : PySem.W.Frag} {h : Heap} {mg : Str → Option Value} {f24 : Addr} {od24 an24 : Option Addr} {sl24 : Array (Option Value)} {oc24 kV24 dc24 pm24 cd24 ct24 : Value} (X : K.In h) (G : h.Ns mainGlobals mg)
    (a24 : PySem.W.nsIn K mainGlobals "things_words" = some (some (.ref f24)))
    (l24 : K.lookup f24 = some ⟨oc24, od24, .func (PySem.W.fnOf "things_words" "things_words" (defArgs sthings_words) (defBody sthings_words) (defScope sthings_words) .none kV24 dc24 pm24 an24 cd24 ct24), sl24⟩)
    (c24 : PySem.W.codeIn K cd24 "things_words" = true)
    (k24 : PySem.W.keepIn K (.ref f24) = true) :
    DefAt K mg "things_words" sthings_words pthings_words := by
  have F24 := fun_mk (st := sthings_words) l24 c24 k24
  exact ⟨_, _, F24, PySem.W.mg_of X G a24, F24.binds (ps := pthings_words) fun _ _ _ _ _ _ us hl => by obtain ⟨x0, rfl⟩ := Hw.len1 hl; rfl⟩
theorem mk_D25 {K : PySem.W.Frag} {h : Heap} {mg : Str → Option Value} {f25 : Addr} {od25 an25 : Option Addr} {sl25 : Array (Option Value)} {oc25 kV25 dc25 pm25 cd25 ct25 : Value} (X : K.In h) (G : h.Ns mainGlobals mg)
    (a25 : PySem.W.nsIn K mainGlobals "thing_words" = some (some (.ref f25)))
    (l25 : K.lookup f25 = some ⟨oc25, od25, .func (PySem.W.fnOf "thing_words" "thing_words" (defArgs sthing_words) (defBody sthing_words) (defScope sthing_words) .none kV25 dc25 pm25 an25 cd25 ct25), sl25⟩)
    (c25 : PySem.W.codeIn K cd25 "thing_words" = true)
    (k25 : PySem.W.keepIn K (.ref f25) = true) :
    DefAt K mg "thing_words" sthing_words pthing_words := by
  have F25 := fun_mk (st := sthing_words) l25 c25 k25
  exact ⟨_, _, F25, PySem.W.mg_of X G a25, F25.binds (ps := pthing_words) fun _ _ _ _ _ _ us hl => by obtain ⟨x0, rfl⟩ := Hw.len1 hl; rfl⟩
theorem mk_D26 {K : PySem.W.Frag} {h : Heap} {mg : Str → Option Value} {f26 : Addr} {od26 an26 : Option Addr} {sl26 : Array (Option Value)} {oc26 kV26 dc26 pm26 cd26 ct26 : Value} (X : K.In h) (G : h.Ns mainGlobals mg)
    (a26 : PySem.W.nsIn K mainGlobals "may_set" = some (some (.ref f26)))
    (l26 : K.lookup f26 = some ⟨oc26, od26, .func (PySem.W.fnOf "may_set" "may_set" (defArgs smay_set) (defBody smay_set) (defScope smay_set) .none kV26 dc26 pm26 an26 cd26 ct26), sl26⟩)
    (c26 : PySem.W.codeIn K cd26 "may_set" = true)
    (k26 : PySem.W.keepIn K (.ref f26) = true) :
    DefAt K mg "may_set" smay_set pmay_set := by
  have F26 := fun_mk (st := smay_set) l26 c26 k26
  exact ⟨_, _, F26, PySem.W.mg_of X G a26, F26.binds (ps := pmay_set) fun _ _ _ _ _ _ us hl => by obtain ⟨x0, x1, rfl⟩ := Hw.len2 hl; rfl⟩
theorem mk_D27 {K : PySem.W.Frag} {h : Heap} {mg : Str → Option Value} {f27 : Addr} {od27 an27 : Option Addr} {sl27 : Array (Option Value)} {oc27 kV27 dc27 pm27 cd27 ct27 : Value} (X : K.In h) (G : h.Ns mainGlobals mg)
    (a27 : PySem.W.nsIn K mainGlobals "_law_taken" = some (some (.ref f27)))
    (l27 : K.lookup f27 = some ⟨oc27, od27, .func (PySem.W.fnOf "_law_taken" "_law_taken" (defArgs sL_taken) (defBody sL_taken) (defScope sL_taken) .none kV27 dc27 pm27 an27 cd27 ct27), sl27⟩)
    (c27 : PySem.W.codeIn K cd27 "_law_taken" = true)
    (k27 : PySem.W.keepIn K (.ref f27) = true) :
    DefAt K mg "_law_taken" sL_taken pL_taken := by
  have F27 := fun_mk (st := sL_taken) l27 c27 k27
  exact ⟨_, _, F27, PySem.W.mg_of X G a27, F27.binds (ps := pL_taken) fun _ _ _ _ _ _ us hl => by obtain ⟨x0, x1, rfl⟩ := Hw.len2 hl; rfl⟩
theorem mk_D28 {K : PySem.W.Frag} {h : Heap} {mg : Str → Option Value} {f28 : Addr} {od28 an28 : Option Addr} {sl28 : Array (Option Value)} {oc28 kV28 dc28 pm28 cd28 ct28 : Value} (X : K.In h) (G : h.Ns mainGlobals mg)
    (a28 : PySem.W.nsIn K mainGlobals "_law_thing" = some (some (.ref f28)))
    (l28 : K.lookup f28 = some ⟨oc28, od28, .func (PySem.W.fnOf "_law_thing" "_law_thing" (defArgs sL_thing) (defBody sL_thing) (defScope sL_thing) .none kV28 dc28 pm28 an28 cd28 ct28), sl28⟩)
    (c28 : PySem.W.codeIn K cd28 "_law_thing" = true)
    (k28 : PySem.W.keepIn K (.ref f28) = true) :
    DefAt K mg "_law_thing" sL_thing pL_thing := by
  have F28 := fun_mk (st := sL_thing) l28 c28 k28
  exact ⟨_, _, F28, PySem.W.mg_of X G a28, F28.binds (ps := pL_thing) fun _ _ _ _ _ _ us hl => by obtain ⟨x0, x1, x2, rfl⟩ := Hw.len3 hl; rfl⟩
theorem mk_D29 {K : PySem.W.Frag} {h : Heap} {mg : Str → Option Value} {f29 : Addr} {od29 an29 : Option Addr} {sl29 : Array (Option Value)} {oc29 kV29 dc29 pm29 cd29 ct29 : Value} (X : K.In h) (G : h.Ns mainGlobals mg)
    (a29 : PySem.W.nsIn K mainGlobals "_law_place" = some (some (.ref f29)))
    (l29 : K.lookup f29 = some ⟨oc29, od29, .func (PySem.W.fnOf "_law_place" "_law_place" (defArgs sL_place) (defBody sL_place) (defScope sL_place) .none kV29 dc29 pm29 an29 cd29 ct29), sl29⟩)
    (c29 : PySem.W.codeIn K cd29 "_law_place" = true)
    (k29 : PySem.W.keepIn K (.ref f29) = true) :
    DefAt K mg "_law_place" sL_place pL_place := by
  have F29 := fun_mk (st := sL_place) l29 c29 k29
  exact ⟨_, _, F29, PySem.W.mg_of X G a29, F29.binds (ps := pL_place) fun _ _ _ _ _ _ us hl => by obtain ⟨x0, x1, x2, rfl⟩ := Hw.len3 hl; rfl⟩
theorem mk_D30 {K : PySem.W.Frag} {h : Heap} {mg : Str → Option Value} {f30 : Addr} {od30 an30 : Option Addr} {sl30 : Array (Option Value)} {oc30 kV30 dc30 pm30 cd30 ct30 : Value} (X : K.In h) (G : h.Ns mainGlobals mg)
    (a30 : PySem.W.nsIn K mainGlobals "_law_step" = some (some (.ref f30)))
    (l30 : K.lookup f30 = some ⟨oc30, od30, .func (PySem.W.fnOf "_law_step" "_law_step" (defArgs sL_step) (defBody sL_step) (defScope sL_step) .none kV30 dc30 pm30 an30 cd30 ct30), sl30⟩)
    (c30 : PySem.W.codeIn K cd30 "_law_step" = true)
    (k30 : PySem.W.keepIn K (.ref f30) = true) :
    DefAt K mg "_law_step" sL_step pL_step := by
  have F30 := fun_mk (st := sL_step) l30 c30 k30
  exact ⟨_, _, F30, PySem.W.mg_of X G a30, F30.binds (ps := pL_step) fun _ _ _ _ _ _ us hl => by obtain ⟨x0, x1, x2, x3, x4, rfl⟩ := Hw.len5 hl; rfl⟩
theorem mk_D31 {K : PySem.W.Frag} {h : Heap} {mg : Str → Option Value} {f31 : Addr} {od31 an31 : Option Addr} {sl31 : Array (Option Value)} {oc31 kV31 dc31 pm31 cd31 ct31 : Value} (X : K.In h) (G : h.Ns mainGlobals mg)
    (a31 : PySem.W.nsIn K mainGlobals "_law_body" = some (some (.ref f31)))
    (l31 : K.lookup f31 = some ⟨oc31, od31, .func (PySem.W.fnOf "_law_body" "_law_body" (defArgs sL_body) (defBody sL_body) (defScope sL_body) .none kV31 dc31 pm31 an31 cd31 ct31), sl31⟩)
    (c31 : PySem.W.codeIn K cd31 "_law_body" = true)
    (k31 : PySem.W.keepIn K (.ref f31) = true) :
    DefAt K mg "_law_body" sL_body pL_body := by
  have F31 := fun_mk (st := sL_body) l31 c31 k31
  exact ⟨_, _, F31, PySem.W.mg_of X G a31, F31.binds (ps := pL_body) fun _ _ _ _ _ _ us hl => by obtain ⟨x0, x1, x2, x3, x4, rfl⟩ := Hw.len5 hl; rfl⟩
theorem mk_D32 {K : PySem.W.Frag} {h : Heap} {mg : Str → Option Value} {f32 : Addr} {od32 an32 : Option Addr} {sl32 : Array (Option Value)} {oc32 kV32 dc32 pm32 cd32 ct32 : Value} (X : K.In h) (G : h.Ns mainGlobals mg)
    (a32 : PySem.W.nsIn K mainGlobals "_law_program" = some (some (.ref f32)))
    (l32 : K.lookup f32 = some ⟨oc32, od32, .func (PySem.W.fnOf "_law_program" "_law_program" (defArgs sL_program) (defBody sL_program) (defScope sL_program) .none kV32 dc32 pm32 an32 cd32 ct32), sl32⟩)
    (c32 : PySem.W.codeIn K cd32 "_law_program" = true)
    (k32 : PySem.W.keepIn K (.ref f32) = true) :
    DefAt K mg "_law_program" sL_program pL_program := by
  have F32 := fun_mk (st := sL_program) l32 c32 k32
  exact ⟨_, _, F32, PySem.W.mg_of X G a32, F32.binds (ps := pL_program) fun _ _ _ _ _ _ us hl => by obtain ⟨x0, x1, rfl⟩ := Hw.len2 hl; rfl⟩
theorem mk_D33 {K : PySem.W.Frag} {h : Heap} {mg : Str → Option Value} {f33 : Addr} {od33 an33 : Option Addr} {sl33 : Array (Option Value)} {oc33 kV33 dc33 pm33 cd33 ct33 : Value} (X : K.In h) (G : h.Ns mainGlobals mg)
    (a33 : PySem.W.nsIn K mainGlobals "_law_ways" = some (some (.ref f33)))
    (l33 : K.lookup f33 = some ⟨oc33, od33, .func (PySem.W.fnOf "_law_ways" "_law_ways" (defArgs sL_ways) (defBody sL_ways) (defScope sL_ways) .none kV33 dc33 pm33 an33 cd33 ct33), sl33⟩)
    (c33 : PySem.W.codeIn K cd33 "_law_ways" = true)
    (k33 : PySem.W.keepIn K (.ref f33) = true) :
    DefAt K mg "_law_ways" sL_ways pL_ways := by
  have F33 := fun_mk (st := sL_ways) l33 c33 k33
  exact ⟨_, _, F33, PySem.W.mg_of X G a33, F33.binds (ps := pL_ways) fun _ _ _ _ _ _ us hl => by obtain ⟨x0, x1, x2, rfl⟩ := Hw.len3 hl; rfl⟩
theorem mk_D34 {K : PySem.W.Frag} {h : Heap} {mg : Str → Option Value} {f34 : Addr} {od34 an34 : Option Addr} {sl34 : Array (Option Value)} {oc34 kV34 dc34 pm34 cd34 ct34 : Value} (X : K.In h) (G : h.Ns mainGlobals mg)
    (a34 : PySem.W.nsIn K mainGlobals "_law_is_number" = some (some (.ref f34)))
    (l34 : K.lookup f34 = some ⟨oc34, od34, .func (PySem.W.fnOf "_law_is_number" "_law_is_number" (defArgs sL_is_number) (defBody sL_is_number) (defScope sL_is_number) .none kV34 dc34 pm34 an34 cd34 ct34), sl34⟩)
    (c34 : PySem.W.codeIn K cd34 "_law_is_number" = true)
    (k34 : PySem.W.keepIn K (.ref f34) = true) :
    DefAt K mg "_law_is_number" sL_is_number pL_is_number := by
  have F34 := fun_mk (st := sL_is_number) l34 c34 k34
  exact ⟨_, _, F34, PySem.W.mg_of X G a34, F34.binds (ps := pL_is_number) fun _ _ _ _ _ _ us hl => by obtain ⟨x0, x1, rfl⟩ := Hw.len2 hl; rfl⟩
theorem mk_D35 {K : PySem.W.Frag} {h : Heap} {mg : Str → Option Value} {f35 : Addr} {od35 an35 : Option Addr} {sl35 : Array (Option Value)} {oc35 kV35 dc35 pm35 cd35 ct35 : Value} (X : K.In h) (G : h.Ns mainGlobals mg)
    (a35 : PySem.W.nsIn K mainGlobals "_law_is_thing" = some (some (.ref f35)))
    (l35 : K.lookup f35 = some ⟨oc35, od35, .func (PySem.W.fnOf "_law_is_thing" "_law_is_thing" (defArgs sL_is_thing) (defBody sL_is_thing) (defScope sL_is_thing) .none kV35 dc35 pm35 an35 cd35 ct35), sl35⟩)
    (c35 : PySem.W.codeIn K cd35 "_law_is_thing" = true)
    (k35 : PySem.W.keepIn K (.ref f35) = true) :
    DefAt K mg "_law_is_thing" sL_is_thing pL_is_thing := by
  have F35 := fun_mk (st := sL_is_thing) l35 c35 k35
  exact ⟨_, _, F35, PySem.W.mg_of X G a35, F35.binds (ps := pL_is_thing) fun _ _ _ _ _ _ us hl => by obtain ⟨x0, x1, x2, rfl⟩ := Hw.len3 hl; rfl⟩
theorem mk_D36 {K : PySem.W.Frag} {h : Heap} {mg : Str → Option Value} {f36 : Addr} {od36 an36 : Option Addr} {sl36 : Array (Option Value)} {oc36 kV36 dc36 pm36 cd36 ct36 : Value} (X : K.In h) (G : h.Ns mainGlobals mg)
    (a36 : PySem.W.nsIn K mainGlobals "_law_is_step" = some (some (.ref f36)))
    (l36 : K.lookup f36 = some ⟨oc36, od36, .func (PySem.W.fnOf "_law_is_step" "_law_is_step" (defArgs sL_is_step) (defBody sL_is_step) (defScope sL_is_step) .none kV36 dc36 pm36 an36 cd36 ct36), sl36⟩)
    (c36 : PySem.W.codeIn K cd36 "_law_is_step" = true)
    (k36 : PySem.W.keepIn K (.ref f36) = true) :
    DefAt K mg "_law_is_step" sL_is_step pL_is_step := by
  have F36 := fun_mk (st := sL_is_step) l36 c36 k36
  exact ⟨_, _, F36, PySem.W.mg_of X G a36, F36.binds (ps := pL_is_step) fun _ _ _ _ _ _ us hl => by obtain ⟨x0, x1, x2, x3, rfl⟩ := Hw.len4 hl; rfl⟩
theorem mk_D37 {K : PySem.W.Frag} {h : Heap} {mg : Str → Option Value} {f37 : Addr} {od37 an37 : Option Addr} {sl37 : Array (Option Value)} {oc37 kV37 dc37 pm37 cd37 ct37 : Value} (X : K.In h) (G : h.Ns mainGlobals mg)
    (a37 : PySem.W.nsIn K mainGlobals "_law_is_body" = some (some (.ref f37)))
    (l37 : K.lookup f37 = some ⟨oc37, od37, .func (PySem.W.fnOf "_law_is_body" "_law_is_body" (defArgs sL_is_body) (defBody sL_is_body) (defScope sL_is_body) .none kV37 dc37 pm37 an37 cd37 ct37), sl37⟩)
    (c37 : PySem.W.codeIn K cd37 "_law_is_body" = true)
    (k37 : PySem.W.keepIn K (.ref f37) = true) :
    DefAt K mg "_law_is_body" sL_is_body pL_is_body := by
  have F37 := fun_mk (st := sL_is_body) l37 c37 k37
  exact ⟨_, _, F37, PySem.W.mg_of X G a37, F37.binds (ps := pL_is_body) fun _ _ _ _ _ _ us hl => by obtain ⟨x0, x1, x2, x3, rfl⟩ := Hw.len4 hl; rfl⟩
theorem mk_D38 {K : PySem.W.Frag} {h : Heap} {mg : Str → Option Value} {f38 : Addr} {od38 an38 : Option Addr} {sl38 : Array (Option Value)} {oc38 kV38 dc38 pm38 cd38 ct38 : Value} (X : K.In h) (G : h.Ns mainGlobals mg)
    (a38 : PySem.W.nsIn K mainGlobals "_law_count" = some (some (.ref f38)))
    (l38 : K.lookup f38 = some ⟨oc38, od38, .func (PySem.W.fnOf "_law_count" "_law_count" (defArgs sL_count) (defBody sL_count) (defScope sL_count) .none kV38 dc38 pm38 an38 cd38 ct38), sl38⟩)
    (c38 : PySem.W.codeIn K cd38 "_law_count" = true)
    (k38 : PySem.W.keepIn K (.ref f38) = true) :
    DefAt K mg "_law_count" sL_count pL_count := by
  have F38 := fun_mk (st := sL_count) l38 c38 k38
  exact ⟨_, _, F38, PySem.W.mg_of X G a38, F38.binds (ps := pL_count) fun _ _ _ _ _ _ us hl => by obtain ⟨x0, rfl⟩ := Hw.len1 hl; rfl⟩
theorem mk_D39 {K : PySem.W.Frag} {h : Heap} {mg : Str → Option Value} {f39 : Addr} {od39 an39 : Option Addr} {sl39 : Array (Option Value)} {oc39 kV39 dc39 pm39 cd39 ct39 : Value} (X : K.In h) (G : h.Ns mainGlobals mg)
    (a39 : PySem.W.nsIn K mainGlobals "_law_is_program" = some (some (.ref f39)))
    (l39 : K.lookup f39 = some ⟨oc39, od39, .func (PySem.W.fnOf "_law_is_program" "_law_is_program" (defArgs sL_is_program) (defBody sL_is_program) (defScope sL_is_program) .none kV39 dc39 pm39 an39 cd39 ct39), sl39⟩)
    (c39 : PySem.W.codeIn K cd39 "_law_is_program" = true)
    (k39 : PySem.W.keepIn K (.ref f39) = true) :
    DefAt K mg "_law_is_program" sL_is_program pL_is_program := by
  have F39 := fun_mk (st := sL_is_program) l39 c39 k39
  exact ⟨_, _, F39, PySem.W.mg_of X G a39, F39.binds (ps := pL_is_program) fun _ _ _ _ _ _ us hl => by obtain ⟨x0, rfl⟩ := Hw.len1 hl; rfl⟩
theorem mk_D40 {K : PySem.W.Frag} {h : Heap} {mg : Str → Option Value} {f40 : Addr} {od40 an40 : Option Addr} {sl40 : Array (Option Value)} {oc40 kV40 dc40 pm40 cd40 ct40 : Value} (X : K.In h) (G : h.Ns mainGlobals mg)
    (a40 : PySem.W.nsIn K mainGlobals "_law_deep" = some (some (.ref f40)))
    (l40 : K.lookup f40 = some ⟨oc40, od40, .func (PySem.W.fnOf "_law_deep" "_law_deep" (defArgs sL_deep) (defBody sL_deep) (defScope sL_deep) .none kV40 dc40 pm40 an40 cd40 ct40), sl40⟩)
    (c40 : PySem.W.codeIn K cd40 "_law_deep" = true)
    (k40 : PySem.W.keepIn K (.ref f40) = true) :
    DefAt K mg "_law_deep" sL_deep pL_deep := by
  have F40 := fun_mk (st := sL_deep) l40 c40 k40
  exact ⟨_, _, F40, PySem.W.mg_of X G a40, F40.binds (ps := pL_deep) fun _ _ _ _ _ _ us hl => by obtain ⟨x0, x1, x2, rfl⟩ := Hw.len3 hl; rfl⟩
theorem mk_D41 {K : PySem.W.Frag} {h : Heap} {mg : Str → Option Value} {f41 : Addr} {od41 an41 : Option Addr} {sl41 : Array (Option Value)} {oc41 kV41 dc41 pm41 cd41 ct41 : Value} (X : K.In h) (G : h.Ns mainGlobals mg)
    (a41 : PySem.W.nsIn K mainGlobals "_law_around" = some (some (.ref f41)))
    (l41 : K.lookup f41 = some ⟨oc41, od41, .func (PySem.W.fnOf "_law_around" "_law_around" (defArgs sL_around) (defBody sL_around) (defScope sL_around) .none kV41 dc41 pm41 an41 cd41 ct41), sl41⟩)
    (c41 : PySem.W.codeIn K cd41 "_law_around" = true)
    (k41 : PySem.W.keepIn K (.ref f41) = true) :
    DefAt K mg "_law_around" sL_around pL_around := by
  have F41 := fun_mk (st := sL_around) l41 c41 k41
  exact ⟨_, _, F41, PySem.W.mg_of X G a41, F41.binds (ps := pL_around) fun _ _ _ _ _ _ us hl => by obtain ⟨x0, x1, x2, rfl⟩ := Hw.len3 hl; rfl⟩
theorem mk_D42 {K : PySem.W.Frag} {h : Heap} {mg : Str → Option Value} {f42 : Addr} {od42 an42 : Option Addr} {sl42 : Array (Option Value)} {oc42 kV42 dc42 pm42 cd42 ct42 : Value} (X : K.In h) (G : h.Ns mainGlobals mg)
    (a42 : PySem.W.nsIn K mainGlobals "_law_odd_step" = some (some (.ref f42)))
    (l42 : K.lookup f42 = some ⟨oc42, od42, .func (PySem.W.fnOf "_law_odd_step" "_law_odd_step" (defArgs sL_odd_step) (defBody sL_odd_step) (defScope sL_odd_step) .none kV42 dc42 pm42 an42 cd42 ct42), sl42⟩)
    (c42 : PySem.W.codeIn K cd42 "_law_odd_step" = true)
    (k42 : PySem.W.keepIn K (.ref f42) = true) :
    DefAt K mg "_law_odd_step" sL_odd_step pL_odd_step := by
  have F42 := fun_mk (st := sL_odd_step) l42 c42 k42
  exact ⟨_, _, F42, PySem.W.mg_of X G a42, F42.binds (ps := pL_odd_step) fun _ _ _ _ _ _ us hl => by obtain ⟨x0, rfl⟩ := Hw.len1 hl; rfl⟩
theorem mk_D43 {K : PySem.W.Frag} {h : Heap} {mg : Str → Option Value} {f43 : Addr} {od43 an43 : Option Addr} {sl43 : Array (Option Value)} {oc43 kV43 dc43 pm43 cd43 ct43 : Value} (X : K.In h) (G : h.Ns mainGlobals mg)
    (a43 : PySem.W.nsIn K mainGlobals "_law_spoilt" = some (some (.ref f43)))
    (l43 : K.lookup f43 = some ⟨oc43, od43, .func (PySem.W.fnOf "_law_spoilt" "_law_spoilt" (defArgs sL_spoilt) (defBody sL_spoilt) (defScope sL_spoilt) .none kV43 dc43 pm43 an43 cd43 ct43), sl43⟩)
    (c43 : PySem.W.codeIn K cd43 "_law_spoilt" = true)
    (k43 : PySem.W.keepIn K (.ref f43) = true) :
    DefAt K mg "_law_spoilt" sL_spoilt pL_spoilt := by
  have F43 := fun_mk (st := sL_spoilt) l43 c43 k43
  exact ⟨_, _, F43, PySem.W.mg_of X G a43, F43.binds (ps := pL_spoilt) fun _ _ _ _ _ _ us hl => by obtain ⟨x0, x1, rfl⟩ := Hw.len2 hl; rfl⟩
theorem mk_D44 {K : PySem.W.Frag} {h : Heap} {mg : Str → Option Value} {f44 : Addr} {od44 an44 : Option Addr} {sl44 : Array (Option Value)} {oc44 kV44 dc44 pm44 ct44 : Value} {ccW : Addr} (X : K.In h) (G : h.Ns mainGlobals mg)
    (a44 : PySem.W.nsIn K mainGlobals "_law_works" = some (some (.ref f44)))
    (l44 : K.lookup f44 = some ⟨oc44, od44, .func (PySem.W.fnOf "_law_works" "_law_works" (defArgs sL_works) (defBody sL_works) (defScope sL_works) .none kV44 dc44 pm44 an44 (.ref ccW) ct44), sl44⟩)
    (c44 : PySem.W.codeIn K (.ref ccW) "_law_works" = true)
    (k44 : PySem.W.keepIn K (.ref f44) = true) :
    DefAt K mg "_law_works" sL_works pL_works ∧ ∃ (f : Addr) (fd : FuncData) (oc : Value) (od : Option Addr) (osl : Array (Option Value)), mg "_law_works" = some (.ref f) ∧ K.lookup f = some ⟨oc, od, .func fd, osl⟩ ∧ fd.code = .ref ccW := by
  have F44 := fun_mk (st := sL_works) l44 c44 k44
  exact ⟨⟨_, _, F44, PySem.W.mg_of X G a44, F44.binds (ps := pL_works) fun _ _ _ _ _ _ us hl => by obtain ⟨x0, x1, x2, rfl⟩ := Hw.len3 hl; rfl⟩, _, _, _, _, _, PySem.W.mg_of X G a44, l44, rfl⟩
theorem mk_QW {K : PySem.W.Frag} {h : Heap} {mg : Str → Option Value} {ccW PW : Addr} {ts : List Addr} {odmW : Option Addr} {vmW : Array Value} {slmW : Array (Option Value)} (X : K.In h) (G : h.Ns mainGlobals mg)
    (tm_W : K.lookup ccW = some ⟨.type "code", odmW, .fields vmW, slmW⟩)
    (tr_W : (vmW[11]? : Option Value) = some (.ref PW))
    (th_W : PySem.W.codeHdIn K ccW PW = true)
    (tn_W : K.lookup PW = none)
    (ti_W : PW ∈ ts) :
    PySem.W.codeHdIn K ccW PW = true ∧ K.lookup PW = none ∧ PW ∈ ts := by
  exact ⟨th_W, tn_W, ti_W⟩
theorem mk_D45 {K : PySem.W.Frag} {h : Heap} {mg : Str → Option Value} {f45 : Addr} {od45 an45 : Option Addr} {sl45 : Array (Option Value)} {oc45 kV45 dc45 pm45 ct45 : Value} {ccO : Addr} (X : K.In h) (G : h.Ns mainGlobals mg)
    (a45 : PySem.W.nsIn K mainGlobals "_law_others" = some (some (.ref f45)))
    (l45 : K.lookup f45 = some ⟨oc45, od45, .func (PySem.W.fnOf "_law_others" "_law_others" (defArgs sL_others) (defBody sL_others) (defScope sL_others) .none kV45 dc45 pm45 an45 (.ref ccO) ct45), sl45⟩)
    (c45 : PySem.W.codeIn K (.ref ccO) "_law_others" = true)
    (k45 : PySem.W.keepIn K (.ref f45) = true) :
    DefAt K mg "_law_others" sL_others pL_others ∧ ∃ (f : Addr) (fd : FuncData) (oc : Value) (od : Option Addr) (osl : Array (Option Value)), mg "_law_others" = some (.ref f) ∧ K.lookup f = some ⟨oc, od, .func fd, osl⟩ ∧ fd.code = .ref ccO := by
  have F45 := fun_mk (st := sL_others) l45 c45 k45
  exact ⟨⟨_, _, F45, PySem.W.mg_of X G a45, F45.binds (ps := pL_others) fun _ _ _ _ _ _ us hl => by obtain ⟨x0, rfl⟩ := Hw.len1 hl; rfl⟩, _, _, _, _, _, PySem.W.mg_of X G a45, l45, rfl⟩
theorem mk_QO {K : PySem.W.Frag} {h : Heap} {mg : Str → Option Value} {ccO PO : Addr} {ts : List Addr} {odmO : Option Addr} {vmO : Array Value} {slmO : Array (Option Value)} (X : K.In h) (G : h.Ns mainGlobals mg)
    (tm_O : K.lookup ccO = some ⟨.type "code", odmO, .fields vmO, slmO⟩)
    (tr_O : (vmO[11]? : Option Value) = some (.ref PO))
    (th_O : PySem.W.codeHdIn K ccO PO = true)
    (tn_O : K.lookup PO = none)
    (ti_O : PO ∈ ts) :
    PySem.W.codeHdIn K ccO PO = true ∧ K.lookup PO = none ∧ PO ∈ ts := by
  exact ⟨th_O, tn_O, ti_O⟩
theorem mk_D46 {K : PySem.W.Frag} {h : Heap} {mg : Str → Option Value} {f46 : Addr} {od46 an46 : Option Addr} {sl46 : Array (Option Value)} {oc46 kV46 dc46 pm46 cd46 ct46 : Value} (X : K.In h) (G : h.Ns mainGlobals mg)
    (a46 : PySem.W.nsIn K mainGlobals "_law_word" = some (some (.ref f46)))
    (l46 : K.lookup f46 = some ⟨oc46, od46, .func (PySem.W.fnOf "_law_word" "_law_word" (defArgs sL_word) (defBody sL_word) (defScope sL_word) .none kV46 dc46 pm46 an46 cd46 ct46), sl46⟩)
    (c46 : PySem.W.codeIn K cd46 "_law_word" = true)
    (k46 : PySem.W.keepIn K (.ref f46) = true) :
    DefAt K mg "_law_word" sL_word pL_word := by
  have F46 := fun_mk (st := sL_word) l46 c46 k46
  exact ⟨_, _, F46, PySem.W.mg_of X G a46, F46.binds (ps := pL_word) fun _ _ _ _ _ _ us hl => by obtain ⟨x0, rfl⟩ := Hw.len1 hl; rfl⟩
theorem mk_QL {K : PySem.W.Frag} {h : Heap} {mg : Str → Option Value} {ccL PL : Addr} {ts : List Addr} {odmL : Option Addr} {vmL : Array Value} {slmL : Array (Option Value)} (X : K.In h) (G : h.Ns mainGlobals mg)
    (tm_L : K.lookup ccL = some ⟨.type "code", odmL, .fields vmL, slmL⟩)
    (tr_L : (vmL[11]? : Option Value) = some (.ref PL))
    (th_L : PySem.W.codeHdIn K ccL PL = true)
    (tn_L : K.lookup PL = none)
    (ti_L : PL ∈ ts) :
    PySem.W.codeHdIn K ccL PL = true ∧ K.lookup PL = none ∧ PL ∈ ts := by
  exact ⟨th_L, tn_L, ti_L⟩
theorem mk_E_BadProgram {K : PySem.W.Frag} {h : Heap} {mg : Str → Option Value} {XBadProgram : Addr} (X : K.In h) (G : h.Ns mainGlobals mg)
    (xg_BadProgram : PySem.W.nsIn K mainGlobals "BadProgram" = some (some (.ref XBadProgram)))
    (xq_BadProgram : PySem.W.excIn K XBadProgram [.type "ValueError", .type "Exception", .type "BaseException", .type "object"] "ValueError.__new__" = true)
    (xk_BadProgram : PySem.W.keepIn K (.ref XBadProgram) = true)
    (xb_BadProgram : PySem.W.subIn K (.ref XBadProgram) (.type "BaseException") = some true)
    (xt_BadProgram : PySem.W.typeIn K (.ref XBadProgram) = some (.type "type"))
    (xga_BadProgram : PySem.W.findIn K (.ref XBadProgram) "__getattribute__" = some (some (.builtin "BaseException.__getattribute__")))
    (xgt_BadProgram : PySem.W.findIn K (.ref XBadProgram) "__getattr__" = some none)
    (xd_BadProgram : PySem.W.hasDictIn K XBadProgram = true)
    (xa_BadProgram : PySem.W.findIn K (.ref XBadProgram) "__class__" = some (some (.builtin "object.__class__")))
    (xm_BadProgram : PySem.W.mroIn K XBadProgram (.type "object") = some true)
    (xs_BadProgram : PySem.W.subIn K (.ref XBadProgram) (.ref XBadProgram) = some true)
    (xv_BadProgram : PySem.W.subIn K (.ref XBadProgram) (.type "ValueError") = some true)
    (hn : PySem.W.specialIn K (.builtin "object.__class__") "__get__" = some (some (.builtin "getset_descriptor.__get__")))
    (htk : PySem.W.takesIn K (.builtin "object.__class__") = some true) :
    ExcAt K mg "BadProgram" XBadProgram := by
  exact excAt_mk (PySem.W.mg_of X G xg_BadProgram) xq_BadProgram xk_BadProgram xb_BadProgram xt_BadProgram xga_BadProgram xgt_BadProgram xd_BadProgram xa_BadProgram hn htk xm_BadProgram xs_BadProgram xv_BadProgram
theorem mk_E_BadWays {K : PySem.W.Frag} {h : Heap} {mg : Str → Option Value} {XBadWays : Addr} (X : K.In h) (G : h.Ns mainGlobals mg)
    (xg_BadWays : PySem.W.nsIn K mainGlobals "BadWays" = some (some (.ref XBadWays)))
    (xq_BadWays : PySem.W.excIn K XBadWays [.type "ValueError", .type "Exception", .type "BaseException", .type "object"] "ValueError.__new__" = true)
    (xk_BadWays : PySem.W.keepIn K (.ref XBadWays) = true)
    (xb_BadWays : PySem.W.subIn K (.ref XBadWays) (.type "BaseException") = some true)
    (xt_BadWays : PySem.W.typeIn K (.ref XBadWays) = some (.type "type"))
    (xga_BadWays : PySem.W.findIn K (.ref XBadWays) "__getattribute__" = some (some (.builtin "BaseException.__getattribute__")))
    (xgt_BadWays : PySem.W.findIn K (.ref XBadWays) "__getattr__" = some none)
    (xd_BadWays : PySem.W.hasDictIn K XBadWays = true)
    (xa_BadWays : PySem.W.findIn K (.ref XBadWays) "__class__" = some (some (.builtin "object.__class__")))
    (xm_BadWays : PySem.W.mroIn K XBadWays (.type "object") = some true)
    (xs_BadWays : PySem.W.subIn K (.ref XBadWays) (.ref XBadWays) = some true)
    (xv_BadWays : PySem.W.subIn K (.ref XBadWays) (.type "ValueError") = some true)
    (hn : PySem.W.specialIn K (.builtin "object.__class__") "__get__" = some (some (.builtin "getset_descriptor.__get__")))
    (htk : PySem.W.takesIn K (.builtin "object.__class__") = some true) :
    ExcAt K mg "BadWays" XBadWays := by
  exact excAt_mk (PySem.W.mg_of X G xg_BadWays) xq_BadWays xk_BadWays xb_BadWays xt_BadWays xga_BadWays xgt_BadWays xd_BadWays xa_BadWays hn htk xm_BadWays xs_BadWays xv_BadWays
theorem mk_G_HandError {K : PySem.W.Frag} {h : Heap} {mg : Str → Option Value} {XHandError : Addr} (X : K.In h) (G : h.Ns mainGlobals mg)
    (xg_HandError : PySem.W.nsIn K mainGlobals "HandError" = some (some (.ref XHandError))) :
    GlA mg "HandError" XHandError := by
  exact ⟨PySem.W.mg_of X G xg_HandError⟩
theorem mk_G_BadCells {K : PySem.W.Frag} {h : Heap} {mg : Str → Option Value} {XBadCells : Addr} (X : K.In h) (G : h.Ns mainGlobals mg)
    (xg_BadCells : PySem.W.nsIn K mainGlobals "BadCells" = some (some (.ref XBadCells))) :
    GlA mg "BadCells" XBadCells := by
  exact ⟨PySem.W.mg_of X G xg_BadCells⟩
theorem mk_G_BadText {K : PySem.W.Frag} {h : Heap} {mg : Str → Option Value} {XBadText : Addr} (X : K.In h) (G : h.Ns mainGlobals mg)
    (xg_BadText : PySem.W.nsIn K mainGlobals "BadText" = some (some (.ref XBadText))) :
    GlA mg "BadText" XBadText := by
  exact ⟨PySem.W.mg_of X G xg_BadText⟩
theorem mk_WD_BadProgram {K : PySem.W.Frag} {h : Heap} {mg : Str → Option Value} {XHandError XBadProgram XBadWays XBadCells XBadText : Addr} (X : K.In h) (G : h.Ns mainGlobals mg)
    (xga_BadProgram : PySem.W.findIn K (.ref XBadProgram) "__getattribute__" = some (some (.builtin "BaseException.__getattribute__")))
    (xgt_BadProgram : PySem.W.findIn K (.ref XBadProgram) "__getattr__" = some none)
    (xb_BadProgram : PySem.W.subIn K (.ref XBadProgram) (.type "BaseException") = some true)
    (xd_BadProgram : PySem.W.hasDictIn K XBadProgram = true)
    (xa_BadProgram : PySem.W.findIn K (.ref XBadProgram) "__class__" = some (some (.builtin "object.__class__")))
    (xm_BadProgram : PySem.W.mroIn K XBadProgram (.type "object") = some true)
    (xv_BadProgram : PySem.W.subIn K (.ref XBadProgram) (.type "ValueError") = some true)
    (xh_BadProgram : PySem.W.subIn K (.ref XBadProgram) (.ref XHandError) = some true)
    (hn : PySem.W.specialIn K (.builtin "object.__class__") "__get__" = some (some (.builtin "getset_descriptor.__get__")))
    (htk : PySem.W.takesIn K (.builtin "object.__class__") = some true)
    (xb_HandError : PySem.W.subIn K (.ref XHandError) (.type "BaseException") = some true)
    (xd_HandError : PySem.W.hasDictIn K XHandError = true)
    (xt_HandError : PySem.W.typeIn K (.ref XHandError) = some (.type "type"))
    (xn_BadProgram_BadWays : XBadProgram ≠ XBadWays)
    (xi_BadWays : PySem.W.isClsIn K XBadWays = true)
    (xt_BadWays : PySem.W.typeIn K (.ref XBadWays) = some (.type "type"))
    (xo_BadProgram_BadWays : PySem.W.subIn K (.ref XBadProgram) (.ref XBadWays) = some false)
    (xn_BadProgram_BadCells : XBadProgram ≠ XBadCells)
    (xi_BadCells : PySem.W.isClsIn K XBadCells = true)
    (xt_BadCells : PySem.W.typeIn K (.ref XBadCells) = some (.type "type"))
    (xo_BadProgram_BadCells : PySem.W.subIn K (.ref XBadProgram) (.ref XBadCells) = some false)
    (xn_BadProgram_BadText : XBadProgram ≠ XBadText)
    (xi_BadText : PySem.W.isClsIn K XBadText = true)
    (xt_BadText : PySem.W.typeIn K (.ref XBadText) = some (.type "type"))
    (xo_BadProgram_BadText : PySem.W.subIn K (.ref XBadProgram) (.ref XBadText) = some false) :
    WdE K XBadProgram XHandError XBadProgram XBadWays XBadCells XBadText true false := by
  exact ⟨⟨xga_BadProgram, xgt_BadProgram, xb_BadProgram, xd_BadProgram, xa_BadProgram, hn, htk, xm_BadProgram⟩, PySem.W.exm_ref xb_HandError xd_HandError xt_HandError xh_BadProgram, kit_ve xv_BadProgram, kit_self, kit_no xn_BadProgram_BadWays xi_BadWays xt_BadWays xo_BadProgram_BadWays, kit_no xn_BadProgram_BadCells xi_BadCells xt_BadCells xo_BadProgram_BadCells, kit_no xn_BadProgram_BadText xi_BadText xt_BadText xo_BadProgram_BadText⟩
theorem mk_WD_BadWays {K : PySem.W.Frag} {h : Heap} {mg : Str → Option Value} {XHandError XBadProgram XBadWays XBadCells XBadText : Addr} (X : K.In h) (G : h.Ns mainGlobals mg)
    (xga_BadWays : PySem.W.findIn K (.ref XBadWays) "__getattribute__" = some (some (.builtin "BaseException.__getattribute__")))
    (xgt_BadWays : PySem.W.findIn K (.ref XBadWays) "__getattr__" = some none)
    (xb_BadWays : PySem.W.subIn K (.ref XBadWays) (.type "BaseException") = some true)
    (xd_BadWays : PySem.W.hasDictIn K XBadWays = true)
    (xa_BadWays : PySem.W.findIn K (.ref XBadWays) "__class__" = some (some (.builtin "object.__class__")))
    (xm_BadWays : PySem.W.mroIn K XBadWays (.type "object") = some true)
    (xv_BadWays : PySem.W.subIn K (.ref XBadWays) (.type "ValueError") = some true)
    (xh_BadWays : PySem.W.subIn K (.ref XBadWays) (.ref XHandError) = some true)
    (hn : PySem.W.specialIn K (.builtin "object.__class__") "__get__" = some (some (.builtin "getset_descriptor.__get__")))
    (htk : PySem.W.takesIn K (.builtin "object.__class__") = some true)
    (xb_HandError : PySem.W.subIn K (.ref XHandError) (.type "BaseException") = some true)
    (xd_HandError : PySem.W.hasDictIn K XHandError = true)
    (xt_HandError : PySem.W.typeIn K (.ref XHandError) = some (.type "type"))
    (xn_BadWays_BadProgram : XBadWays ≠ XBadProgram)
    (xi_BadProgram : PySem.W.isClsIn K XBadProgram = true)
    (xt_BadProgram : PySem.W.typeIn K (.ref XBadProgram) = some (.type "type"))
    (xo_BadWays_BadProgram : PySem.W.subIn K (.ref XBadWays) (.ref XBadProgram) = some false)
    (xn_BadWays_BadCells : XBadWays ≠ XBadCells)
    (xi_BadCells : PySem.W.isClsIn K XBadCells = true)
    (xt_BadCells : PySem.W.typeIn K (.ref XBadCells) = some (.type "type"))
    (xo_BadWays_BadCells : PySem.W.subIn K (.ref XBadWays) (.ref XBadCells) = some false)
    (xn_BadWays_BadText : XBadWays ≠ XBadText)
    (xi_BadText : PySem.W.isClsIn K XBadText = true)
    (xt_BadText : PySem.W.typeIn K (.ref XBadText) = some (.type "type"))
    (xo_BadWays_BadText : PySem.W.subIn K (.ref XBadWays) (.ref XBadText) = some false) :
    WdE K XBadWays XHandError XBadProgram XBadWays XBadCells XBadText false true := by
  exact ⟨⟨xga_BadWays, xgt_BadWays, xb_BadWays, xd_BadWays, xa_BadWays, hn, htk, xm_BadWays⟩, PySem.W.exm_ref xb_HandError xd_HandError xt_HandError xh_BadWays, kit_ve xv_BadWays, kit_no xn_BadWays_BadProgram xi_BadProgram xt_BadProgram xo_BadWays_BadProgram, kit_self, kit_no xn_BadWays_BadCells xi_BadCells xt_BadCells xo_BadWays_BadCells, kit_no xn_BadWays_BadText xi_BadText xt_BadText xo_BadWays_BadText⟩
theorem all_mk {l : PySem.W.OpenLaw} {w : World} {K : PySem.W.Frag} {h : Heap} {mg : Str → Option Value} {fa XBadProgram XBadWays XHandError XBadCells XBadText aP aW f47 : Addr} (X : K.In h) (G : h.Ns mainGlobals mg) (hfa : mg "law" = some (.ref fa))
    {ccL ccW ccO PL PW PO : Addr} {ts : List Addr}
    {od47 an47 odTP odTW : Option Addr} {sl47 slTP slTW : Array (Option Value)} {oc47 kV47 dc47 pm47  ct47 : Value} {t0 t1 t2 t3 t4 t5 t6 t7 t8 uP0 uP1 uP2 uW0 uW1 uW2 uW3 : Tok} {nTP nTW : Nat}
    (D0 : DefAt K mg "is_below" sis_below pis_below)
    (D1 : DefAt K mg "is_number" sis_number pis_number)
    (D2 : DefAt K mg "is_shaped" sis_shaped pis_shaped)
    (D3 : DefAt K mg "need_program" sneed_program pneed_program)
    (D4 : DefAt K mg "need_head" sneed_head pneed_head)
    (D5 : DefAt K mg "need_body" sneed_body pneed_body)
    (D6 : DefAt K mg "need_step" sneed_step pneed_step)
    (D7 : DefAt K mg "need_call" sneed_call pneed_call)
    (D8 : DefAt K mg "need_place" sneed_place pneed_place)
    (D9 : DefAt K mg "need_thing" sneed_thing pneed_thing)
    (D10 : DefAt K mg "is_plain" sis_plain pis_plain)
    (D11 : DefAt K mg "need_ways" sneed_ways pneed_ways)
    (D12 : DefAt K mg "ran" sran pran)
    (D13 : DefAt K mg "parted" sparted pparted)
    (D14 : DefAt K mg "classes" sclasses pclasses)
    (D15 : DefAt K mg "mixed" smixed pmixed)
    (D16 : DefAt K mg "placed" splaced pplaced)
    (D17 : DefAt K mg "wanted" swanted pwanted)
    (D18 : DefAt K mg "need_small" sneed_small pneed_small)
    (D19 : DefAt K mg "count_of" scount_of pcount_of)
    (D20 : DefAt K mg "written" swritten pwritten)
    (D21 : DefAt K mg "work_words" swork_words pwork_words)
    (D22 : DefAt K mg "body_words" sbody_words pbody_words)
    (D23 : DefAt K mg "step_words" sstep_words pstep_words)
    (D24 : DefAt K mg "things_words" sthings_words pthings_words)
    (D25 : DefAt K mg "thing_words" sthing_words pthing_words)
    (D26 : DefAt K mg "may_set" smay_set pmay_set)
    (D27 : DefAt K mg "_law_taken" sL_taken pL_taken)
    (D28 : DefAt K mg "_law_thing" sL_thing pL_thing)
    (D29 : DefAt K mg "_law_place" sL_place pL_place)
    (D30 : DefAt K mg "_law_step" sL_step pL_step)
    (D31 : DefAt K mg "_law_body" sL_body pL_body)
    (D32 : DefAt K mg "_law_program" sL_program pL_program)
    (D33 : DefAt K mg "_law_ways" sL_ways pL_ways)
    (D34 : DefAt K mg "_law_is_number" sL_is_number pL_is_number)
    (D35 : DefAt K mg "_law_is_thing" sL_is_thing pL_is_thing)
    (D36 : DefAt K mg "_law_is_step" sL_is_step pL_is_step)
    (D37 : DefAt K mg "_law_is_body" sL_is_body pL_is_body)
    (D38 : DefAt K mg "_law_count" sL_count pL_count)
    (D39 : DefAt K mg "_law_is_program" sL_is_program pL_is_program)
    (D40 : DefAt K mg "_law_deep" sL_deep pL_deep)
    (D41 : DefAt K mg "_law_around" sL_around pL_around)
    (D42 : DefAt K mg "_law_odd_step" sL_odd_step pL_odd_step)
    (D43 : DefAt K mg "_law_spoilt" sL_spoilt pL_spoilt)
    (D44 : DefAt K mg "_law_works" sL_works pL_works ∧ ∃ (f : Addr) (fd : FuncData) (oc : Value) (od : Option Addr) (osl : Array (Option Value)), mg "_law_works" = some (.ref f) ∧ K.lookup f = some ⟨oc, od, .func fd, osl⟩ ∧ fd.code = .ref ccW)
    (QW : PySem.W.codeHdIn K ccW PW = true ∧ K.lookup PW = none ∧ PW ∈ ts)
    (D45 : DefAt K mg "_law_others" sL_others pL_others ∧ ∃ (f : Addr) (fd : FuncData) (oc : Value) (od : Option Addr) (osl : Array (Option Value)), mg "_law_others" = some (.ref f) ∧ K.lookup f = some ⟨oc, od, .func fd, osl⟩ ∧ fd.code = .ref ccO)
    (QO : PySem.W.codeHdIn K ccO PO = true ∧ K.lookup PO = none ∧ PO ∈ ts)
    (D46 : DefAt K mg "_law_word" sL_word pL_word)
    (a47 : PySem.W.nsIn K mainGlobals "law" = some (some (.ref f47)))
    (l47 : K.lookup f47 = some ⟨oc47, od47, .func (PySem.W.fnOf "law" "law" (defArgs slaw) (defBody slaw) (defScope slaw) .none kV47 dc47 pm47 an47 (.ref ccL) ct47), sl47⟩)
    (c47 : PySem.W.codeIn K (.ref ccL) "law" = true)
    (k47 : PySem.W.keepIn K (.ref f47) = true)
    (QL : PySem.W.codeHdIn K ccL PL = true ∧ K.lookup PL = none ∧ PL ∈ ts)
    (E_BadProgram : ExcAt K mg "BadProgram" XBadProgram)
    (E_BadWays : ExcAt K mg "BadWays" XBadWays)
    (ne_LW : PL ≠ PW)
    (ne_LO : PL ≠ PO)
    (ne_WO : PW ≠ PO)
    (G_HandError : GlA mg "HandError" XHandError)
    (G_BadCells : GlA mg "BadCells" XBadCells)
    (G_BadText : GlA mg "BadText" XBadText)
    (WD_BadProgram : WdE K XBadProgram XHandError XBadProgram XBadWays XBadCells XBadText true false)
    (WD_BadWays : WdE K XBadWays XHandError XBadProgram XBadWays XBadCells XBadText false true)
    (z_ValueError : PySem.W.nsIn K mainGlobals "ValueError" = some none)
    (i_NUMBERS : PySem.W.nsIn K mainGlobals "NUMBERS" = some (some (.int 3 t0)))
    (i_MOST_WORKS : PySem.W.nsIn K mainGlobals "MOST_WORKS" = some (some (.int 4 t1)))
    (i_MOST_PARAMS : PySem.W.nsIn K mainGlobals "MOST_PARAMS" = some (some (.int 3 t2)))
    (i_MOST_OWNS : PySem.W.nsIn K mainGlobals "MOST_OWNS" = some (some (.int 99 t3)))
    (i_MOST_STEPS : PySem.W.nsIn K mainGlobals "MOST_STEPS" = some (some (.int 100 t4)))
    (i_MOST_OTHERS : PySem.W.nsIn K mainGlobals "MOST_OTHERS" = some (some (.int 4 t5)))
    (i_COMMON_CELLS : PySem.W.nsIn K mainGlobals "COMMON_CELLS" = some (some (.int 3 t6)))
    (i_MOST_STEPS_HERE : PySem.W.nsIn K mainGlobals "MOST_STEPS_HERE" = some (some (.int 20 t7)))
    (i_MOST_OWNS_HERE : PySem.W.nsIn K mainGlobals "MOST_OWNS_HERE" = some (some (.int 10 t8)))
    (t_PLACES : PySem.W.nsIn K mainGlobals "PLACES" = some (some (.ref aP)))
    (u_PLACES : K.lookup aP = some ⟨.type "tuple", odTP, .seq #[.str "cell" uP0, .str "own" uP1, .str "par" uP2] nTP, slTP⟩)
    (t_WAYS : PySem.W.nsIn K mainGlobals "WAYS" = some (some (.ref aW)))
    (u_WAYS : K.lookup aW = some ⟨.type "tuple", odTW, .seq #[.str "copy" uW0, .str "place" uW1, .str "back" uW2, .str "want" uW3] nTW, slTW⟩)
    (z_len : PySem.W.nsIn K mainGlobals "len" = some none)
    (z_int : PySem.W.nsIn K mainGlobals "int" = some none)
    (z_range : PySem.W.nsIn K mainGlobals "range" = some none)
    (z_isinstance : PySem.W.nsIn K mainGlobals "isinstance" = some none)
    (z_tuple : PySem.W.nsIn K mainGlobals "tuple" = some none)
    (z_list : PySem.W.nsIn K mainGlobals "list" = some none)
    (z_bool : PySem.W.nsIn K mainGlobals "bool" = some none)
    (z_str : PySem.W.nsIn K mainGlobals "str" = some none)
    (z_zip : PySem.W.nsIn K mainGlobals "zip" = some none)
    (z_enumerate : PySem.W.nsIn K mainGlobals "enumerate" = some none) :
    ∃ (fd : FuncData) (cs : List (Addr × Addr)), (∀ p ∈ cs, p.2 ∈ ts) ∧ (∀ p ∈ cs, K.lookup p.2 = none) ∧ (∀ p ∈ cs, PySem.W.codeHdIn K p.1 p.2 = true) ∧ (∀ (s : Shared) (v : Value), BindsTo s fd ⟨[v], []⟩ [("_law_script", v)]) ∧ ∀ base : Heap, K.In base → base.Ns mainGlobals mg → (∀ p ∈ cs, TabB base mg p.1 p.2) → FnOk l.prog w K mg base CX0 130 fa fd ["_law_script"] (spLawT K cs) := by
  have e := hfa.symm.trans (PySem.W.mg_of X G a47)
  cases e
  have F47 := fun_mk (st := slaw) l47 c47 k47
  have D47 : DefAt K mg "law" slaw plaw := ⟨_, _, F47, PySem.W.mg_of X G a47, F47.binds (ps := plaw) fun _ _ _ _ _ _ us hl => by obtain ⟨x0, rfl⟩ := Hw.len1 hl; rfl⟩
  have B : Blt mg := ⟨PySem.W.mg_none_of X G z_len, PySem.W.mg_none_of X G z_int, PySem.W.mg_none_of X G z_range, PySem.W.mg_none_of X G z_isinstance, PySem.W.mg_none_of X G z_tuple, PySem.W.mg_none_of X G z_list, PySem.W.mg_none_of X G z_bool, PySem.W.mg_none_of X G z_str, PySem.W.mg_none_of X G z_zip, PySem.W.mg_none_of X G z_enumerate⟩
  have T : Cst K (fun i => match i with | 0 => t0 | 1 => t1 | 2 => t2 | 3 => t3 | 4 => t4 | 5 => t5 | 6 => t6 | 7 => t7 | _ => t8) aP aW mg := ⟨⟨B, PySem.W.mg_of X G i_NUMBERS, PySem.W.mg_of X G i_MOST_WORKS, PySem.W.mg_of X G i_MOST_PARAMS, PySem.W.mg_of X G i_MOST_OWNS, PySem.W.mg_of X G i_MOST_STEPS, PySem.W.mg_of X G i_MOST_OTHERS, PySem.W.mg_of X G i_COMMON_CELLS⟩, PySem.W.mg_of X G t_PLACES, PySem.W.mg_of X G t_WAYS, .inr ⟨_, _, _, u_PLACES, rfl, rfl, (by show 3 ≤ sizeLine; decide), .cons ⟨_, rfl⟩ (.cons ⟨_, rfl⟩ (.cons ⟨_, rfl⟩ .nil))⟩, .inr ⟨_, _, _, u_WAYS, rfl, rfl, (by show 4 ≤ sizeLine; decide), .cons ⟨_, rfl⟩ (.cons ⟨_, rfl⟩ (.cons ⟨_, rfl⟩ (.cons ⟨_, rfl⟩ .nil)))⟩⟩
  have MS : Mst (fun i => match i with | 0 => t0 | 1 => t1 | 2 => t2 | 3 => t3 | 4 => t4 | 5 => t5 | 6 => t6 | 7 => t7 | _ => t8) mg := ⟨PySem.W.mg_of X G i_MOST_STEPS_HERE, PySem.W.mg_of X G i_MOST_OWNS_HERE⟩
  have T_ValueError : mg "ValueError" = none := PySem.W.mg_none_of X G z_ValueError
  have c2 : ∀ p ∈ [(ccL, PL), (ccW, PW), (ccO, PO)], K.lookup p.2 = none := List.forall_mem_cons.mpr ⟨QL.2.1, List.forall_mem_cons.mpr ⟨QW.2.1, List.forall_mem_cons.mpr ⟨QO.2.1, fun _ h => nomatch h⟩⟩⟩
  refine ⟨PySem.W.fnOf "law" "law" (defArgs slaw) (defBody slaw) (defScope slaw) .none kV47 dc47 pm47 an47 (.ref ccL) ct47, [(ccL, PL), (ccW, PW), (ccO, PO)], List.forall_mem_cons.mpr ⟨QL.2.2, List.forall_mem_cons.mpr ⟨QW.2.2, List.forall_mem_cons.mpr ⟨QO.2.2, fun _ h => nomatch h⟩⟩⟩, c2, List.forall_mem_cons.mpr ⟨QL.1, List.forall_mem_cons.mpr ⟨QW.1, List.forall_mem_cons.mpr ⟨QO.1, fun _ h => nomatch h⟩⟩⟩, fun s v => .of_eq rfl, fun base _ _ TB => ?_⟩
  have TL : TabAt K mg base "law" [(PL, lamQ "law"), (PW, lamQ "_law_works"), (PO, lamQ "_law_others")] := tabAt_mk (PySem.W.mg_of X G a47) l47 rfl (TB (ccL, PL) (.head _)) (.head _) (tt_one ne_LW ne_LO)
  obtain ⟨_, _, _, _, _, mW, lW, eW⟩ := D44.2
  have TW : TabAt K mg base "_law_works" [(PL, lamQ "law"), (PW, lamQ "_law_works"), (PO, lamQ "_law_others")] := tabAt_mk mW lW eW (TB (ccW, PW) (.tail _ (.head _))) (.tail _ (.head _)) (tt_two ne_LW ne_WO)
  obtain ⟨_, _, _, _, _, mO, lO, eO⟩ := D45.2
  have TO : TabAt K mg base "_law_others" [(PL, lamQ "law"), (PW, lamQ "_law_works"), (PO, lamQ "_law_others")] := tabAt_mk mO lO eO (TB (ccO, PO) (.tail _ (.tail _ (.head _)))) (.tail _ (.tail _ (.head _))) (tt_three ne_LO ne_WO)
  exact law_t ((lawOk (P := l.prog) (w := w) (base := base) T D0 D1 D2 D3 D4 D5 D6 D7 D8 D9 D10 D11 D12 D13 D14 D15 D16 D17 D18 D19 D20 D21 D22 D23 D24 D25 D26 D27 D28 D29 D30 D31 D32 D33 D34 D35 D36 D37 D38 D39 D40 D41 D42 D43 D44.1 D45.1 D46 D47 MS T_ValueError E_BadProgram E_BadWays G_HandError G_BadCells G_BadText WD_BadProgram WD_BadWays TL TW TO).at_ (PySem.W.mg_of X G a47) l47) c2 (List.forall_mem_cons.mpr ⟨⟨_, .head _, rfl⟩, List.forall_mem_cons.mpr ⟨⟨_, .tail _ (.head _), rfl⟩, List.forall_mem_cons.mpr ⟨⟨_, .tail _ (.tail _ (.head _)), rfl⟩, fun _ h => nomatch h⟩⟩⟩)
end Hw
open PySem PySem.W PyProof.Rows
set_option maxRecDepth 100000 in
set_option maxHeartbeats 0 in
theorem PySem.Challenge.cw_handways_k01_programs_and_ways_refused_holds : PySem.Challenge.rw_handways_k01_programs_and_ways_refused.Holds := by
  refine hwEarly ?_
  k_fill
  refine Hw.walkT (l := PySem.Challenge.rw_handways_k01_programs_and_ways_refused) rfl rfl ?F
  case F =>
    intro w mg fa h KX G hmg
    refine' Hw.all_mk KX G hmg (Hw.mk_D0 KX G ?a0 ?l0 ?c0 ?k0) (Hw.mk_D1 KX G ?a1 ?l1 ?c1 ?k1) (Hw.mk_D2 KX G ?a2 ?l2 ?c2 ?k2) (Hw.mk_D3 KX G ?a3 ?l3 ?c3 ?k3) (Hw.mk_D4 KX G ?a4 ?l4 ?c4 ?k4) (Hw.mk_D5 KX G ?a5 ?l5 ?c5 ?k5) (Hw.mk_D6 KX G ?a6 ?l6 ?c6 ?k6) (Hw.mk_D7 KX G ?a7 ?l7 ?c7 ?k7) (Hw.mk_D8 KX G ?a8 ?l8 ?c8 ?k8) (Hw.mk_D9 KX G ?a9 ?l9 ?c9 ?k9) (Hw.mk_D10 KX G ?a10 ?l10 ?c10 ?k10) (Hw.mk_D11 KX G ?a11 ?l11 ?c11 ?k11) (Hw.mk_D12 KX G ?a12 ?l12 ?c12 ?k12) (Hw.mk_D13 KX G ?a13 ?l13 ?c13 ?k13) (Hw.mk_D14 KX G ?a14 ?l14 ?c14 ?k14) (Hw.mk_D15 KX G ?a15 ?l15 ?c15 ?k15) (Hw.mk_D16 KX G ?a16 ?l16 ?c16 ?k16) (Hw.mk_D17 KX G ?a17 ?l17 ?c17 ?k17) (Hw.mk_D18 KX G ?a18 ?l18 ?c18 ?k18) (Hw.mk_D19 KX G ?a19 ?l19 ?c19 ?k19) (Hw.mk_D20 KX G ?a20 ?l20 ?c20 ?k20) (Hw.mk_D21 KX G ?a21 ?l21 ?c21 ?k21) (Hw.mk_D22 KX G ?a22 ?l22 ?c22 ?k22) (Hw.mk_D23 KX G ?a23 ?l23 ?c23 ?k23) (Hw.mk_D24 KX G ?a24 ?l24 ?c24 ?k24) (Hw.mk_D25 KX G ?a25 ?l25 ?c25 ?k25) (Hw.mk_D26 KX G ?a26 ?l26 ?c26 ?k26) (Hw.mk_D27 KX G ?a27 ?l27 ?c27 ?k27) (Hw.mk_D28 KX G ?a28 ?l28 ?c28 ?k28) (Hw.mk_D29 KX G ?a29 ?l29 ?c29 ?k29) (Hw.mk_D30 KX G ?a30 ?l30 ?c30 ?k30) (Hw.mk_D31 KX G ?a31 ?l31 ?c31 ?k31) (Hw.mk_D32 KX G ?a32 ?l32 ?c32 ?k32) (Hw.mk_D33 KX G ?a33 ?l33 ?c33 ?k33) (Hw.mk_D34 KX G ?a34 ?l34 ?c34 ?k34) (Hw.mk_D35 KX G ?a35 ?l35 ?c35 ?k35) (Hw.mk_D36 KX G ?a36 ?l36 ?c36 ?k36) (Hw.mk_D37 KX G ?a37 ?l37 ?c37 ?k37) (Hw.mk_D38 KX G ?a38 ?l38 ?c38 ?k38) (Hw.mk_D39 KX G ?a39 ?l39 ?c39 ?k39) (Hw.mk_D40 KX G ?a40 ?l40 ?c40 ?k40) (Hw.mk_D41 KX G ?a41 ?l41 ?c41 ?k41) (Hw.mk_D42 KX G ?a42 ?l42 ?c42 ?k42) (Hw.mk_D43 KX G ?a43 ?l43 ?c43 ?k43) (Hw.mk_D44 KX G ?a44 ?l44 ?c44 ?k44) (Hw.mk_QW KX G ?tm_W ?tr_W ?th_W ?tn_W ?ti_W) (Hw.mk_D45 KX G ?a45 ?l45 ?c45 ?k45) (Hw.mk_QO KX G ?tm_O ?tr_O ?th_O ?tn_O ?ti_O) (Hw.mk_D46 KX G ?a46 ?l46 ?c46 ?k46) ?a47 ?l47 ?c47 ?k47 (Hw.mk_QL KX G ?tm_L ?tr_L ?th_L ?tn_L ?ti_L) (Hw.mk_E_BadProgram KX G ?xg_BadProgram ?xq_BadProgram ?xk_BadProgram ?xb_BadProgram ?xt_BadProgram ?xga_BadProgram ?xgt_BadProgram ?xd_BadProgram ?xa_BadProgram ?xm_BadProgram ?xs_BadProgram ?xv_BadProgram ?hn ?htk) (Hw.mk_E_BadWays KX G ?xg_BadWays ?xq_BadWays ?xk_BadWays ?xb_BadWays ?xt_BadWays ?xga_BadWays ?xgt_BadWays ?xd_BadWays ?xa_BadWays ?xm_BadWays ?xs_BadWays ?xv_BadWays ?hn ?htk) ?ne_LW ?ne_LO ?ne_WO (Hw.mk_G_HandError KX G ?xg_HandError) (Hw.mk_G_BadCells KX G ?xg_BadCells) (Hw.mk_G_BadText KX G ?xg_BadText) (Hw.mk_WD_BadProgram KX G ?xga_BadProgram ?xgt_BadProgram ?xb_BadProgram ?xd_BadProgram ?xa_BadProgram ?xm_BadProgram ?xv_BadProgram ?xh_BadProgram ?hn ?htk ?xb_HandError ?xd_HandError ?xt_HandError ?xn_BadProgram_BadWays ?xi_BadWays ?xt_BadWays ?xo_BadProgram_BadWays ?xn_BadProgram_BadCells ?xi_BadCells ?xt_BadCells ?xo_BadProgram_BadCells ?xn_BadProgram_BadText ?xi_BadText ?xt_BadText ?xo_BadProgram_BadText) (Hw.mk_WD_BadWays KX G ?xga_BadWays ?xgt_BadWays ?xb_BadWays ?xd_BadWays ?xa_BadWays ?xm_BadWays ?xv_BadWays ?xh_BadWays ?hn ?htk ?xb_HandError ?xd_HandError ?xt_HandError ?xn_BadWays_BadProgram ?xi_BadProgram ?xt_BadProgram ?xo_BadWays_BadProgram ?xn_BadWays_BadCells ?xi_BadCells ?xt_BadCells ?xo_BadWays_BadCells ?xn_BadWays_BadText ?xi_BadText ?xt_BadText ?xo_BadWays_BadText) ?z_ValueError ?i_NUMBERS ?i_MOST_WORKS ?i_MOST_PARAMS ?i_MOST_OWNS ?i_MOST_STEPS ?i_MOST_OTHERS ?i_COMMON_CELLS ?i_MOST_STEPS_HERE ?i_MOST_OWNS_HERE ?t_PLACES ?u_PLACES ?t_WAYS ?u_WAYS ?z_len ?z_int ?z_range ?z_isinstance ?z_tuple ?z_list ?z_bool ?z_str ?z_zip ?z_enumerate
    (case a0 => k_is)
    (case l0 => k_is)
    (case c0 => k_is)
    (case k0 => k_is)
    (case a1 => k_is)
    (case l1 => k_is)
    (case c1 => k_is)
    (case k1 => k_is)
    (case a2 => k_is)
    (case l2 => k_is)
    (case c2 => k_is)
    (case k2 => k_is)
    (case a3 => k_is)
    (case l3 => k_is)
    (case c3 => k_is)
    (case k3 => k_is)
    (case a4 => k_is)
    (case l4 => k_is)
    (case c4 => k_is)
    (case k4 => k_is)
    (case a5 => k_is)
    (case l5 => k_is)
    (case c5 => k_is)
    (case k5 => k_is)
    (case a6 => k_is)
    (case l6 => k_is)
    (case c6 => k_is)
    (case k6 => k_is)
    (case a7 => k_is)
    (case l7 => k_is)
    (case c7 => k_is)
    (case k7 => k_is)
    (case a8 => k_is)
    (case l8 => k_is)
    (case c8 => k_is)
    (case k8 => k_is)
    (case a9 => k_is)
    (case l9 => k_is)
    (case c9 => k_is)
    (case k9 => k_is)
    (case a10 => k_is)
    (case l10 => k_is)
    (case c10 => k_is)
    (case k10 => k_is)
    (case a11 => k_is)
    (case l11 => k_is)
    (case c11 => k_is)
    (case k11 => k_is)
    (case a12 => k_is)
    (case l12 => k_is)
    (case c12 => k_is)
    (case k12 => k_is)
    (case a13 => k_is)
    (case l13 => k_is)
    (case c13 => k_is)
    (case k13 => k_is)
    (case a14 => k_is)
    (case l14 => k_is)
    (case c14 => k_is)
    (case k14 => k_is)
    (case a15 => k_is)
    (case l15 => k_is)
    (case c15 => k_is)
    (case k15 => k_is)
    (case a16 => k_is)
    (case l16 => k_is)
    (case c16 => k_is)
    (case k16 => k_is)
    (case a17 => k_is)
    (case l17 => k_is)
    (case c17 => k_is)
    (case k17 => k_is)
    (case a18 => k_is)
    (case l18 => k_is)
    (case c18 => k_is)
    (case k18 => k_is)
    (case a19 => k_is)
    (case l19 => k_is)
    (case c19 => k_is)
    (case k19 => k_is)
    (case a20 => k_is)
    (case l20 => k_is)
    (case c20 => k_is)
    (case k20 => k_is)
    (case a21 => k_is)
    (case l21 => k_is)
    (case c21 => k_is)
    (case k21 => k_is)
    (case a22 => k_is)
    (case l22 => k_is)
    (case c22 => k_is)
    (case k22 => k_is)
    (case a23 => k_is)
    (case l23 => k_is)
    (case c23 => k_is)
    (case k23 => k_is)
    (case a24 => k_is)
    (case l24 => k_is)
    (case c24 => k_is)
    (case k24 => k_is)
    (case a25 => k_is)
    (case l25 => k_is)
    (case c25 => k_is)
    (case k25 => k_is)
    (case a26 => k_is)
    (case l26 => k_is)
    (case c26 => k_is)
    (case k26 => k_is)
    (case a27 => k_is)
    (case l27 => k_is)
    (case c27 => k_is)
    (case k27 => k_is)
    (case a28 => k_is)
    (case l28 => k_is)
    (case c28 => k_is)
    (case k28 => k_is)
    (case a29 => k_is)
    (case l29 => k_is)
    (case c29 => k_is)
    (case k29 => k_is)
    (case a30 => k_is)
    (case l30 => k_is)
    (case c30 => k_is)
    (case k30 => k_is)
    (case a31 => k_is)
    (case l31 => k_is)
    (case c31 => k_is)
    (case k31 => k_is)
    (case a32 => k_is)
    (case l32 => k_is)
    (case c32 => k_is)
    (case k32 => k_is)
    (case a33 => k_is)
    (case l33 => k_is)
    (case c33 => k_is)
    (case k33 => k_is)
    (case a34 => k_is)
    (case l34 => k_is)
    (case c34 => k_is)
    (case k34 => k_is)
    (case a35 => k_is)
    (case l35 => k_is)
    (case c35 => k_is)
    (case k35 => k_is)
    (case a36 => k_is)
    (case l36 => k_is)
    (case c36 => k_is)
    (case k36 => k_is)
    (case a37 => k_is)
    (case l37 => k_is)
    (case c37 => k_is)
    (case k37 => k_is)
    (case a38 => k_is)
    (case l38 => k_is)
    (case c38 => k_is)
    (case k38 => k_is)
    (case a39 => k_is)
    (case l39 => k_is)
    (case c39 => k_is)
    (case k39 => k_is)
    (case a40 => k_is)
    (case l40 => k_is)
    (case c40 => k_is)
    (case k40 => k_is)
    (case a41 => k_is)
    (case l41 => k_is)
    (case c41 => k_is)
    (case k41 => k_is)
    (case a42 => k_is)
    (case l42 => k_is)
    (case c42 => k_is)
    (case k42 => k_is)
    (case a43 => k_is)
    (case l43 => k_is)
    (case c43 => k_is)
    (case k43 => k_is)
    (case a44 => k_is)
    (case l44 => k_is)
    (case c44 => k_is)
    (case k44 => k_is)
    (case tm_W => k_is)
    (case tr_W => rfl)
    (case th_W => first | kernel_rfl | decide +kernel)
    (case tn_W => first | kernel_rfl | decide +kernel)
    (case ti_W => first | decide | k_mem | simp)
    (case a45 => k_is)
    (case l45 => k_is)
    (case c45 => k_is)
    (case k45 => k_is)
    (case tm_O => k_is)
    (case tr_O => rfl)
    (case th_O => first | kernel_rfl | decide +kernel)
    (case tn_O => first | kernel_rfl | decide +kernel)
    (case ti_O => first | decide | k_mem | simp)
    (case a46 => k_is)
    (case l46 => k_is)
    (case c46 => k_is)
    (case k46 => k_is)
    (case a47 => k_is)
    (case l47 => k_is)
    (case c47 => k_is)
    (case k47 => k_is)
    (case tm_L => k_is)
    (case tr_L => rfl)
    (case th_L => first | kernel_rfl | decide +kernel)
    (case tn_L => first | kernel_rfl | decide +kernel)
    (case ti_L => first | decide | k_mem | simp)
    (case xg_BadProgram => k_is)
    (case xq_BadProgram => k_exc)
    (case xk_BadProgram => k_is)
    (case xb_BadProgram => k_is)
    (case xt_BadProgram => k_is)
    (case xga_BadProgram => k_is)
    (case xgt_BadProgram => k_is)
    (case xd_BadProgram => k_is)
    (case xa_BadProgram => k_is)
    (case xm_BadProgram => k_is)
    (case xs_BadProgram => first | rfl | k_is)
    (case xv_BadProgram => k_is)
    (case hn => k_is)
    (case htk => k_is)
    (case xg_BadWays => k_is)
    (case xq_BadWays => k_exc)
    (case xk_BadWays => k_is)
    (case xb_BadWays => k_is)
    (case xt_BadWays => k_is)
    (case xga_BadWays => k_is)
    (case xgt_BadWays => k_is)
    (case xd_BadWays => k_is)
    (case xa_BadWays => k_is)
    (case xm_BadWays => k_is)
    (case xs_BadWays => first | rfl | k_is)
    (case xv_BadWays => k_is)
    (case ne_LW => decide)
    (case ne_LO => decide)
    (case ne_WO => decide)
    (case xg_HandError => k_is)
    (case xg_BadCells => k_is)
    (case xg_BadText => k_is)
    (case xh_BadProgram => k_is)
    (case xb_HandError => k_is)
    (case xd_HandError => k_is)
    (case xt_HandError => k_is)
    (case xn_BadProgram_BadWays => decide)
    (case xi_BadWays => k_is)
    (case xo_BadProgram_BadWays => k_is)
    (case xn_BadProgram_BadCells => decide)
    (case xi_BadCells => k_is)
    (case xt_BadCells => k_is)
    (case xo_BadProgram_BadCells => k_is)
    (case xn_BadProgram_BadText => decide)
    (case xi_BadText => k_is)
    (case xt_BadText => k_is)
    (case xo_BadProgram_BadText => k_is)
    (case xh_BadWays => k_is)
    (case xn_BadWays_BadProgram => decide)
    (case xi_BadProgram => k_is)
    (case xo_BadWays_BadProgram => k_is)
    (case xn_BadWays_BadCells => decide)
    (case xo_BadWays_BadCells => k_is)
    (case xn_BadWays_BadText => decide)
    (case xo_BadWays_BadText => k_is)
    (case z_ValueError => k_is)
    (case i_NUMBERS => k_is)
    (case i_MOST_WORKS => k_is)
    (case i_MOST_PARAMS => k_is)
    (case i_MOST_OWNS => k_is)
    (case i_MOST_STEPS => k_is)
    (case i_MOST_OTHERS => k_is)
    (case i_COMMON_CELLS => k_is)
    (case i_MOST_STEPS_HERE => k_is)
    (case i_MOST_OWNS_HERE => k_is)
    (case t_PLACES => k_is)
    (case u_PLACES => k_is)
    (case t_WAYS => k_is)
    (case u_WAYS => k_is)
    (case z_len => k_is)
    (case z_int => k_is)
    (case z_range => k_is)
    (case z_isinstance => k_is)
    (case z_tuple => k_is)
    (case z_list => k_is)
    (case z_bool => k_is)
    (case z_str => k_is)
    (case z_zip => k_is)
    (case z_enumerate => k_is)
