import PyProof.Rows.All
import Wide.All
import OpenK.AllK
import Wide.FinOn
import HandS.ForMost
import HandS.Steps
import HandS.IsInst
import HandS.TupAny
import HandS.Zip
import HandS.Codes
import HandS.Small
import HandS.Flow
import HandS.Walk
import HandS.Evl
import KE.KTryMore
import HandS.Exc
import HandS.ExcOwn
import HandS.WordsExc
import HandS.ExcIs
import PyProof.ExcBaseAll.ValueError
import KE.KExcSuper
import KE.RegKSuper
import HandS.Nested
import HandS.ExcInit
import HandS.FStr
import KE.KExcIs
import HandS.ExcField
import PyProof.EqKinds
import KE.GoesEnum
import KE.GoesZip
import KE.GoesMore
import HandS.List
import HandS.Text
import HandS.Deep
import HandS.Conv
import HandS.RevRange
import HandS.TupMul
import HandS.Rev
import HandS.Star
import HandS.Iter
import HandS.More
import PyProof.NeData
import HandS.Style
import PySem.Challenge.RW_handways_k12_texts_refused
set_option Elab.async false
set_option linter.all false
set_option maxRecDepth 100000
set_option maxHeartbeats 4000000
set_option maxRecDepth 100000 in
set_option maxHeartbeats 0 in
open_top hwEarly for PySem.Challenge.rw_handways_k12_texts_refused
namespace Hw
open PySem
theorem len0 {us : List Value} (h : us.length = 0) : us = [] := List.length_eq_zero_iff.mp h
theorem len1 {us : List Value} (h : us.length = 1) : ∃ x0, us = [x0] := by
  match us, h with
  | [x0], _ => exact ⟨x0, rfl⟩
theorem len2 {us : List Value} (h : us.length = 2) : ∃ x0 x1, us = [x0, x1] := by
  match us, h with
  | [x0, x1], _ => exact ⟨x0, x1, rfl⟩
theorem len3 {us : List Value} (h : us.length = 3) : ∃ x0 x1 x2, us = [x0, x1, x2] := by
  match us, h with
  | [x0, x1, x2], _ => exact ⟨x0, x1, x2, rfl⟩
theorem len4 {us : List Value} (h : us.length = 4) : ∃ x0 x1 x2 x3, us = [x0, x1, x2, x3] := by
  match us, h with
  | [x0, x1, x2, x3], _ => exact ⟨x0, x1, x2, x3, rfl⟩
theorem len5 {us : List Value} (h : us.length = 5) : ∃ x0 x1 x2 x3 x4, us = [x0, x1, x2, x3, x4] := by
  match us, h with
  | [x0, x1, x2, x3, x4], _ => exact ⟨x0, x1, x2, x3, x4, rfl⟩
end Hw
namespace Hw
open PySem PySem.Spec PyProof.Rows L2
section
variable {P : Program} {w : World} {K : PySem.W.Frag} {mg : Str → Option Value} {base : Heap}
/-- a def of the top, with its promise -/
structure Callee (P : Program) (w : World) (K : PySem.W.Frag) (mg : Str → Option Value) (base : Heap) (x : Str) (k : Nat) (ps : List Str) (sp : Sp) : Prop where
  ex : ∃ (f : Addr) (fd : FuncData), FnOk P w K mg base CX0 k f fd ps sp ∧ mg x = some (.ref f) ∧ PySem.W.keepIn K (.ref f) = true ∧ Binds K fd ps [] ∧ ∃ oc od osl, K.lookup f = some ⟨oc, od, .func fd, osl⟩
/-- a def of the top, as it stands -/
structure DefAt (K : PySem.W.Frag) (mg : Str → Option Value) (x : Str) (st : Stmt) (ps : List Str) : Prop where
  ex : ∃ (f : Addr) (fd : FuncData), Fun K x x st f fd ∧ mg x = some (.ref f) ∧ Binds K fd ps []
theorem DefAt.ok {x : Str} {st : Stmt} {N ps : List Str} {k : Nat} {sp : Sp} (D : DefAt K mg x st ps) (S : FnScope N ps (defScope st)) (len : ∀ vs H Q E, sp vs H Q E → vs.length = ps.length)
    (hbody : ∀ (f : Addr) (cdv : Value) (A : Around) (outer : List Env) (s : Shared) (H : Hp) (vs : List V) (Q : VK) (E : XK), Room k (A.deeper (envOfC x (defScope st) s.heap.objs.size f cdv)) → sp vs H Q E →
      ∃ t, PSs (cxOf CX0 P w K mg base N x (defScope st) f cdv A outer s H E).nox (defBody st) t ∧ t { nx := fun _ H' => Q .non H', rt := Q } (start N vs) H) : Callee P w K mg base x (k + 1) ps sp := by
  obtain ⟨f, fd, F, m, b⟩ := D.ex
  obtain ⟨oc, od, kV, doc, pm, an, cdv, ct, osl, e, lk, hcd⟩ := id F.ex
  exact ⟨f, fd, F.ok S len fun cdv A outer s H vs Q E hr h => hbody f cdv A outer s H vs Q E hr h, m, F.kp, b, oc, od, osl, lk⟩
/-- nothing is asked, nothing is promised -/
theorem DefAt.none {x : Str} {st : Stmt} {ps : List Str} {k : Nat} {sp : Sp} (D : DefAt K mg x st ps) (no : ∀ vs H Q E, ¬ sp vs H Q E) : Callee P w K mg base x k ps sp := by
  obtain ⟨f, fd, F, m, b⟩ := D.ex
  obtain ⟨oc, od, kV, doc, pm, an, cdv, ct, osl, e, lk, hcd⟩ := id F.ex
  exact ⟨f, fd, ⟨fun vs H Q E h => absurd h (no vs H Q E), fun A outer s H args us vs Q E _ _ _ _ h => absurd h (no vs H Q E)⟩, m, F.kp, b, oc, od, osl, lk⟩
theorem Callee.mono {x : Str} {j k : Nat} {ps : List Str} {sp : Sp} (C : Callee P w K mg base x j ps sp) (h : j ≤ k) : Callee P w K mg base x k ps sp := by
  obtain ⟨f, fd, F, r⟩ := C.ex
  exact ⟨f, fd, F.mono h, r⟩
/-- of all promises at once -/
theorem Callee.all {ι : Type} {x : Str} {k : Nat} {ps : List Str} {sp : ι → Sp} (i0 : ι) (h : ∀ i, Callee P w K mg base x k ps (sp i)) : Callee P w K mg base x k ps (fun vs H Q E => ∃ i, sp i vs H Q E) := by
  obtain ⟨f, fd, F, m, kp, b, oc, od, osl, lk⟩ := (h i0).ex
  have at_ : ∀ i, FnOk P w K mg base CX0 k f fd ps (sp i) := fun i => by
    obtain ⟨f', fd', F', m', kp', b', oc', od', osl', lk'⟩ := (h i).ex
    rw [m] at m'
    cases m'
    rw [lk] at lk'
    cases lk'
    exact F'
  exact ⟨f, fd, ⟨fun vs H Q E ⟨i, q⟩ => (at_ i).len vs H Q E q, fun A outer s H args us vs Q E hr he hb hv ⟨i, q⟩ => (at_ i).run A outer s H args us vs Q E hr he hb hv q⟩, m, kp, b, oc, od, osl, lk⟩
theorem Callee.imp {x : Str} {k : Nat} {ps : List Str} {sp sp' : Sp} (C : Callee P w K mg base x k ps sp) (h : ∀ vs H Q E, sp' vs H Q E → sp vs H Q E) : Callee P w K mg base x k ps sp' := by
  obtain ⟨f, fd, F, r⟩ := C.ex
  exact ⟨f, fd, F.imp h, r⟩
end
section
variable {X : Cx}
theorem pcall {k : Nat} {ps : List Str} {sp : Sp} {x : Str} {p pos : Pos} {e : Expr} {es : List Expr} {t : TA} (C : Callee X.prog X.w X.K X.mg X.base x k ps sp) (hr : Room k X.A) (hg : Gl X x) (ha : PA X (e :: es) t)
    (hd : (x == ("__debug__" : Str)) = false := by decide) (h1 : starEach (e :: es) X.env = (false, eval e X.env) :: starEach es X.env := by rfl)
    (h2 : ((backTo pos (starEach es X.env)).any fun x => x.1) = false := by rfl) : PE X (.Call (.Name x p) (e :: es) [] pos) (tCall sp [] E0 t) := by
  obtain ⟨f, fd, F, m, kp, b, _⟩ := C.ex
  exact pe_call F hr hg m kp b .nil pass0 ha hd h1 h2
end
/-- the built-in names that the program doesn't give another meaning -/
structure Blt (mg : Str → Option Value) : Prop where
  len : mg "len" = none
  int : mg "int" = none
  range : mg "range" = none
  isinstance : mg "isinstance" = none
  tuple : mg "tuple" = none
  list : mg "list" = none
  bool : mg "bool" = none
  str : mg "str" = none
  zip : mg "zip" = none
  enumerate : mg "enumerate" = none
noncomputable def Keep (M : List Addr) (H H' : Hp) : Prop := ∀ a o, H a = some o → a ∉ M → H' a = some o
theorem Keep.refl {M : List Addr} {H : Hp} : Keep M H H := fun _ _ h _ => h
theorem Keep.trans {M : List Addr} {H H1 H2 : Hp} (a : Keep M H H1) (b : Keep M H1 H2) : Keep M H H2 := fun x o h n => b x o (a x o h n) n
theorem Keep.mono {M M' : List Addr} {H H1 : Hp} (a : Keep M H H1) (s : ∀ x ∈ M, x ∈ M') : Keep M' H H1 := fun x o h n => a x o h fun z => n (s x z)
theorem Keep.new {M : List Addr} {H : Hp} {p : Addr} {o : HO} (h : H p = none) : Keep M H (upd H p o) := fun a u e _ => by
  rw [upd_ne (ne_of_none e h)]
  exact e
theorem Keep.put {M : List Addr} {H : Hp} {p : Addr} {o : HO} (h : p ∈ M) : Keep M H (upd H p o) := fun a u e n => by
  have : a ≠ p := fun z => n (z ▸ h)
  rw [upd_ne this]
  exact e
/-- what is new may be changed -/
theorem Keep.at {M : List Addr} {H H1 : Hp} {p : Addr} {o : HO} (a : Keep M H H1) (h : H p = none) : Keep M H (upd H1 p o) := fun x u e n => by
  rw [upd_ne (ne_of_none e h)]
  exact a x u e n
/-- what is only new may be changed by the rest -/
theorem Keep.less {M : List Addr} {H H1 : Hp} {p : Addr} (a : Keep (p :: M) H H1) (h : H p = none) : Keep M H H1 := fun x u e n =>
  a x u e fun z => by
    rcases List.mem_cons.mp z with z | z
    · exact ne_of_none e h z
    · exact n z
theorem Keep.fresh1 {M : List Addr} {H H1 H2 : Hp} {l : Addr} (k1 : Keep M H H1) (k2 : Keep [l] H1 H2) (n : H l = none) : Keep M H H2 :=
  ((k1.mono (M' := l :: M) fun x hx => List.mem_cons_of_mem _ hx).trans (k2.mono (M' := l :: M) fun x hx => List.mem_cons.mpr (.inl (List.mem_singleton.mp hx)))).less n
theorem Keep.by0 {M : List Addr} {H H1 H2 : Hp} (k1 : Keep M H H1) (k2 : Keep [] H1 H2) : Keep M H H2 := k1.trans (k2.mono fun _ z => nomatch z)
/-- free behind is free ahead -/
theorem Keep.free {M : List Addr} {H H1 : Hp} {p : Addr} (a : Keep M H H1) (hm : ∀ m ∈ M, H1 m ≠ none) (h : H1 p = none) : H p = none := by
  cases e : H p with
  | none => rfl
  | some o =>
    by_cases z : p ∈ M
    · exact absurd h (hm p z)
    · rw [a p o e z] at h
      cases h
theorem Keep.rd {M : List Addr} {H H1 : Hp} {a : Addr} {u : HO} (k : Keep M H H1) (n : a ∉ M) (h : Rd H a u) : Rd H1 a u := by
  rcases h with h | ⟨o, h⟩
  · exact .inl (k a _ h n)
  · exact .inr ⟨o, k a _ h n⟩
theorem Keep.sqL {K : PySem.W.Frag} {M : List Addr} {H H1 : Hp} {a : Addr} {xs : List V} (k : Keep M H H1) (n : a ∉ M) (h : SqL K H a xs) : SqL K H1 a xs := by
  rcases h with h | h
  · exact .inl (k.rd n h)
  · exact .inr h
/-- every tuple, and whatever is locked, stands as it was -/
noncomputable def Tst (H H' : Hp) : Prop := (∀ a xs, H a = some (.tup xs) → H' a = some (.tup xs)) ∧ ∀ a o u, H a = some (.frz o u) → H' a = some (.frz o u)
theorem Tst.refl {H : Hp} : Tst H H := ⟨fun _ _ h => h, fun _ _ _ h => h⟩
theorem Tst.trans {H H1 H2 : Hp} (a : Tst H H1) (b : Tst H1 H2) : Tst H H2 := ⟨fun x xs h => b.1 x xs (a.1 x xs h), fun x o u h => b.2 x o u (a.2 x o u h)⟩
/-- what is at M is no tuple and not locked -/
noncomputable def Lo (H : Hp) (M : List Addr) : Prop := ∀ a ∈ M, (∃ xs, H a = some (.lst xs)) ∨ (∃ kvs, H a = some (.dK kvs)) ∨ ∃ C dx fs, H a = some (.ins C dx fs)
theorem Keep.ts {M : List Addr} {H H1 : Hp} (k : Keep M H H1) (l : Lo H M) : Tst H H1 := by
  have no : ∀ a o, H a = some o → (∀ xs, o ≠ .lst xs) → (∀ kvs, o ≠ .dK kvs) → (∀ C dx fs, o ≠ .ins C dx fs) → a ∉ M := fun a o e h1 h2 h3 z => by
    rcases l a z with ⟨xs, q⟩ | ⟨kvs, q⟩ | ⟨C, dx, fs, q⟩
    · rw [e] at q; exact h1 _ (Option.some.inj q)
    · rw [e] at q; exact h2 _ (Option.some.inj q)
    · rw [e] at q; exact h3 _ _ _ (Option.some.inj q)
  exact ⟨fun a xs h => k a _ h (no a _ h (fun _ z => nomatch z) (fun _ z => nomatch z) fun _ _ _ z => nomatch z), fun a o u h => k a _ h (no a _ h (fun _ z => nomatch z) (fun _ z => nomatch z) fun _ _ _ z => nomatch z)⟩
theorem Tst.sqT {K : PySem.W.Frag} {H H1 : Hp} {a : Addr} {xs : List V} (k : Tst H H1) (h : SqT K H a xs) : SqT K H1 a xs := by
  rcases h with (h | ⟨o, h⟩) | h
  · exact .inl (.inl (k.1 a xs h))
  · exact .inl (.inr ⟨o, k.2 a o _ h⟩)
  · exact .inr h
mutual
inductive Rp (K : PySem.W.Frag) (H : Hp) : V → PyData → Prop
  | non : Rp K H .non .none
  | bl (b : Bool) : Rp K H (.bl b) (.bool b)
  | int (i : Int) : Rp K H (.int i) (.int i)
  | str (x : Str) : Rp K H (.str x) (.str x)
  | tup {a : Addr} {xs : List V} {ds : List PyData} : SqT K H a xs → Rps K H xs ds → Rp K H (.ref a) (.tuple ds)
inductive Rps (K : PySem.W.Frag) (H : Hp) : List V → List PyData → Prop
  | nil : Rps K H [] []
  | cons {v : V} {vs : List V} {d : PyData} {ds : List PyData} : Rp K H v d → Rps K H vs ds → Rps K H (v :: vs) (d :: ds)
end
section
variable {K : PySem.W.Frag} {H H1 : Hp}
mutual
theorem Rp.ts (k : Tst H H1) : ∀ {d : PyData} {v : V}, Rp K H v d → Rp K H1 v d
  | .none, _, h => by cases h; exact .non
  | .bool b, _, h => by cases h; exact .bl b
  | .int i, _, h => by cases h; exact .int i
  | .str x, _, h => by cases h; exact .str x
  | .tuple ds, _, h => by
    cases h with
    | tup hs ha => exact .tup (k.sqT hs) (Rps.ts k ha)
  | .list _, _, h => by cases h
  | .dict _, _, h => by cases h
theorem Rps.ts (k : Tst H H1) : ∀ {ds : List PyData} {vs : List V}, Rps K H vs ds → Rps K H1 vs ds
  | [], _, h => by cases h; exact .nil
  | d :: ds, _, h => by
    cases h with
    | cons h1 h2 => exact .cons (Rp.ts k h1) (Rps.ts k h2)
end
theorem Rps.length : ∀ {ds : List PyData} {vs : List V}, Rps K H vs ds → vs.length = ds.length
  | [], _, h => by cases h; rfl
  | d :: ds, _, h => by
    cases h with
    | cons h1 h2 => rw [List.length_cons, List.length_cons, Rps.length h2]
theorem Rps.get : ∀ {ds : List PyData} {vs : List V} {i : Nat} {d : PyData}, Rps K H vs ds → ds[i]? = some d → ∃ v, vs[i]? = some v ∧ Rp K H v d
  | [], _, _, _, _, e => by simp at e
  | d :: ds, _, 0, _, h, e => by
    cases h with
    | cons h1 h2 =>
      simp at e
      subst e
      exact ⟨_, rfl, h1⟩
  | d :: ds, _, i + 1, d', h, e => by
    cases h with
    | cons h1 h2 =>
      obtain ⟨v, q1, q2⟩ := Rps.get (i := i) h2 (by simpa using e)
      exact ⟨v, by simpa using q1, q2⟩
theorem Rps.get' : ∀ {ds : List PyData} {vs : List V} {i : Nat} {v : V}, Rps K H vs ds → vs[i]? = some v → ∃ d, ds[i]? = some d ∧ Rp K H v d
  | [], _, _, _, h, e => by cases h; simp at e
  | d :: ds, _, 0, _, h, e => by
    cases h with
    | cons h1 h2 =>
      simp at e
      subst e
      exact ⟨_, rfl, h1⟩
  | d :: ds, _, i + 1, d', h, e => by
    cases h with
    | cons h1 h2 =>
      obtain ⟨v, q1, q2⟩ := Rps.get' (i := i) h2 (by simpa using e)
      exact ⟨v, by simpa using q1, q2⟩
theorem Rps.append : ∀ {ds ds' : List PyData} {vs vs' : List V}, Rps K H vs ds → Rps K H vs' ds' → Rps K H (vs ++ vs') (ds ++ ds')
  | [], _, _, _, h, h' => by cases h; exact h'
  | d :: ds, _, _, _, h, h' => by
    cases h with
    | cons h1 h2 => exact .cons h1 (Rps.append h2 h')
theorem Rps.take : ∀ {ds : List PyData} {vs : List V} (n : Nat), Rps K H vs ds → Rps K H (vs.take n) (ds.take n)
  | _, _, 0, _ => by rw [List.take_zero, List.take_zero]; exact .nil
  | [], _, n + 1, h => by cases h; exact .nil
  | d :: ds, _, n + 1, h => by
    cases h with
    | cons h1 h2 => exact .cons h1 (Rps.take n h2)
theorem Rp.tup_inv {v : V} {ds : List PyData} (h : Rp K H v (.tuple ds)) : ∃ a xs, v = .ref a ∧ SqT K H a xs ∧ Rps K H xs ds := by
  cases h with
  | tup hs ha => exact ⟨_, _, rfl, hs, ha⟩
theorem Rp.int_inv {v : V} {i : Int} (h : Rp K H v (.int i)) : v = .int i := by cases h; rfl
theorem Rp.str_inv {v : V} {x : Str} (h : Rp K H v (.str x)) : v = .str x := by cases h; rfl
theorem Rps.inv0 {vs : List V} (h : Rps K H vs []) : vs = [] := by cases h; rfl
theorem Rps.inv {vs : List V} {d : PyData} {ds : List PyData} (h : Rps K H vs (d :: ds)) : ∃ v r, vs = v :: r ∧ Rp K H v d ∧ Rps K H r ds := by
  cases h with
  | cons h1 h2 => exact ⟨_, _, rfl, h1, h2⟩
end
theorem ite_t {c : Bool} {A B : Prop} (h : c = true) (a : A) : if c = true then A else B := by rw [if_pos h]; exact a
theorem ite_f {c : Bool} {A B : Prop} (h : c = false) (b : B) : if c = true then A else B := by rw [if_neg (by rw [h]; decide)]; exact b
theorem small {n : Nat} (h : n ≤ 100000) : n ≤ sizeLine := Nat.le_trans h (by decide)
theorem smallT {n : Nat} (h : n ≤ 100000) : n < sizeLine := Nat.lt_of_le_of_lt h (by decide)
end Hw
namespace Hw
open PySem PySem.Spec PyProof.Rows L2
noncomputable def nums (l : List Nat) : List V := l.map fun (n : Nat) => V.int (n : Int)
theorem nums_flat {l : List Nat} : (nums l).all flatV = true := by
  unfold nums
  rw [List.all_eq_true]
  intro x hx
  obtain ⟨n, _, rfl⟩ := List.mem_map.mp hx
  rfl
noncomputable def rLen (K : PySem.W.Frag) : List V → Hp → VK → Prop := fun xs H Q => ∃ p ys, xs = [V.ref p] ∧ (SqL K H p ys ∨ SqT K H p ys) ∧ Q (V.int ↑ys.length) H
theorem c_len {X : Cx} : CallR X (.builtin "len") (rLen X.K) := call_len_seq
noncomputable def rInt1 : List V → Hp → VK → Prop := fun xs H Q => (∃ i, xs = [.int i] ∧ Q (.int i) H) ∨ ∃ k, xs = [.bl k] ∧ Q (.int (if k then 1 else 0)) H
theorem c_int {X : Cx} : CallR X (.type "int") rInt1 := call_int1
noncomputable def rTupOf (K : PySem.W.Frag) : List V → Hp → VK → Prop := fun xs H Q => ∃ p ys, xs = [.ref p] ∧ ((SqL K H p ys ∧ ∀ l, H l = none → Q (.ref l) (upd H l (.tup ys))) ∨ (SqT K H p ys ∧ Q (.ref p) H))
theorem c_tuple {X : Cx} : CallR X (.type "tuple") (rTupOf X.K) := call_tuple_of
noncomputable def rLstOf (K : PySem.W.Frag) : List V → Hp → VK → Prop := fun xs H Q => ∃ p ys, xs = [V.ref p] ∧ (SqL K H p ys ∨ SqT K H p ys) ∧ ∀ (l : Addr), H l = none → Q (V.ref l) (upd H l (HO.lst ys))
/-- an item of a list or of a tuple -/
noncomputable def rIxA (K : PySem.W.Frag) : R2 := fun x y H Q => ∃ p xs i v, x = .ref p ∧ y = .int i ∧ (SqL K H p xs ∨ SqT K H p xs) ∧ atI xs i = some v ∧ Q v H
theorem ixA0 {X : Cx} : IxR X (rIxA X.K) := by
  intro value slice pins s σ H x y v u Q I rx ry h hs
  obtain ⟨p, xs, i, z, rfl, rfl, hq | hq, he, q⟩ := h
  · exact ix_list value slice pins s σ H _ _ v u Q I rx ry ⟨p, xs, i, z, rfl, rfl, hq, he, q⟩ hs
  · exact ix_tup value slice pins s σ H _ _ v u Q I rx ry ⟨p, xs, i, z, rfl, rfl, hq, he, q⟩ hs
noncomputable def kb (t n : String) : Bool := (kitB t n).getD false
section
variable {X : Cx} {K : PySem.W.Frag}
theorem ixL (h : X.K = K := by rfl) : IxR X (rIxL K) := h ▸ ix_list
theorem ixA (h : X.K = K := by rfl) : IxR X (rIxA K) := h ▸ ixA0
theorem ixT (h : X.K = K := by rfl) : IxR X (rIxT K) := h ▸ ix_tup
theorem cLen (h : X.K = K := by rfl) : CallR X (.builtin "len") (rLen K) := h ▸ c_len
theorem cTuple (h : X.K = K := by rfl) : CallR X (.type "tuple") (rTupOf K) := h ▸ c_tuple
theorem slL (h : X.K = K := by rfl) : SlR X (rSlL K) := h ▸ sl_list
theorem slA (h : X.K = K := by rfl) : SlR X (rSlA K) := h ▸ sl_tupA
theorem opCatA (h : X.K = K := by rfl) : OpR X (binaryOp .Add) (rCatA K) := h ▸ op_catA
theorem opIn (h : X.K = K := by rfl) : OpR X (compareOp .In) (rIn K false) := h ▸ op_in_seq
theorem opNotIn (h : X.K = K := by rfl) : OpR X (compareOp .NotIn) (rIn K true) := h ▸ op_notIn_seq
theorem opEqD (hu : X.A.units + 64 < cLine) (h : X.K = K := by rfl) : OpR X (compareOp .Eq) (rEqD K) := h ▸ op_eqD hu
theorem opNeD (hu : X.A.units + 64 < cLine) (h : X.K = K := by rfl) : OpR X (compareOp .NotEq) (rNeD K) := h ▸ op_neD hu
theorem cIsi (h : X.K = K := by rfl) : CallR X (.builtin "isinstance") (rIsi K) := h ▸ call_isi
theorem cIsiT (h : X.K = K := by rfl) : CallR X (.builtin "isinstance") (rIsiT K) := h ▸ call_isiT
theorem peFld {e : Expr} {f : Str} {pos : Pos} {ta : TE} (he : PE X e ta) (hb : attributeBase e f X.env (eval e X.env) = eval e X.env) (h : X.K = K := by rfl) : PE X (.Attribute e f pos) (tFld K ta f) := h ▸ pe_fld he hb
theorem psFld {o value : Expr} {f : Str} {pos pos' : Pos} {ta tv : TE} (ho : PE X o ta) (hv : PE X value tv) (hs : swapsWith value (some (.Attribute o f pos')) pos.line X.env = pure false) (h : X.K = K := by rfl) : PS X (.Assign [.Attribute o f pos'] value pos) (sFld K ta tv f) := h ▸ ps_fld ho hv hs
theorem peApp {o e : Expr} {to te : TE} {apos cpos : Pos} (ho : PE X o to) (he : PE X e te) (h : X.K = K := by rfl)
    (h1 : attributeBase o "append" X.env (eval o X.env) = eval o X.env := by rfl)
    (h2 : ((((backTo cpos (starEach (e :: []) X.env)).all fun x => !x.fst) && (backToKw cpos (keywordEach [] X.env)).all fun x => x.fst.isSome) && decide (((e :: []).length + ([] : List Keyword).length + if ([] : List Keyword).isEmpty = true then 0 else 1) < 30)) = true := by rfl)
    (h3 : (apos.endLine == cpos.line) = true := by rfl) (h4 : starEach (e :: []) X.env = (false, eval e X.env) :: starEach [] X.env := by rfl) (h5 : ((backTo cpos (starEach [] X.env)).any fun x => x.fst) = false := by rfl) :
    PE X (.Call (.Attribute o "append" apos) [e] [] cpos) (tBM K "list" rAppend to (tCons te tNil)) := h ▸ pe_bm PySem.F.plainAttrs_list PySem.F.slot_list_append PySem.F.type_list_append mt_append ho (pa_cons he pa_nil h4) h1 h2 h3 h4 h5
theorem piList {tg l : Expr} {tl : TE} (h1 : PE X l tl) (h : X.K = K := by rfl) : PI X tg l (iList K tl) := h ▸ pi_list h1
theorem piTup {tg l : Expr} {tl : TE} (h1 : PE X l tl) (h : X.K = K := by rfl) : PI X tg l (iTup K tl) := h ▸ pi_tup h1
theorem pgTup {es : List Expr} {k : Nat} {t : TGs} {n : Nat} {pos : Pos} (hc : X.calm = true) (h1 : PGs X es t) (h : X.K = K := by rfl)
    (hn : (assignEach es X.env).length = n := by rfl) (hst : (assignEach es X.env).findIdx? (·.1) = none := by rfl) : PG X (.Tuple es k pos) (gTup K n t) := h ▸ pg_tup hc h1 hn hst
end
theorem dRN {a : Addr} : decide (V.ref a = V.non) = false := rfl
theorem dIN {i : Int} : decide (V.int i = V.non) = false := rfl
theorem dNN : decide (V.non = V.non) = true := rfl
theorem nRN {a : Addr} : (!decide (V.ref a = V.non)) = true := rfl
theorem nIN {i : Int} : (!decide (V.int i = V.non)) = true := rfl
theorem nNN : (!decide (V.non = V.non)) = false := rfl
/-- what is asked of a call; of a new object; of a loop -/
noncomputable def Ask (sp : Sp) (vs : List V) (H : Hp) (Q : VK) (E : XK) : Prop := sp (vs ++ []) H Q E
noncomputable def IsBl (x : V) (R : Bool → Prop) : Prop := ∃ k, x = .bl k ∧ R k
noncomputable def IsInt (x : V) (R : Int → Prop) : Prop := ∃ i, x = .int i ∧ R i
noncomputable def IsTwo (vs : List V) (R : V → V → Prop) : Prop := ∃ v w, vs = [v, w] ∧ R v w
noncomputable def IsL (K : PySem.W.Frag) (x : V) (H : Hp) (R : Prop) : Prop := tyV K "list" x H ∧ R
noncomputable def GetD (x y : V) (H : Hp) (R : V → Prop) : Prop := ∃ a v, x = V.ref a ∧ DGet H a y (some v) ∧ R v
noncomputable def PutD (x y v : V) (H : Hp) (R : Hp → Prop) : Prop := ∃ a H4, x = V.ref a ∧ DPut H a y v H4 ∧ R H4
noncomputable def GetF (K : PySem.W.Frag) (f : Str) (x : V) (H : Hp) (R : V → Prop) : Prop := ∃ a C dx fs v, x = V.ref a ∧ H a = some (HO.ins C dx fs) ∧ Cls K C ∧ NoAttr K C f ∧ List.lookup f fs = some v ∧ R v
noncomputable def SetF (K : PySem.W.Frag) (f : Str) (x y : V) (H : Hp) (R : Hp → Prop) : Prop := ∃ a C dx fs, x = V.ref a ∧ H a = some (HO.ins C dx fs) ∧ Cls K C ∧ NoAttr K C f ∧ fs.length < 1000 ∧ R (upd H a (HO.ins C dx (putF f y fs)))
noncomputable def New (o : HO) (n : Nat) (H : Hp) (Q : VK) : Prop := n ≤ sizeLine ∧ ∀ p, H p = none → Q (.ref p) (upd H p o)
section
variable {K : PySem.W.Frag} {σ : L2.St} {H : Hp} {Q : VK} {QT : Bool → Hp → Prop} {ta tb tc te : TE} {t u : TT} {x y z v : V} {D : Ends} {ts tu : TS}
theorem r_var {i : Nat} (h : σ[i]? = some (some v)) (q : Q v H) : tVar i σ H Q := ⟨v, h, q⟩
theorem r_c (q : Q v H) : tC v σ H Q := q
theorem r_op {r : R2} (h : ta σ H fun x H1 => tb σ H1 fun y H2 => r x y H2 Q) : tOp r ta tb σ H Q := h
theorem r_I0 {g : Int → Int → V} {i j : Int} (q : Q (g i j) H) : rI0 g (.int i) (.int j) H Q := ⟨i, j, rfl, rfl, q⟩
theorem r_I {C : Int → Int → Prop} {g : Int → Int → V} {i j : Int} (c : C i j) (q : Q (g i j) H) : rI C g (.int i) (.int j) H Q := ⟨i, j, rfl, rfl, c, q⟩
theorem r_eq (h : scal x y = true) (q : Q (.bl (decide (x = y))) H) : rEq x y H Q := ⟨h, q⟩
theorem r_ne (h : scal x y = true) (q : Q (.bl (!decide (x = y))) H) : rNe x y H Q := ⟨h, q⟩
theorem r_isN (q : Q (.bl (decide (x = .non))) H) : rIsN x .non H Q := ⟨rfl, q⟩
theorem r_notN (q : Q (.bl (!decide (x = .non))) H) : rNotN x .non H Q := ⟨rfl, q⟩
theorem r_ixL {p : Addr} {xs : List V} {i : Int} (h : SqL K H p xs) (e : atI xs i = some v) (q : Q v H) : rIxL K (.ref p) (.int i) H Q := ⟨p, xs, i, v, rfl, rfl, h, e, q⟩
theorem r_ixT {p : Addr} {xs : List V} {i : Int} (h : SqT K H p xs) (e : atI xs i = some v) (q : Q v H) : rIxT K (.ref p) (.int i) H Q := ⟨p, xs, i, v, rfl, rfl, h, e, q⟩
theorem r_ixA {p : Addr} {xs : List V} {i : Int} (h : SqL K H p xs ∨ SqT K H p xs) (e : atI xs i = some v) (q : Q v H) : rIxA K (.ref p) (.int i) H Q := ⟨p, xs, i, v, rfl, rfl, h, e, q⟩
theorem r_in {p : Addr} {xs : List V} {n : Bool} (h : SqL K H p xs ∨ SqT K H p xs) (f : flatV x = true) (g : xs.all flatV = true) (q : Q (V.bl (if n = true then !inV x xs else inV x xs)) H) : rIn K n x (.ref p) H Q := ⟨p, xs, rfl, h, f, g, q⟩
theorem r_test (h : te σ H fun x H' => IsBl x fun k => QT k H') : tTest te σ H QT := h
theorem r_B (h : te σ H fun x H' => IsBl x fun k => QT k H') : tB te σ H QT := h
theorem r_bl {k : Bool} {R : Bool → Prop} (q : R k) : IsBl (.bl k) R := ⟨k, rfl, q⟩
theorem r_not (h : t σ H fun c H1 => QT (!c) H1) : tNot t σ H QT := h
theorem r_and (h : t σ H fun c H1 => if c = true then u σ H1 QT else QT false H1) : tAnd t u σ H QT := h
theorem r_or (h : t σ H fun c H1 => if c = true then QT true H1 else u σ H1 QT) : tOr t u σ H QT := h
theorem r_notV (h : ta σ H fun x H1 => IsBl x fun c => Q (V.bl !c) H1) : tNotV ta σ H Q := h
theorem r_andV (h : ta σ H fun x H1 => IsBl x fun c => if c = true then tb σ H1 Q else Q (V.bl false) H1) : tAndV ta tb σ H Q := h
theorem r_orV (h : ta σ H fun x H1 => IsBl x fun c => if c = true then Q (V.bl true) H1 else tb σ H1 Q) : tOrV ta tb σ H Q := h
theorem r_ifE (h : t σ H fun c H1 => if c = true then ta σ H1 Q else tb σ H1 Q) : tIf t ta tb σ H Q := h
theorem r_chain {r r' : R2} (h : ta σ H fun x H1 => tb σ H1 fun y H2 => r x y H2 fun z H3 => IsBl z fun k => if k = true then tc σ H3 fun w' H4 => r' y w' H4 Q else Q (V.bl false) H3) : tChain r r' ta tb tc σ H Q := h
/-- both tests only look -/
theorem r_andP {a b : Bool} (h1 : ∀ R : Bool → Hp → Prop, R a H → t σ H R) (h2 : a = true → ∀ R : Bool → Hp → Prop, R b H → u σ H R) (q : QT (a && b) H) : tAnd t u σ H QT := by
  refine h1 _ ?_
  cases a with
  | true =>
    refine h2 rfl _ ?_
    exact q
  | false => exact q
theorem r_orP {a b : Bool} (h1 : ∀ R : Bool → Hp → Prop, R a H → t σ H R) (h2 : a = false → ∀ R : Bool → Hp → Prop, R b H → u σ H R) (q : QT (a || b) H) : tOr t u σ H QT := by
  refine h1 _ ?_
  cases a with
  | true => exact q
  | false =>
    refine h2 rfl _ ?_
    exact q
/-- an impure second test -/
theorem r_andI {a : Bool} (h1 : ∀ R : Bool → Hp → Prop, R a H → t σ H R) (h2 : a = true → u σ H QT) (h3 : a = false → QT false H) : tAnd t u σ H QT := by
  refine h1 _ ?_
  cases a with
  | true => exact h2 rfl
  | false => exact h3 rfl
theorem r_orI {a : Bool} (h1 : ∀ R : Bool → Hp → Prop, R a H → t σ H R) (h2 : a = false → u σ H QT) (h3 : a = true → QT true H) : tOr t u σ H QT := by
  refine h1 _ ?_
  cases a with
  | true => exact h3 rfl
  | false => exact h2 rfl
theorem cut {t u : TS} (Mid : L2.St → Hp → Prop) (h : t { D with nx := Mid } σ H) (k : ∀ σ' H', Mid σ' H' → u D σ' H') : Evl.tCut t u D σ H := ⟨Mid, h, k⟩
theorem r_nil {QA : List V → Hp → Prop} (q : QA [] H) : tNil σ H QA := q
theorem r_cons {QA : List V → Hp → Prop} {tr : TA} (h : ta σ H fun x H1 => tr σ H1 fun xs H2 => QA (x :: xs) H2) : tCons ta tr σ H QA := h
theorem r_call {sp : Sp} {E : XK} {t : TA} (h : t σ H fun vs H1 => Ask sp vs H1 Q E) : tCall sp [] E t σ H Q := h
theorem ask {sp : Sp} {vs : List V} {E : XK} (h : sp vs H Q E) : Ask sp vs H Q E := by
  unfold Ask
  rw [List.append_nil]
  exact h
theorem r_cb {r : List V → Hp → VK → Prop} {t : TA} (h : t σ H fun vs H1 => r vs H1 Q) : tCB r t σ H Q := h
theorem r_lenL {p : Addr} {ys : List V} (h : SqL K H p ys) (q : Q (.int ys.length) H) : rLen K [.ref p] H Q := ⟨p, ys, rfl, .inl h, q⟩
theorem r_lenT {p : Addr} {ys : List V} (h : SqT K H p ys) (q : Q (.int ys.length) H) : rLen K [.ref p] H Q := ⟨p, ys, rfl, .inr h, q⟩
theorem r_int {i : Int} (q : Q (.int i) H) : rInt1 [.int i] H Q := .inl ⟨i, rfl, q⟩
theorem r_intB {k : Bool} (q : Q (.int (if k then 1 else 0)) H) : rInt1 [.bl k] H Q := .inr ⟨k, rfl, q⟩
theorem r_tupL {p : Addr} {ys : List V} (h : SqL K H p ys) (q : New (.tup ys) 0 H Q) : rTupOf K [.ref p] H Q := ⟨p, ys, rfl, .inl ⟨h, q.2⟩⟩
theorem r_tupT {p : Addr} {ys : List V} (h : SqT K H p ys) (q : Q (.ref p) H) : rTupOf K [.ref p] H Q := ⟨p, ys, rfl, .inr ⟨h, q⟩⟩
theorem r_lstL {p : Addr} {ys : List V} (h : SqL K H p ys) (q : New (.lst ys) 0 H Q) : rLstOf K [.ref p] H Q := ⟨p, ys, rfl, .inl h, q.2⟩
theorem r_lstT {p : Addr} {ys : List V} (h : SqT K H p ys) (q : New (.lst ys) 0 H Q) : rLstOf K [.ref p] H Q := ⟨p, ys, rfl, .inr h, q.2⟩
theorem r_tup {t : TA} (h : t σ H fun xs H1 => New (.tup xs) xs.length H1 Q) : tTup t σ H Q := h
theorem r_lst {t : TA} (h : t σ H fun xs H1 => New (.lst xs) xs.length H1 Q) : tLst t σ H Q := h
theorem new {o : HO} {n : Nat} (z : n ≤ sizeLine) (q : ∀ p H1, H p = none → H1 p = some o → Keep [] H H1 → Q (.ref p) H1) : New o n H Q := ⟨z, fun p hp => q p _ hp upd_same (Keep.new hp)⟩
theorem r_isi {t n : String} (ty : TyX K H x (.type t)) (e : (kitB t n).isSome = true) (q : Q (.bl (kb t n)) H) : rIsi K [x, .ty n] H Q := ⟨x, .ty n, .type t, .type n, kb t n, rfl, .ty n, ty, kit_ty (by unfold kb; rw [Option.isSome_iff_exists] at e; obtain ⟨b, e⟩ := e; rw [e]; rfl), q⟩
theorem r_isiT2 {t n1 n2 : String} {tp : Addr} (hT : H tp = some (.tup [.ty n1, .ty n2])) (ty : TyX K H x (.type t)) (e1 : (kitB t n1).isSome = true) (e2 : (kitB t n2).isSome = true) (q : Q (.bl (kb t n1 || kb t n2)) H) : rIsiT K [x, .ref tp] H Q := by
  have f1 : kitB t n1 = some (kb t n1) := by unfold kb; rw [Option.isSome_iff_exists] at e1; obtain ⟨b, e⟩ := e1; rw [e]; rfl
  have f2 : kitB t n2 = some (kb t n2) := by unfold kb; rw [Option.isSome_iff_exists] at e2; obtain ⟨b, e⟩ := e2; rw [e]; rfl
  exact ⟨x, tp, _, .type t, [.type n1, .type n2], kb t n1 || kb t n2, rfl, hT, .cons (.ty n1) (.cons (.ty n2) .nil), ty, kitAny_cons (kit_ty f1) (fun h => by rw [h, Bool.false_or]; exact kitAny_cons (kit_ty f2) (fun h2 => by rw [h2]; exact kitAny_nil) fun h2 => h2) (fun h => by rw [h, Bool.true_or]), q⟩
theorem tyT {a : Addr} {xs : List V} (h : SqT K H a xs) : TyX K H (.ref a) (.type "tuple") := by
  rcases h with (h | ⟨o, h⟩) | ⟨o, its, n, h, c, _⟩
  · exact .base (.tup h)
  · exact .fTuple h
  · exact .kTuple h c
theorem tyL {a : Addr} {xs : List V} (h : SqL K H a xs) : TyX K H (.ref a) (.type "list") := by
  rcases h with (h | ⟨o, h⟩) | ⟨o, its, n, h, c, _⟩
  · exact .base (.lst h)
  · exact .base (.frz h)
  · exact .kList h c
theorem r_sl {r : V → Option Int → Option Int → Hp → VK → Prop} {tl th : TO} (h : te σ H fun x H1 => tl σ H1 fun l H2 => th σ H2 fun u H3 => r x l u H3 Q) : tSl r te tl th σ H Q := h
theorem r_part {QO : Option Int → Hp → Prop} (h : te σ H fun x H1 => IsInt x fun i => QO (some i) H1) : tPart te σ H QO := h
theorem r_part1 {R : Int → Prop} {i : Int} (q : R i) : IsInt (.int i) R := ⟨i, rfl, q⟩
theorem r_noPart {QO : Option Int → Hp → Prop} (q : QO none H) : tNoPart σ H QO := q
theorem r_slL {a : Addr} {xs : List V} {lo hi : Option Int} (h : SqL K H a xs) (q : New (.lst (cutV xs lo hi)) 0 H Q) : rSlL K (.ref a) lo hi H Q := ⟨a, xs, rfl, h, q.2⟩
/-- a slice of a tuple: some tuple of these -/
theorem r_slA {a : Addr} {xs : List V} {lo hi : Option Int} (h : SqT K H a xs) (q : ∀ p H1, SqT K H1 p (cutV xs lo hi) → Keep [] H H1 → (∀ b, H1 b = none → H b = none) → Q (.ref p) H1) : rSlA K (.ref a) lo hi H Q := by
  refine ⟨a, xs, rfl, h, fun e => ?_, fun _ p hp => q p _ (SqT.of upd_same) (Keep.new hp) fun b hb => (Keep.new (M := []) hp).free (fun _ z => nomatch z) hb⟩
  refine q a H ?_ Keep.refl fun _ h => h
  have : cutV xs lo hi = xs := by
    unfold cutV
    rw [e.1, e.2]
    simp
  rw [this]
  exact h
theorem cutV_to {xs : List V} {k : Int} (h : 0 ≤ k) : cutV xs none (some k) = xs.take k.toNat := by
  unfold cutV HT.sIx
  simp only [if_neg (show ¬ k < 0 by omega), List.drop_zero, Nat.sub_zero]
  rw [← List.take_take, List.take_length]
theorem atI_ints {ns : List Int} {v : Int} (h0 : 0 ≤ v) (h1 : v < ns.length) : ∃ z, atI (ns.map V.int) v = some (.int z) ∧ z ∈ ns := by
  obtain ⟨m, rfl⟩ : ∃ m : Nat, v = m := ⟨v.toNat, by omega⟩
  have hm : m < ns.length := by omega
  refine ⟨ns[m], atI_nat ?_, List.getElem_mem hm⟩
  rw [List.getElem?_map, List.getElem?_eq_getElem hm]
  rfl
theorem r_catA {a b : Addr} {xs ys : List V} (h : SqT K H a xs) (g : SqT K H b ys) (z : xs.length + ys.length ≤ sizeLine) (q : ∀ p H1, SqT K H1 p (xs ++ ys) → Keep [] H H1 → (∀ b, H1 b = none → H b = none) → Q (.ref p) H1) : rCatA K (.ref a) (.ref b) H Q := by
  refine ⟨a, b, xs, ys, rfl, rfl, h, g, z, fun e => ?_, fun _ e => ?_, fun _ _ p hp => q p _ (SqT.of upd_same) (Keep.new hp) fun b hb => (Keep.new (M := []) hp).free (fun _ z => nomatch z) hb⟩
  · refine q b H ?_ Keep.refl fun _ h => h
    rw [e]
    exact g
  · refine q a H ?_ Keep.refl fun _ h => h
    rw [e, List.append_nil]
    exact h
theorem r_cat {a b : Addr} {xs ys : List V} (h : H a = some (.lst xs)) (g : H b = some (.lst ys)) (z : xs.length + ys.length ≤ sizeLine) (q : New (.lst (xs ++ ys)) 0 H Q) : rCat (.ref a) (.ref b) H Q := ⟨a, b, xs, ys, rfl, rfl, h, g, z, q.2⟩
theorem r_seq (h : ts { D with nx := tu D } σ H) : tSeq ts tu D σ H := h
theorem r_next (h : D.nx σ H) : tNext D σ H := h
theorem r_asg {g : TG} (h : te σ H fun x H1 => g x σ H1 D.nx) : tAsg te g D σ H := h
theorem r_name {i : Nat} {QS : L2.St → Hp → Prop} (h : QS (σ.set i (some v)) H) : gName i v σ H QS := h
theorem r_drop (h : te σ H fun _ H1 => D.nx σ H1) : tDrop te D σ H := h
theorem r_ret (h : te σ H D.rt) : tRet te D σ H := h
theorem r_retN (h : D.rt .non H) : tRetN D σ H := h
theorem r_if (h : t σ H fun b H1 => if b = true then ts D σ H1 else tu D σ H1) : tIfS t ts tu D σ H := h
theorem r_par {i j : Nat} {ta : TA} (h : ta σ H fun vs H1 => IsTwo vs fun v w => D.nx ((List.set σ i (some v)).set j (some w)) H1) : tPar i j ta D σ H := h
theorem r_par2 {v w : V} {R : V → V → Prop} (q : R v w) : IsTwo [v, w] R := ⟨v, w, rfl, q⟩
theorem r_sub {to ti : TE} {t : TSet} {QS : L2.St → Hp → Prop} (h : to σ H fun o H1 => ti σ H1 fun i H2 => t o i v H2 fun H3 => QS σ H3) : gSub to ti t v σ H QS := h
theorem r_setL {p : Addr} {xs : List V} {k : Int} {j : Nat} {QH : Hp → Prop} (h : H p = some (.lst xs)) (e : L2.ixN xs.length k = some j) (q : ∀ H1, H1 p = some (.lst (xs.set j v)) → Keep [p] H H1 → QH H1) : rSetL (.ref p) (.int k) v H QH :=
  ⟨p, xs, k, j, rfl, rfl, h, e, q _ upd_same (Keep.put (List.mem_singleton.mpr rfl))⟩
theorem r_gtup {a : Addr} {xs : List V} {n : Nat} {t : TGs} {QS : L2.St → Hp → Prop} (h : SqT K H a xs) (e : xs.length = n) (q : t xs σ H QS) : gTup K n t (.ref a) σ H QS := ⟨a, xs, rfl, h, e, q⟩
theorem r_gnil {QS : L2.St → Hp → Prop} (q : QS σ H) : gNil [] σ H QS := ⟨rfl, q⟩
theorem r_gcons {t : TG} {u : TGs} {r : List V} {QS : L2.St → Hp → Prop} (q : t v σ H fun σ' H' => u r σ' H' QS) : gCons t u (v :: r) σ H QS := ⟨v, r, rfl, q⟩
theorem r_append {r : V → List V → Hp → VK → Prop} {t : TA} (h : ta σ H fun x H1 => IsL K x H1 (t σ H1 fun xs H2 => r x xs H2 Q)) : tBM K "list" r ta t σ H Q := h
theorem r_isL {p : Addr} {xs : List V} {R : Prop} (h : SqL K H p xs) (q : R) : IsL K (.ref p) H R := ⟨.inl ⟨rfl, xs, h⟩, q⟩
theorem r_app {l : Addr} {xs : List V} (h : H l = some (.lst xs)) (z : xs.length < sizeLine) (q : ∀ H1, H1 l = some (.lst (xs ++ [y])) → Keep [l] H H1 → Q .non H1) : rAppend (.ref l) [y] H Q :=
  ⟨l, xs, y, rfl, rfl, h, z, q _ upd_same (Keep.put (List.mem_singleton.mpr rfl))⟩
theorem r_dget {td ty : TE} (h : td σ H fun x H1 => ty σ H1 fun y H2 => GetD x y H2 fun v => Q v H2) : tDGet td ty σ H Q := h
theorem r_dgetS {a : Addr} {k : Str} {kvs : List (Key × V)} {R : V → Prop} (h : H a = some (.dK kvs)) (e : valV kvs (.inr k) = some v) (q : R v) : GetD (.ref a) (.str k) H R := ⟨a, v, rfl, e ▸ DGet.k (k := Sum.inr k) h, q⟩
theorem r_dput {td ty tv : TE} (h : tv σ H fun v H1 => td σ H1 fun x H2 => ty σ H2 fun y H3 => PutD x y v H3 fun H4 => D.nx σ H4) : sDPut td ty tv D σ H := h
theorem r_dputS {a : Addr} {k : Str} {kvs : List (Key × V)} {QH : Hp → Prop} (h : H a = some (.dK kvs)) (z : kvs.length < sizeLine) (q : ∀ H1, H1 a = some (.dK (putK kvs (.inr k) v)) → Keep [a] H H1 → QH H1) : PutD (.ref a) (.str k) v H QH :=
  ⟨a, _, rfl, DPut.k (k := Sum.inr k) h z, q _ upd_same (Keep.put (List.mem_singleton.mpr rfl))⟩
noncomputable def Disp (p : Addr) (ps : List (V × V)) (H : Hp) (Q : VK) : Prop := H p = some (.dK []) ∧ ∃ kvs : List (Key × V), ps = kvs.map (fun kv => (kV kv.1, kv.2)) ∧ kvs.length ≤ 15 ∧ Q (.ref p) (upd H p (.dK (mergeK [] kvs)))
theorem r_disp {trs : List (TE × TE)} (h : ∀ p H1, H p = none → H1 p = some (.dK []) → Keep [] H H1 → tPairs trs σ H1 fun ps H2 => Disp p ps H2 Q) : tDisp trs σ H Q := fun p hp => h p _ hp upd_same (Keep.new hp)
theorem r_pnil {QP : List (V × V) → Hp → Prop} (q : QP [] H) : tPairs [] σ H QP := q
theorem r_pcons {tk tv : TE} {r : List (TE × TE)} {QP : List (V × V) → Hp → Prop} (h : tk σ H fun x H1 => tv σ H1 fun y H2 => tPairs r σ H2 fun ps H3 => QP ((x, y) :: ps) H3) : tPairs ((tk, tv) :: r) σ H QP := h
theorem put_new {acc : List (Key × V)} {k : Key} {x : V} (h : ∀ p ∈ acc, p.1 ≠ k) : putK acc k x = acc ++ [(k, x)] := by
  unfold putK
  rw [if_neg]
  intro c
  obtain ⟨p, hp, e⟩ := List.any_eq_true.mp c
  exact h p hp (of_decide_eq_true e)
theorem mergeK_app : ∀ {kvs acc : List (Key × V)}, ((acc ++ kvs).map (·.1)).Nodup → mergeK acc kvs = acc ++ kvs
  | [], acc, _ => (List.append_nil acc).symm
  | (k, x) :: r, acc, h => by
    have e : acc ++ (k, x) :: r = (acc ++ [(k, x)]) ++ r := by rw [List.append_assoc]; rfl
    have hn : ∀ p ∈ acc, p.1 ≠ k := fun p hp z => by
      rw [List.map_append] at h
      exact (List.nodup_append.mp h).2.2 p.1 (List.mem_map_of_mem hp) k (List.mem_map_of_mem (f := (·.1)) (List.mem_cons_self (a := (k, x)))) z
    show mergeK (putK acc k x) r = _
    rw [put_new hn, e]
    exact mergeK_app (by rw [← e]; exact h)
theorem disp {p : Addr} {ps : List (V × V)} (kvs : List (Key × V)) (h : H p = some (.dK [])) (e : ps = kvs.map (fun kv => (kV kv.1, kv.2))) (z : kvs.length ≤ 15) (n : (kvs.map (·.1)).Nodup) (q : ∀ H1, H1 p = some (.dK kvs) → Keep [p] H H1 → Q (.ref p) H1) : Disp p ps H Q := by
  refine ⟨h, kvs, e, z, ?_⟩
  rw [mergeK_app (acc := []) (kvs := kvs) n]
  exact q _ upd_same (Keep.put (List.mem_singleton.mpr rfl))
theorem r_fld {f : Str} (h : ta σ H fun x H1 => GetF K f x H1 fun v => Q v H1) : tFld K ta f σ H Q := h
theorem r_fld1 {f : Str} {a C dx : Addr} {fs : List (Str × V)} {R : V → Prop} (h : H a = some (.ins C dx fs)) (c : Cls K C) (n : NoAttr K C f) (e : fs.lookup f = some v) (q : R v) : GetF K f (.ref a) H R := ⟨a, C, dx, fs, v, rfl, h, c, n, e, q⟩
theorem r_sfld {f : Str} {tv : TE} (h : tv σ H fun y H1 => ta σ H1 fun x H2 => SetF K f x y H2 fun H3 => D.nx σ H3) : sFld K ta tv f D σ H := h
theorem r_sfld1 {f : Str} {a C dx : Addr} {fs : List (Str × V)} {QH : Hp → Prop} (h : H a = some (.ins C dx fs)) (c : Cls K C) (n : NoAttr K C f) (z : fs.length < 1000) (q : ∀ H1, H1 a = some (.ins C dx (putF f y fs)) → Keep [a] H H1 → QH H1) : SetF K f (.ref a) y H QH := ⟨a, C, dx, fs, rfl, h, c, n, z, q _ upd_same (Keep.put (List.mem_singleton.mpr rfl))⟩
noncomputable def ForIt (J : It) (g : TG) (tb : TS) (D : Ends) (σ : L2.St) (H : Hp) : Prop := ∃ W : Nat → Nat → L2.St → Hp → Prop, (∃ m, W 0 m σ H) ∧ ∀ i m σ H, W i m σ H →
  (J.stop i H ∧ D.nx σ H) ∨ (J.go i H ∧ ∃ N : L2.St → Hp → Prop, (∀ σ' H', N σ' H' → ∃ m', m' < m ∧ W (i + 1) m' σ' H') ∧ ∀ x H', J.yld i H x H' → g x σ H' fun σ2 H2 => tb { D with nx := N, ct := N, bk := D.nx } σ2 H2)
theorem r_for {wi : TI} {g : TG} (h : wi σ H fun J H1 => ForIt J g ts D σ H1) : tFor wi g ts D σ H := h
noncomputable def RngOf (vs : List V) (R : Int → Prop) : Prop := ∃ j : Int, vs = [.int j] ∧ -(2 ^ 62) ≤ j ∧ j < 2 ^ 62 ∧ R j
theorem r_iRng1 {ta : TA} {R : It → Hp → Prop} (h : ta σ H fun vs H1 => RngOf vs fun n => R (Itr 0 n.toNat) H1) : iRng1 ta σ H R := h
theorem r_rng {j : Int} {R : Int → Prop} (h1 : -(2 ^ 62) ≤ j) (h2 : j < 2 ^ 62) (q : R j) : RngOf [.int j] R := ⟨j, rfl, h1, h2, q⟩
noncomputable def OverL (K : PySem.W.Frag) (x : V) (H : Hp) (R : Addr → Prop) : Prop := ∃ a, x = .ref a ∧ (∃ xs, SqL K H a xs) ∧ R a
noncomputable def OverT (K : PySem.W.Frag) (x : V) (H : Hp) (R : Addr → Prop) : Prop := ∃ a, x = .ref a ∧ (∃ xs, SqT K H a xs) ∧ R a
theorem r_iList {R : It → Hp → Prop} (h : ta σ H fun x H1 => OverL K x H1 fun a => R (Itl K a) H1) : iList K ta σ H R := h
theorem r_iTup {R : It → Hp → Prop} (h : ta σ H fun x H1 => OverT K x H1 fun a => R (Itt K a) H1) : iTup K ta σ H R := h
theorem r_overL {a : Addr} {xs : List V} {R : Addr → Prop} (h : SqL K H a xs) (q : R a) : OverL K (.ref a) H R := ⟨a, rfl, ⟨xs, h⟩, q⟩
theorem r_overT {a : Addr} {xs : List V} {R : Addr → Prop} (h : SqT K H a xs) (q : R a) : OverT K (.ref a) H R := ⟨a, rfl, ⟨xs, h⟩, q⟩
theorem forR {n : Nat} {g : TG} (Pv : Nat → L2.St → Hp → Prop) (h0 : Pv 0 σ H) (hs : ∀ i σ H, i < n → Pv i σ H → g (.int (i : Int)) σ H fun σ2 H2 => ts { D with nx := Pv (i + 1), ct := Pv (i + 1), bk := D.nx } σ2 H2)
    (hd : ∀ σ H, Pv n σ H → D.nx σ H) : ForIt (Itr 0 n) g ts D σ H :=
  for_it (walk_range (lo := 0) (n := n)) Pv h0 (fun _ _ _ _ _ => trivial) (fun i x σ H H' hi p y => by
    obtain ⟨rfl, rfl⟩ := y
    show g (.int (0 + (i : Int))) σ H' _
    rw [Int.zero_add]
    exact hs i σ H' hi p) hd
theorem forL {a : Addr} {xs : List V} {g : TG} (Pv : Nat → L2.St → Hp → Prop) (h0 : Pv 0 σ H) (hG : ∀ i σ H, i ≤ xs.length → Pv i σ H → SqL K H a xs) (hs : ∀ i x σ H, xs[i]? = some x → Pv i σ H → g x σ H fun σ2 H2 => ts { D with nx := Pv (i + 1), ct := Pv (i + 1), bk := D.nx } σ2 H2)
    (hd : ∀ σ H, Pv xs.length σ H → D.nx σ H) : ForIt (Itl K a) g ts D σ H :=
  for_it walk_list Pv h0 hG (fun i x σ H H' hi p y => by
    obtain ⟨rfl, e⟩ := y
    exact hs i x σ H' e p) hd
theorem forT {a : Addr} {xs : List V} {g : TG} (Pv : Nat → L2.St → Hp → Prop) (h0 : Pv 0 σ H) (hG : ∀ i σ H, i ≤ xs.length → Pv i σ H → SqT K H a xs) (hs : ∀ i x σ H, xs[i]? = some x → Pv i σ H → g x σ H fun σ2 H2 => ts { D with nx := Pv (i + 1), ct := Pv (i + 1), bk := D.nx } σ2 H2)
    (hd : ∀ σ H, Pv xs.length σ H → D.nx σ H) : ForIt (Itt K a) g ts D σ H :=
  for_it walk_tup Pv h0 hG (fun i x σ H H' hi p y => by
    obtain ⟨rfl, e⟩ := y
    exact hs i x σ H' e p) hd
noncomputable def Down (Pv : Nat → L2.St → Hp → Prop) (m : Nat) (σ : L2.St) (H : Hp) : Prop := ∃ m', m' < m ∧ Pv m' σ H
/-- a turn of a while -/
noncomputable def WhT (Pv : Nat → L2.St → Hp → Prop) (m : Nat) (ts : TS) (D : Ends) (σ : L2.St) (H : Hp) : Prop := ∃ N : L2.St → Hp → Prop, (∀ σ' H', N σ' H' → ∃ m', m' < m ∧ Pv m' σ' H') ∧ ts { D with nx := N, ct := N, bk := D.nx } σ H
theorem turn {Pv : Nat → L2.St → Hp → Prop} {m : Nat} (h : ts { D with nx := Down Pv m, ct := Down Pv m, bk := D.nx } σ H) : WhT Pv m ts D σ H := ⟨Down Pv m, fun _ _ q => q, h⟩
theorem whileM (Pv : Nat → L2.St → Hp → Prop) (m : Nat) (h0 : Pv m σ H) (hs : ∀ m σ H, Pv m σ H → t σ H fun b H1 => if b = true then WhT Pv m ts D σ H1 else D.nx σ H1) : tWhile t ts D σ H := ⟨Pv, ⟨m, h0⟩, hs⟩
noncomputable def LcIt (J : It) (g : TG) (tt : TT) (te : TE) (vs : List Nat) (σ : L2.St) (H1 : Hp) (Q : VK) : Prop := ∀ D, H1 D = none → ∃ W : Nat → Nat → Hp → Prop, (∃ m, W 0 m (upd H1 D (.lst []))) ∧ ∀ i m H, W i m H →
  (J.stop i H ∧ Q (.ref D) H) ∨ (J.go i H ∧ ∃ Nx : Hp → Prop, (∀ H', Nx H' → ∃ m', m' < m ∧ W (i + 1) m' H') ∧ ∀ x H', J.yld i H x H' → g x (wipe σ vs) H' fun σ2 H2 => wipe σ2 vs = wipe σ vs ∧ tt σ2 H2 fun b H3 =>
    if b = true then te σ2 H3 fun y H4 => ∃ acc, H4 D = some (.lst acc) ∧ acc.length < sizeLine ∧ Nx (upd H4 D (.lst (acc ++ [y]))) else Nx H3)
theorem r_lc {wi : TI} {g : TG} {tt : TT} {vs : List Nat} (h : wi σ H fun J H1 => LcIt J g tt te vs σ H1 Q) : tLc wi g tt te vs σ H Q := h
noncomputable def Acc (D : Addr) (y : V) (H : Hp) (R : Hp → Prop) : Prop := ∃ acc, H D = some (.lst acc) ∧ acc.length < sizeLine ∧ R (upd H D (.lst (acc ++ [y])))
theorem acc {E : Addr} {xs : List V} {R : Hp → Prop} (h : H E = some (.lst xs)) (z : xs.length < sizeLine) (q : ∀ H1, H1 E = some (.lst (xs ++ [y])) → Keep [E] H H1 → R H1) : Acc E y H R := ⟨xs, h, z, q _ upd_same (Keep.put (List.mem_singleton.mpr rfl))⟩
theorem lcY {J : It} {n : Nat} {G : Hp → Prop} {Y : Nat → Hp → V → Hp → Prop} (w : Walk J n G Y) {g : TG} {vs : List Nat} (Pv : Addr → Nat → Hp → Prop) (h0 : ∀ E H1, H E = none → H1 E = some (.lst []) → Keep [] H H1 → Pv E 0 H1) (hG : ∀ E i H, i ≤ n → Pv E i H → G H)
    (hs : ∀ E i x H H', i < n → Pv E i H → Y i H x H' → g x (wipe σ vs) H' fun σ2 H2 => wipe σ2 vs = wipe σ vs ∧ te σ2 H2 fun y H4 => Acc E y H4 (Pv E (i + 1))) (hd : ∀ E H, Pv E n H → Q (.ref E) H) : LcIt J g tYes te vs σ H Q :=
  fun E hE => lc_it w (Pv E) (h0 E _ hE upd_same (Keep.new hE)) (hG E) (fun i x H1 H' hi p y => hs E i x H1 H' hi p y) (hd E)
theorem lcR {n : Nat} {g : TG} {vs : List Nat} (Pv : Addr → Nat → Hp → Prop) (h0 : ∀ E H1, H E = none → H1 E = some (.lst []) → Keep [] H H1 → Pv E 0 H1)
    (hs : ∀ E i H, i < n → Pv E i H → g (.int (i : Int)) (wipe σ vs) H fun σ2 H2 => wipe σ2 vs = wipe σ vs ∧ te σ2 H2 fun y H4 => Acc E y H4 (Pv E (i + 1))) (hd : ∀ E H, Pv E n H → Q (.ref E) H) : LcIt (Itr 0 n) g tYes te vs σ H Q :=
  lcY (walk_range (lo := 0) (n := n)) Pv h0 (fun _ _ _ _ _ => trivial) (fun E i x H H' hi p y => by
    obtain ⟨rfl, rfl⟩ := y
    show g (.int (0 + (i : Int))) (wipe σ vs) H' _
    rw [Int.zero_add]
    exact hs E i H' hi p) hd
theorem lcT {a : Addr} {xs : List V} {g : TG} {vs : List Nat} (Pv : Addr → Nat → Hp → Prop) (h0 : ∀ E H1, H E = none → H1 E = some (.lst []) → Keep [] H H1 → Pv E 0 H1) (hG : ∀ E i H, i ≤ xs.length → Pv E i H → SqT K H a xs)
    (hs : ∀ E i x H, xs[i]? = some x → Pv E i H → g x (wipe σ vs) H fun σ2 H2 => wipe σ2 vs = wipe σ vs ∧ te σ2 H2 fun y H4 => Acc E y H4 (Pv E (i + 1))) (hd : ∀ E H, Pv E xs.length H → Q (.ref E) H) : LcIt (Itt K a) g tYes te vs σ H Q :=
  lcY walk_tup Pv h0 hG (fun E i x H H' hi p y => by
    obtain ⟨rfl, e⟩ := y
    exact hs E i x H' e p) hd
theorem lcYi {J : It} {n : Nat} {G : Hp → Prop} {Y : Nat → Hp → V → Hp → Prop} (w : Walk J n G Y) {g : TG} {tt : TT} {vs : List Nat} (Pv : Addr → Nat → Hp → Prop) (h0 : ∀ E H1, H E = none → H1 E = some (.lst []) → Keep [] H H1 → Pv E 0 H1) (hG : ∀ E i H, i ≤ n → Pv E i H → G H)
    (hs : ∀ E i x H H', i < n → Pv E i H → Y i H x H' → g x (wipe σ vs) H' fun σ2 H2 => wipe σ2 vs = wipe σ vs ∧ tt σ2 H2 fun b H3 => if b = true then te σ2 H3 fun y H4 => Acc E y H4 (Pv E (i + 1)) else Pv E (i + 1) H3) (hd : ∀ E H, Pv E n H → Q (.ref E) H) : LcIt J g tt te vs σ H Q :=
  fun E hE => lc_it w (Pv E) (h0 E _ hE upd_same (Keep.new hE)) (hG E) (fun i x H1 H' hi p y => hs E i x H1 H' hi p y) (hd E)
theorem lcRi {n : Nat} {g : TG} {tt : TT} {vs : List Nat} (Pv : Addr → Nat → Hp → Prop) (h0 : ∀ E H1, H E = none → H1 E = some (.lst []) → Keep [] H H1 → Pv E 0 H1)
    (hs : ∀ E i H, i < n → Pv E i H → g (.int (i : Int)) (wipe σ vs) H fun σ2 H2 => wipe σ2 vs = wipe σ vs ∧ tt σ2 H2 fun b H3 => if b = true then te σ2 H3 fun y H4 => Acc E y H4 (Pv E (i + 1)) else Pv E (i + 1) H3) (hd : ∀ E H, Pv E n H → Q (.ref E) H) : LcIt (Itr 0 n) g tt te vs σ H Q :=
  lcYi (walk_range (lo := 0) (n := n)) Pv h0 (fun _ _ _ _ _ => trivial) (fun E i x H H' hi p y => by
    obtain ⟨rfl, rfl⟩ := y
    show g (.int (0 + (i : Int))) (wipe σ vs) H' _
    rw [Int.zero_add]
    exact hs E i H' hi p) hd
end
theorem stopAsk {sp : Sp} {vs : List V} {H : Hp} {Q : VK} {E : XK} (h : Ask sp vs H Q E) : Ask sp vs H Q E := h
theorem stopFor {J : It} {g : TG} {tb : TS} {D : Ends} {σ : L2.St} {H : Hp} (h : ForIt J g tb D σ H) : ForIt J g tb D σ H := h
theorem stopLc {J : It} {g : TG} {tt : TT} {te : TE} {vs : List Nat} {σ : L2.St} {H1 : Hp} {Q : VK} (h : LcIt J g tt te vs σ H1 Q) : LcIt J g tt te vs σ H1 Q := h
theorem stopAnd {t u : TT} {σ : L2.St} {H : Hp} {Q : Bool → Hp → Prop} (h : tAnd t u σ H Q) : tAnd t u σ H Q := h
theorem stopOr {t u : TT} {σ : L2.St} {H : Hp} {Q : Bool → Hp → Prop} (h : tOr t u σ H Q) : tOr t u σ H Q := h
theorem stopEx {α : Sort u} {p : α → Prop} (h : Exists p) : Exists p := h
end Hw
namespace Hw
open PySem PySem.Spec PyProof.Rows L2
section
variable {P : Program} {w : World} {K : PySem.W.Frag} {mg : Str → Option Value} {base : Heap}
/-- a def of the top, with its promise, of which an exception may come -/
structure CalleeX (P : Program) (w : World) (K : PySem.W.Frag) (mg : Str → Option Value) (base : Heap) (x : Str) (k : Nat) (ps : List Str) (sp : Sp) : Prop where
  ex : ∃ (f : Addr) (fd : FuncData), FnOk P w K mg base (L2.CX P w) k f fd ps sp ∧ mg x = some (.ref f) ∧ PySem.W.keepIn K (.ref f) = true ∧ Binds K fd ps [] ∧ ∃ oc od osl, K.lookup f = some ⟨oc, od, .func fd, osl⟩
theorem DefAt.okX {x : Str} {st : Stmt} {N ps : List Str} {k : Nat} {sp : Sp} (D : DefAt K mg x st ps) (S : FnScope N ps (defScope st)) (len : ∀ vs H Q E, sp vs H Q E → vs.length = ps.length)
    (hbody : ∀ (f : Addr) (cdv : Value) (A : Around) (outer : List Env) (s : Shared) (H : Hp) (vs : List V) (Q : VK) (E : XK), Room k (A.deeper (envOfC x (defScope st) s.heap.objs.size f cdv)) → sp vs H Q E →
      ∃ t, PSs (cxOf (L2.CX P w) P w K mg base N x (defScope st) f cdv A outer s H E) (defBody st) t ∧ t { nx := fun _ H' => Q .non H', rt := Q } (start N vs) H) : CalleeX P w K mg base x (k + 1) ps sp := by
  obtain ⟨f, fd, F, m, b⟩ := D.ex
  obtain ⟨oc, od, kV, doc, pm, an, cdv, ct, osl, e, lk, hcd⟩ := id F.ex
  exact ⟨f, fd, F.okX S len fun cdv A outer s H vs Q E hr h => hbody f cdv A outer s H vs Q E hr h, m, F.kp, b, oc, od, osl, lk⟩
theorem DefAt.noneX {x : Str} {st : Stmt} {ps : List Str} {k : Nat} {sp : Sp} (D : DefAt K mg x st ps) (no : ∀ vs H Q E, ¬ sp vs H Q E) : CalleeX P w K mg base x k ps sp := by
  obtain ⟨f, fd, F, m, b⟩ := D.ex
  obtain ⟨oc, od, kV, doc, pm, an, cdv, ct, osl, e, lk, hcd⟩ := id F.ex
  exact ⟨f, fd, ⟨fun vs H Q E h => absurd h (no vs H Q E), fun A outer s H args us vs Q E _ _ _ _ h => absurd h (no vs H Q E)⟩, m, F.kp, b, oc, od, osl, lk⟩
theorem CalleeX.mono {x : Str} {j k : Nat} {ps : List Str} {sp : Sp} (C : CalleeX P w K mg base x j ps sp) (h : j ≤ k) : CalleeX P w K mg base x k ps sp := by
  obtain ⟨f, fd, F, r⟩ := C.ex
  exact ⟨f, fd, F.mono h, r⟩
end
section
variable {X : Cx}
theorem pcallX {k : Nat} {ps : List Str} {sp : Sp} {x : Str} {p pos : Pos} {e : Expr} {es : List Expr} {t : TA} {W : WX} (C : CalleeX X.prog X.w X.K X.mg X.base x k ps sp) (tk : L2.Takes X W) (hr : Room k X.A) (hg : Gl X x) (ha : PA X (e :: es) t)
    (hd : (x == ("__debug__" : Str)) = false := by decide) (h1 : starEach (e :: es) X.env = (false, eval e X.env) :: starEach es X.env := by rfl)
    (h2 : ((backTo pos (starEach es X.env)).any fun x => x.1) = false := by rfl) : PE X (.Call (.Name x p) (e :: es) [] pos) (tCallS sp (WE W) t) := by
  obtain ⟨f, fd, F, m, kp, b, _⟩ := C.ex
  exact pe_callS F hr hg m kp b (passAt tk) ha hd h1 h2
end
/-- a class of exceptions that the program has of its own, without __init__ -/
structure ExcAt (K : PySem.W.Frag) (mg : Str → Option Value) (x : Str) (C : Addr) : Prop where
  g : mg x = some (.ref C)
  q : PySem.W.excIn K C [.type "ValueError", .type "Exception", .type "BaseException", .type "object"] "ValueError.__new__" = true
  k : PySem.W.keepIn K (.ref C) = true
  b : PySem.W.subIn K (.ref C) (.type "BaseException") = some true
  t : PySem.W.typeIn K (.ref C) = some (.type "type")
  ec : ExcC K C
  me : PySem.W.exmOne K (.ref C) (.ref C) = some true
  ve : PySem.W.kitOne K (.ref C) (.type "ValueError") = some true
theorem kit_ve {K : PySem.W.Frag} {C : Addr} (h : PySem.W.subIn K (.ref C) (.type "ValueError") = some true) : PySem.W.kitOne K (.ref C) (.type "ValueError") = some true := by
  unfold PySem.W.kitOne
  have e : (Value.ref C == Value.type "ValueError") = false := beq_eq_false_iff_ne.mpr (by intro z; cases z)
  rw [if_neg (by rw [e]; exact Bool.false_ne_true)]
  show (if PySem.W.kitMeta "ValueError" = true then PySem.W.subIn K (.ref C) (.type "ValueError") else none) = some true
  rw [if_pos (by decide +kernel)]
  exact h
theorem excAt_mk {K : PySem.W.Frag} {mg : Str → Option Value} {x : Str} {C : Addr} (g : mg x = some (.ref C)) (q : PySem.W.excIn K C [.type "ValueError", .type "Exception", .type "BaseException", .type "object"] "ValueError.__new__" = true) (k : PySem.W.keepIn K (.ref C) = true) (b : PySem.W.subIn K (.ref C) (.type "BaseException") = some true)
    (t : PySem.W.typeIn K (.ref C) = some (.type "type")) (hga : PySem.W.findIn K (.ref C) "__getattribute__" = some (some (.builtin "BaseException.__getattribute__"))) (hgt : PySem.W.findIn K (.ref C) "__getattr__" = some none) (hd : PySem.W.hasDictIn K C = true) (ha : PySem.W.findIn K (.ref C) "__class__" = some (some (.builtin "object.__class__")))
    (hn : PySem.W.specialIn K (.builtin "object.__class__") "__get__" = some (some (.builtin "getset_descriptor.__get__"))) (htk : PySem.W.takesIn K (.builtin "object.__class__") = some true) (hm : PySem.W.mroIn K C (.type "object") = some true) (s : PySem.W.subIn K (.ref C) (.ref C) = some true)
    (v : PySem.W.subIn K (.ref C) (.type "ValueError") = some true) : ExcAt K mg x C := ⟨g, q, k, b, t, ⟨hga, hgt, b, hd, ha, hn, htk, hm⟩, PySem.W.exm_ref b hd t s, kit_ve v⟩
section
variable {X : Cx} {K : PySem.W.Frag} {mg : Str → Option Value}
/-- raise X('m') -/
noncomputable def tRaise (C : Addr) (W : WX) : TS := fun _ σ H => W (.ref C) none σ H
theorem psRaise {C : Addr} {x m : Str} {j : Nat} {p p2 pos pos' : Pos} {W : WX} (E : ExcAt K mg x C) (tk : L2.Takes X W) (hg : Gl X x) (hc : X.calm = true := by rfl) (h : X.K = K := by rfl) (h2 : X.mg = mg := by rfl) (hdb : (x == ("__debug__" : Str)) = false := by decide) :
    PS X (.Raise (some (.Call (.Name x p) [.Constant (.str m) j p2] [] pos)) none pos') (tRaise C W) := by
  subst h h2
  exact ps_raise hc tk (pmk_own PySem.F.excBase_ValueError E.q E.g E.k (raises_own E.b E.t) hg hdb)
theorem r_raise {C : Addr} {W : WX} {D : Ends} {σ : L2.St} {H : Hp} (h : W (.ref C) none σ H) : tRaise C W D σ H := h
theorem r_callS {sp : Sp} {E : L2.St → XK} {t : TA} {σ : L2.St} {H : Hp} {Q : VK} (h : t σ H fun vs H1 => Ask sp vs H1 Q (E σ)) : tCallS sp E t σ H Q := by
  have e : ∀ vs : List V, vs ++ [] = vs := List.append_nil
  unfold tCallS
  unfold Ask at h
  simp only [e] at h
  exact h
end
end Hw
namespace Hw
open PySem PySem.Spec PyProof.Rows L2 NdefX
structure InitAt (P : Program) (K : PySem.W.Frag) (mg : Str → Option Value) (C f : Addr) (F : NF) : Prop where
  codeR : PySem.W.codeIn K (.ref F.c) F.qual = true
  codeV : ∃ ccl cdd vs ccs file tf, K.lookup F.c = some ⟨ccl, cdd, .fields vs, ccs⟩ ∧ vs[2]? = some (.str file tf) ∧ ((P.main.file : Str) == file) = true
  cell : ∃ cc cl cld csl, F.cl = [(("__class__" : Str), cc)] ∧ K.lookup cc = some ⟨cl, cld, .cell (some (.ref C)), csl⟩
  top : (P.main.scope.names.lookup ("super" : Str)).isSome = false
  sup : mg "super" = none
  third : PySem.W.nsIn K cStatics "thirdparty.any" = some none
  meth : PySem.W.ks_superIn K C C "__init__" = some (some (.builtin "ValueError.__init__"))
  ve : PySem.W.subIn K (.ref C) (.type "ValueError") = some true
  mro : PySem.W.mroIn K C (.ref C) = some true
  oex : OexC K C
theorem spl_back {M : Model} {A : Around} {E : Value → Shared → Prop} {s : Shared} {Q : List Value → Shared → Prop} {pos : Pos} {l l' : List (Bool × Sem Value)} (h : l = l') (k : wpAny M A (spliced (backTo pos l)) Q E s) : wpAny M A (spliced (backTo pos l')) Q E s := h ▸ k
theorem call_mw {X : Cx} {pins : List (Addr × Obj)} {σ : L2.St} {H : Hp} {s : Shared} {A : Around} {E : Value → Shared → Prop} {C u a : Addr} {us : List Value} {Q : Value → Shared → Prop} (T : OexC X.K C) (I : Inv X pins σ H s) (e : H a = some (exo a C none))
    (hu : s.heap.get? u = some (PySem.W.kxs_mw "ValueError.__init__" a)) (hl : us.length ≤ sizeLine) (h : ∀ s', Inv X pins σ H s' → Q .none s') :
    wpAny (model X.prog X.w) A (call (.ref u) us) Q E s := by
  obtain ⟨nm, q, N, bs, bm, sn, sub, ab, col, dd, k0, k1, k2, k3, k5, hC, hbm⟩ := T.cls
  obtain ⟨t1, ho⟩ := exo_at I.hok e
  obtain ⟨hp, g, d, t, os⟩ := s
  refine wpAny_call (codeAny_of_tree ?_)
  show wpAny _ A.in1 (callAny (.ref u) ⟨us, []⟩) _ _ _
  simp only [callAny]
  refine wpAny_bind (wpAny_load hu ?_)
  simp only [PySem.W.kxs_mw, show (Value.type "method-wrapper" == Value.type "method" || Value.type "method-wrapper" == Value.type "builtin_function_or_method" || Value.type "method-wrapper" == Value.type "method-wrapper") = true by decide, if_true]
  refine PySem.W.KFB.if_so (by decide) ?_
  refine wpAny_bind (PySem.W.check_bound_init F.excBase_ValueError.toExcCallFacts (I.kIn _ _ hC) ho rfl ?_)
  refine wpAny_bind (wpAny_pure (wpAny_pure ?_))
  refine ⟨plainId_quiet F.excBase_ValueError.init.plain _, codeAny_builtin F.excBase_ValueError.initEntry ?_⟩
  refine PySem.W.exc_init_tree (cls := .ref C) (t0 := t1) (dv := none) (c2 := .none) (c3 := .none) (b4 := .bool false) ho hl fun h' k hx _ => ?_
  have J := I.write (t' := t) (x := a) (e := a) (o := exo a C none) (by rw [e]; exact True.intro) (.inl rfl) k ⟨_, hx⟩ (exo_ok hx)
  have eu : upd H a (exo a C none) = H := by
    funext b
    by_cases hb : b = a
    · rw [hb, upd_same, e]
    · rw [upd_ne hb]
  rw [eu] at J
  exact h _ J
section
variable {P : Program} {w : World} {K : PySem.W.Frag} {mg : Str → Option Value} {base : Heap} {CX : CXT} {N ps : List Str} {F : NF} {f C : Addr} {k : Nat} {sp : Sp}
theorem cells_init {s : Shared} {H : Hp} {A : Around} {outer : List Env} (I0 : InitAt P K mg C f F) (e0 : Env0 P w K mg base A outer s H) : CellsAt F.cl ["__class__"] [some (.ref C)] s.heap H := by
  obtain ⟨cc, cl, cld, csl, e, lk⟩ := I0.cell
  obtain ⟨h1, h2⟩ := e0.bs _ _ (e0.mod.kin _ _ lk)
  rw [e]
  have one : ∀ y c, ([(("__class__" : Str), cc)] : List (Str × Addr)).lookup y = some c → y = "__class__" ∧ c = cc := fun y c h => by
    rw [List.lookup_cons] at h
    split at h
    · rename_i q
      exact ⟨by simpa using q, (Option.some.inj h).symm⟩
    · cases h
  refine ⟨rfl, fun y c h => ?_, fun x y c h g => ?_, fun i y h => ?_⟩
  · obtain ⟨_, rfl⟩ := one y c h
    exact ⟨h2, _, _, h1, rfl⟩
  · rw [(one x c h).1, (one y c g).1]
  · cases i with
    | succ i => simp at h
    | zero =>
      simp at h
      subst h
      refine ⟨cc, by simp [List.lookup], fun v hv => ?_⟩
      simp at hv
      subst hv
      exact ⟨.ref C, rfl, _, h1, rfl⟩
/-- THE RULE: super().__init__(e) first -/
theorem fn_init {oc dV kV doc pm ct : Value} {od an : Option Addr} {osl : Array (Option Value)} {self : Str} {p0 p1 p2 p3 p4 : Pos} {e : Expr} {rest : List Stmt} (I0 : InitAt P K mg C f F) (lk : K.lookup f = some ⟨oc, od, .func (PySem.W.fnX F.name F.qual F.params F.body F.scope F.cl dV kV doc pm an (.ref F.c) ct), osl⟩) (S : NScope N ps ["__class__"] F.scope) (hps : ps.head? = some self)
    (har : (F.params.posonlyargs ++ F.params.args).head?.map (·.arg) = some self) (hbody : F.body = .Expr (.Call (.Attribute (.Call (.Name "super" p0) [] [] p1) "__init__" p2) [e] [] p3) p4 :: rest)
    (hsup : F.scope.names.lookup ("super" : Str) = some .globalImplicit)
    (hst : ∀ env, starEach [e] env = (false, eval e env) :: starEach [] env) 
    (hev : ∀ env, ∃ pl : Sem Bool, eval (.Call (.Attribute (.Call (.Name "super" p0) [] [] p1) "__init__" p2) [e] [] p3) env = (do
      let ov ← attributeBase (.Call (.Name "super" p0) [] [] p1) "__init__" env (eval (.Call (.Name "super" p0) [] [] p1) env)
      standAt p2.atName
      let (f, first) ← holding [ov] (getMethod ov "__init__" pl)
      callWith p3 f first (backTo p3 (starEach [e] env)) [])) (hsw : ∀ env, swapsWith (.Call (.Attribute (.Call (.Name "super" p0) [] [] p1) "__init__" p2) [e] [] p3) none p4.line env = pure false)
    (len : ∀ vs H Q E, sp vs H Q E → vs.length = ps.length)
    (hb : ∀ (A : Around) (outer : List Env) (s : Shared) (H : Hp) (vs : List V) (Q : VK) (E : XK), Room k (A.deeper (envF F f s.heap.objs.size)) → sp vs H Q E →
      ∃ te tr a, PE (ncx CX P w K mg base N F f A outer s H E) e te ∧ PSs (ncx CX P w K mg base N F f A outer s H E) rest tr ∧ vs[0]? = some (.ref a) ∧ H a = some (exo a C none) ∧
        tCons te tNil (startF N vs [some (.ref C)]) H fun xs H1 => H1 = H ∧ xs.length ≤ 10 ∧ tr { nx := fun _ H' => Q .non H', rt := Q } (startF N vs [some (.ref C)]) H) :
    FnOk P w K mg base CX (k + 1) f (PySem.W.fnX F.name F.qual F.params F.body F.scope F.cl dV kV doc pm an (.ref F.c) ct) ps sp := by
  refine ⟨len, fun A outer s H args us vs Q E hr e0 hbind r hsp => ?_⟩
  have hl := len _ _ _ _ hsp
  have lim : s.heap.NoLimit := e0.mod.nolimit.keeps fun b o e => (e0.bs b o e).1
  have kin0 : K.In s.heap := fun b o e => (e0.bs _ _ (e0.mod.kin _ _ e)).1
  have ho := kin0 _ _ lk
  refine ks_codeAny_call_defAt hr.depth ho rfl lim (PySem.W.codeRec_of kin0 I0.codeR) rfl hbind S.nocell (fun y hy => S.par y.1 (List.of_mem_zip hy).1) (fun h₁ hns kp => ?_) S.co S.gen S.kind
  have C0 := cells_init I0 e0
  have I : Inv (ncx CX P w K mg base N F f A outer s H E) [] (startF N vs [some (.ref C)]) H { s with heap := h₁, toks := s.toks + (ps.zip us).length } := inv_startN S hr.hd e0 hl r C0 hns kp
  show PySem.wpAt (model P w) (A.deeper (envF F f s.heap.objs.size)) (.func F.body (envF F f s.heap.objs.size)) (execs F.body (envF F f s.heap.objs.size)) _ _ _
  obtain ⟨te, tr, a, he, hr2, v0, ha, hte⟩ := hb A outer s H vs Q E (hr.deeper _) hsp
  have kin1 : K.In h₁ := I.kIn
  obtain ⟨ccl, cdd, vsC, ccs, file, tf, lkC, v2, hfile⟩ := I0.codeV
  obtain ⟨cc, cl, cld, csl, ecl, lkcc⟩ := I0.cell
  obtain ⟨nm, q, Nn, bs, bm, sn, sub, ab, col, dd, k0, k1, k2, k3, k5, hC, hbm⟩ := id I0.oex.cls
  obtain ⟨t1, hoa⟩ := exo_at I.hok ha
  obtain ⟨ar, har1, har2⟩ : ∃ ar, (F.params.posonlyargs ++ F.params.args).head? = some ar ∧ ar.arg = self := by
    cases e1 : (F.params.posonlyargs ++ F.params.args).head? with
    | none => rw [e1] at har; cases har
    | some ar => rw [e1] at har; exact ⟨ar, rfl, Option.some.inj har⟩
  subst har2
  have hu0 : us[0]? = some (.ref a) := by
    obtain ⟨u, e1, e2⟩ := r.get v0
    rw [e1]
    exact congrArg some e2
  have hp0 : ps[0]? = some ar.arg := by rw [← List.head?_eq_getElem?]; exact hps
  have ndP : ps.Nodup := by
    have q := S.nd.sublist (List.take_sublist (ps.length + 1) N)
    rw [show N.take (ps.length + 1) = ps ++ [("__class__" : Str)] from S.pre] at q
    exact (List.nodup_append.mp q).1
  have hself : (ps.zip us).reverse.lookup ar.arg = some (.ref a) := zip_look ndP hp0 hu0
  obtain ⟨pl, hev⟩ := hev (envF F f s.heap.objs.size)
  rw [hbody]
  refine ks_wpAt_execs_cons (ks_wpAt_mono (Q := fun fl s' => fl = .next ∧ Inv (ncx CX P w K mg base N F f A outer s H E) [] (startF N vs [some (.ref C)]) H s' ∧ tr { nx := fun _ H' => Q .non H', rt := Q } (startF N vs [some (.ref C)]) H) (ks_wpAt_Expr_any (ks_wpAt_MethodCall ?_ hev) (by unfold interactive; simp [envF, PySem.W.envX, S.kind]) (hsw _)) ?_ fun _ _ z => z)
  · refine ks_wpAt_super_base hsup (S.frk _ List.mem_cons_self) (by decide +kernel) rfl (kp _ _ ho) rfl har1 rfl (kin1 _ _ lkC) rfl v2 hfile I0.top ?_
    obtain ⟨mb, b1, b2⟩ := I.mod.blt
    refine PySem.W.ks_loadName_global S.kind hsup (Calls.loadGlobal_builtin (by rw [show (envF F f s.heap.objs.size).globals = mainGlobals from I.ok.glob]; exact I.mod.glob.keeps I.bk) I0.sup (by rw [show (envF F f s.heap.objs.size).builtins = builtinsNs from I.ok.blt]; exact b1.keeps I.bk) ((b2 _ (by decide +kernel)).trans (by first | rfl | kernel_rfl | decide +kernel)) ⟨rfl, ?_⟩)
    refine wpAny_loadName_free S.kind (S.frk _ List.mem_cons_self) (c := cc) (by rw [show (envF F f s.heap.objs.size).cells = F.cl from rfl, ecl]; simp [List.lookup]) ⟨_, kin1 _ _ lkcc, rfl⟩ ?_
    refine wpAny_loadName_local S.kind (S.par _ (List.mem_of_getElem? hp0)) hns hself ?_
    refine ks_wpAny_isType_cls (kin1 _ _ hC) rfl ⟨rfl, ?_⟩
    refine ks_wpAny_call_super (kin1 _ _ hC) rfl hoa rfl (fun c z => by cases z) (PySem.W.looks_mroIn kin1 I0.mro) (fun h2 hso kp2 => ?_)
    have kin2 : K.In h2 := fun b o z => kp2 _ _ (kin1 _ _ z)
    have hcl : PySem.W.clsIn K C = some { name := nm, bases := bs, mro := .ref C :: bm, ns := Nn, qualname := q, hasDict := true, slotNames := sn, subclasses := sub, abstract := ab, collection := col, hasDel := false } := by unfold PySem.W.clsIn; rw [hC] <;> rfl
    have J2 : PySem.W.InstAt h2 a { cls := .ref C, dict := none, data := .fields #[.ref t1, .none, .none, .none, .bool false, .none] } C none := ⟨kp2 _ _ hoa, rfl, rfl, trivial⟩
    have meth := I0.meth
    unfold PySem.W.ks_superIn at meth
    rw [hcl] at meth
    refine PySem.W.kxs_getMethod PySem.W.kxs_ValueError hso (PySem.W.looks_opaque kin2 I0.third) (l₀ := Value.ref C :: bm) (fun A Q E s k q => wpAny_bind ((PySem.W.looks_clsIn kin2 hcl) A _ E s k (wpAny_pure q))) rfl kin2 meth (J2.type.andThen (PySem.W.looks_subIn kin2 I0.ve)) (PySem.W.ks_ne kin2 J2 hcl) (by decide +kernel) ?_
    have kk : ∀ b o, h₁.get? b = some o → (h2.push (PySem.W.kxs_mw "ValueError.__init__" a)).get? b = some o := fun b o z => Heap.get?_push_of_some _ (kp2 _ _ z)
    have I2 : Inv (ncx CX P w K mg base N F f A outer s H E) [] (startF N vs [some (.ref C)]) H { heap := h2.push (PySem.W.kxs_mw "ValueError.__init__" a), gens := s.gens, drawn := s.drawn, toks := s.toks + (ps.zip us).length + 1, os := s.os } := I.un (Un.kept kk) (I.hok.kept kk)
    have hmw : (h2.push (PySem.W.kxs_mw "ValueError.__init__" a)).get? h2.objs.size = some (PySem.W.kxs_mw "ValueError.__init__" a) := Heap.get?_push_at rfl rfl
    have szL : h₁.objs.size < h2.objs.size := Heap.lt_size hso
    have Lh : s.heap.objs.size < h₁.objs.size := by
      obtain ⟨oL, _, _, z, _⟩ := hns
      exact Heap.lt_size z
    have hfree : H h2.objs.size = none := I.hok.fresh (Nat.le_of_lt szL)
    have I3 : Inv (ncx CX P w K mg base N F f A outer s H E) [(h2.objs.size, PySem.W.kxs_mw "ValueError.__init__" a)] (startF N vs [some (.ref C)]) H { heap := h2.push (PySem.W.kxs_mw "ValueError.__init__" a), gens := s.gens, drawn := s.drawn, toks := s.toks + (ps.zip us).length + 1, os := s.os } := I2.pins_of fun p hp => by
      rw [List.mem_singleton.mp hp]
      refine ⟨hmw, hfree, ?_, ?_, fun v z => by cases z⟩
      · show h2.objs.size ≠ s.heap.objs.size
        omega
      · exact I.nofs (Nat.le_of_lt szL)
    rw [hst]
    refine PySem.W.kxs_callWith (i := "ValueError.__init__") (x := a) (by rfl) (Calls.evalArgs_plain ?_)
    refine spl_back (pos := p3) (l' := (false, eval e (envF F f s.heap.objs.size)) :: starEach [] (envF F f s.heap.objs.size)) (hst _) ?_
    refine thn ((pa_cons he pa_nil (hst _)).run p3 _ _ _ H (fun xs H1 => H1 = H ∧ xs.length ≤ 10 ∧ tr { nx := fun _ H' => Q .non H', rt := Q } (startF N vs [some (.ref C)]) H) I3 ?_) fun vals s1 hv => ?_
    · exact hte
    · obtain ⟨xs, H1, I4, rv, rfl, lx, htr⟩ := hv
      have hmw4 := (I4.pin (h2.objs.size, PySem.W.kxs_mw "ValueError.__init__" a) (List.mem_append_right _ List.mem_cons_self)).1
      refine ⟨hmw4, ?_⟩
      have I5 := I4.pins_of (pins' := []) fun p hp => by cases hp
      exact call_mw I0.oex I5 ha hmw4 (by show vals.length ≤ sizeLine; rw [← Paired.length rv, sizeLine_eq]; omega) fun s' I6 => ⟨rfl, I6, htr⟩
  · intro fl s' hfl
    obtain ⟨rfl, I6, htr⟩ := hfl
    refine PySem.wpAt_of_wpAny (wpAny_mono (hr2.run [] s' (startF N vs [some (.ref C)]) H _ I6 htr) (fun fl s' hs => ?_) fun e s' hs => hs)
    have fin : ∀ {σ' : L2.St} {H' : Hp} {v : V} {u : Value}, Inv (ncx CX P w K mg base N F f A outer s H E) [] σ' H' s' → L2.RelV v u → Q v H' → CE outer P w H s Q u s' :=
      fun {σ' H' v u} J rv q => ⟨v, H', J.os, J.bare, J.base, J.hok, rv, q⟩
    cases fl with
    | ret u =>
      obtain ⟨v, σ', H', J, rv, q⟩ := hs
      exact fin J rv q
    | next =>
      obtain ⟨σ', H', J, q⟩ := hs
      exact fin (v := V.non) (u := Value.none) J rfl q
    | brk =>
      obtain ⟨_, _, _, q⟩ := hs
      exact False.elim q
    | cont =>
      obtain ⟨_, _, _, q⟩ := hs
      exact False.elim q
end
/-- the promise of such an __init__: one field, a small number -/
noncomputable def spBtx (C : Addr) (f : Str) : Sp := fun vs H Q _ => ∃ (a : Addr) (n : Nat), vs = [.ref a, .int (n : Int)] ∧ n < 100 ∧ H a = some (exo a C none) ∧ ∀ dx, H dx = none → dx ≠ a → Q .non (upd (upd H dx (exd dx [(f, .int (n : Int))])) a (exo a C (some dx)))
structure BtxAt (P : Program) (w : World) (K : PySem.W.Frag) (mg : Str → Option Value) (base : Heap) (x f : Str) (C : Addr) (k : Nat) (ps : List Str) : Prop where
  ex : ∃ (fI : Addr) (fd : FuncData), FnOk P w K mg base CX0 k fI fd ps (spBtx C f) ∧ PySem.W.findIn K (.ref C) "__init__" = some (some (.ref fI)) ∧ PySem.W.typeIn K (.ref fI) = some (.type "function") ∧ Binds K fd ps []
  g : mg x = some (.ref C)
  oex : OexC K C
section
variable {X : Cx}
noncomputable def RaiseI (C : Addr) (f : Str) (W : WX) (σ : L2.St) : List V → Hp → Prop := fun vs H1 => vs.length ≤ 1000 ∧ ∀ a, H1 a = none → spBtx C f (.ref a :: (vs ++ [])) (upd H1 a (exo a C none))
  (fun v H2 => v = .non ∧ ∃ (d : Addr) (fs : List (Str × V)), H2 a = some (exo a C (some d)) ∧ H2 d = some (exd d fs) ∧ H1 d = none ∧ W (.ref C) (some d) σ (upd (del H2 a) d (.xd fs))) (fun _ _ _ => False)
noncomputable def tRaiseI (C : Addr) (f : Str) (W : WX) (te : TE) : TS := fun _ σ H => tCons te tNil σ H (RaiseI C f W σ)
theorem psRaiseI {P : Program} {w : World} {K : PySem.W.Frag} {mg : Str → Option Value} {base : Heap} {ps : List Str} {C : Addr} {x f : Str} {k : Nat} {p pos pos' : Pos} {e : Expr} {te : TE} {W : WX} (B : BtxAt P w K mg base x f C k ps) (tk : L2.Takes X W) (hr : Room (k + 1) X.A) (he : PE X e te) (hg : Gl X x) (hc : X.calm = true := by rfl) (h : X.K = K := by rfl) (h2 : X.mg = mg := by rfl) (h3 : X.prog = P := by rfl) (h4 : X.w = w := by rfl) (h5 : X.base = base := by rfl)
    (hdb : (x == ("__debug__" : Str)) = false := by decide) (hs : starEach [e] X.env = (false, eval e X.env) :: starEach [] X.env := by rfl) :
    PS X (.Raise (some (.Call (.Name x p) [e] [] pos)) none pos') (tRaiseI C f W te) := by
  subst h h2 h3 h4 h5
  obtain ⟨fI, fd, F1, iC, tI, b⟩ := B.ex
  exact ps_raise (t := tMkO C (spBtx C f) [] (tCons te tNil)) hc tk (pmk_oex B.oex iC tI F1 hr b .nil pass0 hg B.g (pa_cons he pa_nil hs) hdb hs rfl)
theorem r_raiseI {C : Addr} {f : Str} {W : WX} {te : TE} {D : Ends} {σ : L2.St} {H : Hp} (h : te σ H fun x H1 => RaiseI C f W σ [x] H1) : tRaiseI C f W te D σ H := h
theorem raiseI_ok {C : Addr} {f : Str} {W : WX} {σ : L2.St} {H : Hp} {n : Nat} (hn : n < 100) (h : ∀ d, H d = none → W (.ref C) (some d) σ (upd H d (.xd [(f, .int (n : Int))]))) : RaiseI C f W σ [.int (n : Int)] H := by
  refine ⟨by simp, fun a ha => ⟨a, n, rfl, hn, upd_same, fun dx h1 h2 => ⟨rfl, dx, _, upd_same, by rw [upd_ne h2, upd_same], by rw [upd_ne h2] at h1; exact h1, ?_⟩⟩⟩
  have h1' : H dx = none := by rw [upd_ne h2] at h1; exact h1
  have e : upd (del (upd (upd (upd H a (exo a C none)) dx (exd dx [(f, .int (n : Int))])) a (exo a C (some dx))) a) dx (.xd [(f, .int (n : Int))]) = upd H dx (.xd [(f, .int (n : Int))]) := by
    funext b
    by_cases hb : b = dx
    · rw [hb, upd_same, upd_same]
    · rw [upd_ne hb, upd_ne hb]
      by_cases hba : b = a
      · rw [hba, del_same, ha]
      · rw [del_ne hba, upd_ne hba, upd_ne hb, upd_ne hba]
  rw [e]
  exact h dx h1'
end
end Hw
namespace Hw
open PySem PySem.Spec PyProof.Rows L2
section
variable {X : Cx} {K : PySem.W.Frag}
noncomputable def rIsE2 (K : PySem.W.Frag) (cls : Value) (d : Option Addr) (a : Addr) : List V → Hp → VK → Prop := fun xs H Q => ∃ (D : Addr) (c : V) (cv : Value) (b : Bool), cls = .ref D ∧ ExcC K D ∧ (d = none ∨ ∃ dd fs, d = some dd ∧ H dd = some (.xd fs)) ∧ xs = [.ref a, c] ∧ (∀ u, L2.RelV c u → u = cv) ∧ PySem.W.kitOne K (.ref D) cv = some b ∧ Q (.bl b) H
theorem call_isE2 {a : Addr} {oe : Obj} {cls : Value} {d : Option Addr} {pn : List (Addr × Obj)} (hz : Zc cls d oe) (hf : ∃ vs, oe.data = .fields vs) (hk : X.K = K := by rfl) : CallR (X.suite a ((a, oe) :: pn)) (.builtin "isinstance") (rIsE2 K cls d a) := by
  subst hk
  intro pins s σ H xs us Q I r h
  obtain ⟨D, c, cv, b, rfl, C, hd, rfl, hcv, e, q⟩ := h
  cases r with
  | @cons _ u0 _ ur r0 r1 =>
    cases r1 with
    | @cons _ u1 _ _ r2 r3 =>
      cases r3
      have e0 : u0 = Value.ref a := r0
      have e1 : u1 = cv := hcv _ r2
      subst e0 e1
      have hget := (I.pin (a, oe) (List.mem_append_left _ List.mem_cons_self)).1
      obtain ⟨vs, hv⟩ := hf
      have hcl : (PySem.W.clsIn X.K D).isSome = true := by
        have hd := C.hd
        unfold PySem.W.hasDictIn at hd
        cases e : PySem.W.clsIn X.K D with
        | some _ => rfl
        | none => rw [e] at hd; cases hd
      obtain ⟨od, J⟩ : ∃ od, PySem.W.InstAt s.heap a oe D od := by
        rcases hd with rfl | ⟨dd, fs, rfl, hx⟩
        · exact ⟨none, hget, hz.1, by unfold PySem.W.notCls; rw [hv] <;> rfl, by rw [hz.2]; trivial⟩
        · have hO : ObjOk X.prog X.w H s.heap dd (.xd fs) := I.hok dd _ hx
          obtain ⟨mA, hns, _⟩ := hO
          obtain ⟨o, ho, _⟩ := lookIn_ns hns
          exact ⟨some o, hget, hz.1, by unfold PySem.W.notCls; rw [hv] <;> rfl, by rw [hz.2]; exact ho⟩
      exact PySem.W.kia_one (PySem.W.kitx_exc hcl C.hg C.hk C.hs C.ha C.hn C.ht C.hm) I.kIn J e (fun z => by cases z) fun tk => ⟨.bl b, H, I.kept (t' := tk) fun _ _ z => z, rfl, q⟩
theorem r_isE2 {D a : Addr} {d : Option Addr} {n : String} {b : Bool} {H : Hp} {Q : VK} (C : ExcC K D) (hd : d = none ∨ ∃ dd fs, d = some dd ∧ H dd = some (.xd fs)) (e : PySem.W.kitOne K (.ref D) (.type n) = some b) (q : Q (.bl b) H) : rIsE2 K (.ref D) d a [.ref a, .ty n] H Q :=
  ⟨D, .ty n, .type n, b, rfl, C, hd, rfl, fun u r => by first | (cases r; rfl) | exact r, e, q⟩
theorem r_isER2 {D a E : Addr} {d : Option Addr} {b : Bool} {H : Hp} {Q : VK} (C : ExcC K D) (hd : d = none ∨ ∃ dd fs, d = some dd ∧ H dd = some (.xd fs)) (e : PySem.W.kitOne K (.ref D) (.ref E) = some b) (q : Q (.bl b) H) : rIsE2 K (.ref D) d a [.ref a, .ref E] H Q :=
  ⟨D, .ref E, .ref E, b, rfl, C, hd, rfl, fun u r => by first | (cases r; rfl) | exact r, e, q⟩
theorem was2 {c : Value} {i : Nat} {ts : Addr → Value → Option Addr → TS} {Wout : WX} {D : Ends} {cls : Value} {d : Option Addr} {σ : L2.St} {H : Hp} (e : PySem.W.exmOne K cls c = some true)
    (h : ∀ a, H a = none → ts a cls d { nx := fun σ' H' => D.nx (σ'.set i none) H', rt := D.rt, bk := fun σ' H' => D.bk (σ'.set i none) H', ct := fun σ' H' => D.ct (σ'.set i none) H' } (σ.set i (some (.ref a))) H) : wAs K c i ts Wout D cls d σ H :=
  ⟨true, e, fun _ => h, fun z => by cases z⟩
end
end Hw
namespace Hw
open PySem PySem.Spec PyProof.Rows L2
structure Deep (m : Nat) (A : Around) : Prop where
  hd : A.handled = none
  dp : A.depth + m + 80 < recursionLimit
  un : A.units + 4 * m + 800 < cLine
theorem Deep.deeper {m : Nat} {A : Around} (r : Deep (m + 1) A) (env : Env) : Deep m (A.deeper env) :=
  ⟨r.hd, by have := r.dp; show A.depth + 1 + m + 80 < recursionLimit; omega, by have := r.un; show A.units + 3 + 4 * m + 800 < cLine; omega⟩
theorem Deep.room {m : Nat} {A : Around} (r : Deep m A) : Room 25 A := ⟨r.hd, by have := r.dp; omega, by have := r.un; omega⟩
theorem Deep.mono {m n : Nat} {A : Around} (r : Deep m A) (h : n ≤ m) : Deep n A := ⟨r.hd, by have := r.dp; omega, by have := r.un; omega⟩
theorem deep_of {k m : Nat} {A : Around} (r : Room k A) (h : m + 80 ≤ 3 * k + 5) (h2 : 4 * m + 800 ≤ 16 * k + 200) : Deep m A := ⟨r.hd, by have := r.dp; omega, by have := r.un; omega⟩
section
variable {P : Program} {w : World} {K : PySem.W.Frag} {mg : Str → Option Value} {base : Heap}
structure FnA (P : Program) (w : World) (K : PySem.W.Frag) (mg : Str → Option Value) (base : Heap) (m : Nat) (f : Addr) (fd : FuncData) (ps : List Str) (sp : Sp) : Prop where
  len : ∀ vs H Q E, sp vs H Q E → vs.length = ps.length
  go : ∀ (A : Around) (outer : List Env) (s : Shared) (H : Hp) (args : Args) (us : List Value) (vs : List V) (Q : VK) (E : XK), Deep m A → Env0 P w K mg base A outer s H → BindsTo s fd args (ps.zip us) → Vals vs us → sp vs H Q E → codeAny (model P w) A (.call (.ref f) args) (CR CX0 outer P w H s Q E) s
structure CalleeA (P : Program) (w : World) (K : PySem.W.Frag) (mg : Str → Option Value) (base : Heap) (x : Str) (m : Nat) (ps : List Str) (sp : Sp) : Prop where
  ex : ∃ (f : Addr) (fd : FuncData), FnA P w K mg base m f fd ps sp ∧ mg x = some (.ref f) ∧ PySem.W.keepIn K (.ref f) = true ∧ Binds K fd ps [] ∧ ∃ oc od osl, K.lookup f = some ⟨oc, od, .func fd, osl⟩
theorem CalleeA.shallow {x : Str} {m k : Nat} {ps : List Str} {sp : Sp} (C : CalleeA P w K mg base x m ps sp) (h : m + 80 ≤ 3 * k + 5) (h2 : 4 * m + 800 ≤ 16 * k + 200) : Callee P w K mg base x k ps sp := by
  obtain ⟨f, fd, F, r⟩ := C.ex
  exact ⟨f, fd, ⟨F.len, fun A outer s H args us vs Q E hr => F.go A outer s H args us vs Q E (deep_of hr h h2)⟩, r⟩
theorem DefAt.noneA {x : Str} {st : Stmt} {ps : List Str} {m : Nat} {sp : Sp} (D : DefAt K mg x st ps) (no : ∀ vs H Q E, ¬ sp vs H Q E) : CalleeA P w K mg base x m ps sp := by
  obtain ⟨f, fd, F, q, b⟩ := D.ex
  obtain ⟨oc, od, kV, doc, pm, an, cdv, ct, osl, e, lk, hcd⟩ := id F.ex
  exact ⟨f, fd, ⟨fun vs H Q E h => absurd h (no vs H Q E), fun A outer s H args us vs Q E _ _ _ _ h => absurd h (no vs H Q E)⟩, q, F.kp, b, oc, od, osl, lk⟩
theorem DefAt.okA {x : Str} {st : Stmt} {N ps : List Str} {m : Nat} {sp : Sp} (D : DefAt K mg x st ps) (S : FnScope N ps (defScope st)) (len : ∀ vs H Q E, sp vs H Q E → vs.length = ps.length)
    (hbody : ∀ (f : Addr) (cdv : Value) (A : Around) (outer : List Env) (s : Shared) (H : Hp) (vs : List V) (Q : VK) (E : XK), Deep m (A.deeper (envOfC x (defScope st) s.heap.objs.size f cdv)) → sp vs H Q E →
      ∃ t, PSs (cxOf CX0 P w K mg base N x (defScope st) f cdv A outer s H E).nox (defBody st) t ∧ t { nx := fun _ H' => Q .non H', rt := Q } (start N vs) H) : CalleeA P w K mg base x (m + 1) ps sp := by
  obtain ⟨f, fd, F, q, b⟩ := D.ex
  obtain ⟨oc, od, kV, doc, pm, an, cdv, ct, osl, rfl, lk, hcd⟩ := id F.ex
  refine ⟨f, _, ⟨len, fun A outer s H args us vs Q E hr e0 hb r hsp => ?_⟩, q, F.kp, b, oc, od, osl, lk⟩
  have kin : K.In s.heap := fun c o z => (e0.bs _ _ (e0.mod.kin _ _ z)).1
  have lim : s.heap.NoLimit := e0.mod.nolimit.keeps fun c o z => (e0.bs c o z).1
  have lv := len _ _ _ _ hsp
  refine codeAny_call_function (by have := hr.dp; omega) (kin _ _ lk) rfl S.co S.gen rfl (PySem.W.codeRec_of kin hcd) (hb _ _ _ _ ?_)
  refine wpAny_newFunctionEnv_cells S.kind (fun y hy => ?_) fun env he s1 xx => ?_
  · exact (S.par y.1 (List.of_mem_zip hy).1).imp id fun z => ⟨z, PySem.W.cellsFrom_some _ _ _ (.inl z)⟩
  subst he
  refine ⟨lim.keeps xx.toInCall.keep, codeAny_func ?_⟩
  obtain ⟨t, ht0, hq⟩ := hbody f cdv A outer s H vs Q E (hr.deeper _) hsp
  have ht := ht0.nox
  have I := inv_start (CX := CX0) (P := P) (w := w) (E := E) (cd := cdv) (f := f) (qual := x) S hr.hd e0 lv r xx
  refine wpAny_mono (ht.run [] s1 (start N vs) H _ I hq) (fun fl s' hs => ?_) fun e s' hs => hs
  cases fl with
  | ret u =>
    obtain ⟨v, σ', H', J, rv, z⟩ := hs
    exact ⟨v, H', J.os, J.bare, J.base, J.hok, rv, z⟩
  | next =>
    obtain ⟨σ', H', J, z⟩ := hs
    exact ⟨.non, H', J.os, J.bare, J.base, J.hok, rfl, z⟩
  | brk =>
    obtain ⟨_, _, _, z⟩ := hs
    exact z.elim
  | cont =>
    obtain ⟨_, _, _, z⟩ := hs
    exact z.elim
end
section
variable {X : Cx}
theorem pcallA {m : Nat} {ps : List Str} {sp : Sp} {x : Str} {p pos : Pos} {e : Expr} {es : List Expr} {t : TA} (C : CalleeA X.prog X.w X.K X.mg X.base x m ps sp) (hd : Deep m X.A) (hg : Gl X x) (ha : PA X (e :: es) t)
    (hdb : (x == ("__debug__" : Str)) = false := by decide) (h1 : starEach (e :: es) X.env = (false, eval e X.env) :: starEach es X.env := by rfl)
    (h2 : ((backTo pos (starEach es X.env)).any fun x => x.1) = false := by rfl) : PE X (.Call (.Name x p) (e :: es) [] pos) (tCall sp [] E0 t) := by
  obtain ⟨f, fd, F, q, kp, b, _⟩ := C.ex
  refine ⟨fun pins s σ H Q I h => wpAny_Call_Name_kw (ld_glob I hg q ?_ hdb)⟩
  refine PySem.W.callWith_K (h₀ := X.base) I.ok.mod.kin kp (thn (ha.run pos pins s σ H _ I h) fun us s1 hh => ?_) h1 h2
  obtain ⟨vs, H1, I1, r, z⟩ := hh
  refine ⟨I1.kIn, ?_⟩
  rw [List.append_nil] at z
  have hl : (us ++ []).length = ps.length := by rw [List.append_nil, ← r.length]; exact F.len _ _ _ _ z
  have hb := b s1 us I1.kIn hl
  rw [List.append_nil] at hb
  refine wpAny_call (codeAny_mono (F.go X.A X.stack s1 H1 ⟨us, []⟩ us vs Q E0 hd I1.env0 hb r z) fun rr s' hq => ?_)
  cases rr with
  | error e => exact hq.elim
  | ok fl =>
    cases fl with
    | ret u => exact I1.after hq
    | next => exact hq.elim
    | brk => exact hq.elim
    | cont => exact hq.elim
end
end Hw
namespace Hw
open PySem PySem.Spec PyProof.Rows L2
inductive Th where
  | num (n : Nat) | sum (a b : Th) | cell (t : Th) | own (k : Nat) | par (k : Nat)
mutual
inductive St where
  | set (p t : Th) | say (t : Th) | ite (t : Th) (a b : Sts) | call (w : Nat) (ts : List Th)
inductive Sts where
  | nil | cons (s : St) (r : Sts)
end
noncomputable def Sts.app : Sts → Sts → Sts
  | .nil, r => r
  | .cons s q, r => .cons s (q.app r)
structure Wk where
  params : Nat
  owns : Nat
  body : Sts
noncomputable def Th.enc : Th → PyData
  | .num n => .tuple [.str "num", .int (n : Int)]
  | .sum a b => .tuple [.str "sum", a.enc, b.enc]
  | .cell t => .tuple [.str "cell", t.enc]
  | .own k => .tuple [.str "own", .int (k : Int)]
  | .par k => .tuple [.str "par", .int (k : Int)]
mutual
noncomputable def St.enc : St → PyData
  | .set p t => .tuple [.str "set", p.enc, t.enc]
  | .say t => .tuple [.str "say", t.enc]
  | .ite t a b => .tuple [.str "if", t.enc, .tuple a.encs, .tuple b.encs]
  | .call w ts => .tuple [.str "call", .int (w : Int), .tuple (ts.map Th.enc)]
noncomputable def Sts.encs : Sts → List PyData
  | .nil => []
  | .cons s r => s.enc :: r.encs
end
noncomputable def Wk.enc (w : Wk) : PyData := .tuple [.int (w.params : Int), .int (w.owns : Int), .tuple w.body.encs]
noncomputable def encP (P : List Wk) : PyData := .tuple (P.map Wk.enc)
noncomputable def Th.word : Th → Str
  | .num _ => "num"
  | .sum _ _ => "sum"
  | .cell _ => "cell"
  | .own _ => "own"
  | .par _ => "par"
theorem Th.head {K : PySem.W.Frag} {H : Hp} {v : V} : ∀ {t : Th}, Rp K H v t.enc → ∃ a r, v = .ref a ∧ SqT K H a (.str t.word :: r)
  | .num n, h => by
    obtain ⟨a, xs, rfl, ha, hx⟩ := h.tup_inv
    obtain ⟨v0, r0, rfl, g0, gr⟩ := hx.inv
    cases g0.str_inv
    exact ⟨a, r0, rfl, ha⟩
  | .sum x y, h => by
    obtain ⟨a, xs, rfl, ha, hx⟩ := h.tup_inv
    obtain ⟨v0, r0, rfl, g0, gr⟩ := hx.inv
    cases g0.str_inv
    exact ⟨a, r0, rfl, ha⟩
  | .cell x, h => by
    obtain ⟨a, xs, rfl, ha, hx⟩ := h.tup_inv
    obtain ⟨v0, r0, rfl, g0, gr⟩ := hx.inv
    cases g0.str_inv
    exact ⟨a, r0, rfl, ha⟩
  | .own n, h => by
    obtain ⟨a, xs, rfl, ha, hx⟩ := h.tup_inv
    obtain ⟨v0, r0, rfl, g0, gr⟩ := hx.inv
    cases g0.str_inv
    exact ⟨a, r0, rfl, ha⟩
  | .par n, h => by
    obtain ⟨a, xs, rfl, ha, hx⟩ := h.tup_inv
    obtain ⟨v0, r0, rfl, g0, gr⟩ := hx.inv
    cases g0.str_inv
    exact ⟨a, r0, rfl, ha⟩
section
variable {K : PySem.W.Frag} {H : Hp} {v : V}
theorem Th.inv_num {n : Nat} (h : Rp K H v (Th.num n).enc) : ∃ a, v = .ref a ∧ SqT K H a [.str "num", .int (n : Int)] := by
  obtain ⟨a, xs, rfl, ha, hx⟩ := h.tup_inv
  obtain ⟨v0, r0, rfl, g0, gr⟩ := hx.inv
  obtain ⟨v1, r1, rfl, g1, gr1⟩ := gr.inv
  cases gr1.inv0
  cases g0.str_inv
  cases g1.int_inv
  exact ⟨a, rfl, ha⟩
theorem Th.inv_own {n : Nat} (h : Rp K H v (Th.own n).enc) : ∃ a, v = .ref a ∧ SqT K H a [.str "own", .int (n : Int)] := by
  obtain ⟨a, xs, rfl, ha, hx⟩ := h.tup_inv
  obtain ⟨v0, r0, rfl, g0, gr⟩ := hx.inv
  obtain ⟨v1, r1, rfl, g1, gr1⟩ := gr.inv
  cases gr1.inv0
  cases g0.str_inv
  cases g1.int_inv
  exact ⟨a, rfl, ha⟩
theorem Th.inv_par {n : Nat} (h : Rp K H v (Th.par n).enc) : ∃ a, v = .ref a ∧ SqT K H a [.str "par", .int (n : Int)] := by
  obtain ⟨a, xs, rfl, ha, hx⟩ := h.tup_inv
  obtain ⟨v0, r0, rfl, g0, gr⟩ := hx.inv
  obtain ⟨v1, r1, rfl, g1, gr1⟩ := gr.inv
  cases gr1.inv0
  cases g0.str_inv
  cases g1.int_inv
  exact ⟨a, rfl, ha⟩
theorem Th.inv_cell {t : Th} (h : Rp K H v (Th.cell t).enc) : ∃ a u, v = .ref a ∧ SqT K H a [.str "cell", u] ∧ Rp K H u t.enc := by
  obtain ⟨a, xs, rfl, ha, hx⟩ := h.tup_inv
  obtain ⟨v0, r0, rfl, g0, gr⟩ := hx.inv
  obtain ⟨v1, r1, rfl, g1, gr1⟩ := gr.inv
  cases gr1.inv0
  cases g0.str_inv
  exact ⟨a, _, rfl, ha, g1⟩
theorem Th.inv_sum {t u : Th} (h : Rp K H v (Th.sum t u).enc) : ∃ a x y, v = .ref a ∧ SqT K H a [.str "sum", x, y] ∧ Rp K H x t.enc ∧ Rp K H y u.enc := by
  obtain ⟨a, xs, rfl, ha, hx⟩ := h.tup_inv
  obtain ⟨v0, r0, rfl, g0, gr⟩ := hx.inv
  obtain ⟨v1, r1, rfl, g1, gr1⟩ := gr.inv
  obtain ⟨v2, r2, rfl, g2, gr2⟩ := gr1.inv
  cases gr2.inv0
  cases g0.str_inv
  exact ⟨a, _, _, rfl, ha, g1, g2⟩
end
theorem atI_zero {x : V} {r : List V} : atI (x :: r) 0 = some x := atI_nat (j := 0) rfl
theorem Sts.encs_app : ∀ a b : Sts, (a.app b).encs = a.encs ++ b.encs
  | .nil, b => rfl
  | .cons s r, b => by
    show s.enc :: (r.app b).encs = s.enc :: (r.encs ++ b.encs)
    rw [Sts.encs_app r b]
noncomputable def Sts.take : Nat → Sts → Sts
  | 0, _ => .nil
  | _ + 1, .nil => .nil
  | n + 1, .cons s r => .cons s (r.take n)
theorem Sts.encs_take : ∀ (n : Nat) (a : Sts), (a.take n).encs = a.encs.take n
  | 0, _ => by rw [List.take_zero]; rfl
  | _ + 1, .nil => rfl
  | n + 1, .cons s r => by
    show s.enc :: (r.take n).encs = s.enc :: (r.encs.take n)
    rw [Sts.encs_take n r]
noncomputable def Sts.len : Sts → Nat
  | .nil => 0
  | .cons _ r => r.len + 1
theorem Sts.encs_len : ∀ a : Sts, a.encs.length = a.len
  | .nil => rfl
  | .cons s r => by
    show r.encs.length + 1 = r.len + 1
    rw [Sts.encs_len r]
noncomputable def Th.ok (p o : Nat) : Nat → Th → Prop
  | _, .num n => n < 3
  | _, .own k => k < o
  | _, .par k => k < p
  | 0, .cell _ => False
  | 0, .sum _ _ => False
  | d + 1, .cell t => Th.ok p o d t
  | d + 1, .sum a b => Th.ok p o d a ∧ Th.ok p o d b
theorem Th.ok.mono {p o : Nat} : ∀ {t : Th} {d e : Nat}, Th.ok p o d t → d ≤ e → Th.ok p o e t
  | .num _, 0, 0, h, _ => h
  | .num _, 0, _ + 1, h, _ => h
  | .num _, _ + 1, 0, h, _ => h
  | .num _, _ + 1, _ + 1, h, _ => h
  | .own _, 0, 0, h, _ => h
  | .own _, 0, _ + 1, h, _ => h
  | .own _, _ + 1, 0, h, _ => h
  | .own _, _ + 1, _ + 1, h, _ => h
  | .par _, 0, 0, h, _ => h
  | .par _, 0, _ + 1, h, _ => h
  | .par _, _ + 1, 0, h, _ => h
  | .par _, _ + 1, _ + 1, h, _ => h
  | .cell t, 0, _, h, _ => h.elim
  | .cell t, _ + 1, 0, _, g => by omega
  | .cell t, d + 1, e + 1, h, g => Th.ok.mono (t := t) (d := d) (e := e) h (by omega)
  | .sum a b, 0, _, h, _ => h.elim
  | .sum a b, _ + 1, 0, _, g => by omega
  | .sum a b, d + 1, e + 1, h, g => ⟨Th.ok.mono (t := a) (d := d) (e := e) h.1 (by omega), Th.ok.mono (t := b) (d := d) (e := e) h.2 (by omega)⟩
theorem Th.ok_num {p o d n : Nat} (h : n < 3) : Th.ok p o d (.num n) := by cases d <;> exact h
theorem Th.ok_own {p o d n : Nat} (h : n < o) : Th.ok p o d (.own n) := by cases d <;> exact h
theorem Th.ok_par {p o d n : Nat} (h : n < p) : Th.ok p o d (.par n) := by cases d <;> exact h
noncomputable def Th.isPlace : Th → Bool
  | .cell _ | .own _ | .par _ => true
  | _ => false
mutual
noncomputable def St.ok (sh : List (Nat × Nat)) (at_ : Nat) : Nat → St → Prop
  | _, .set p t => p.isPlace = true ∧ Th.ok (sh.getD at_ (0, 0)).1 (sh.getD at_ (0, 0)).2 4 p ∧ Th.ok (sh.getD at_ (0, 0)).1 (sh.getD at_ (0, 0)).2 4 t
  | _, .say t => Th.ok (sh.getD at_ (0, 0)).1 (sh.getD at_ (0, 0)).2 4 t
  | 0, .ite _ _ _ => False
  | d + 1, .ite t a b => Th.ok (sh.getD at_ (0, 0)).1 (sh.getD at_ (0, 0)).2 4 t ∧ Sts.ok sh at_ d a ∧ Sts.ok sh at_ d b
  | _, .call w ts => at_ < w ∧ w < sh.length ∧ ts.length = (sh.getD w (0, 0)).1 ∧ ∀ t ∈ ts, Th.ok (sh.getD at_ (0, 0)).1 (sh.getD at_ (0, 0)).2 4 t
noncomputable def Sts.ok (sh : List (Nat × Nat)) (at_ : Nat) : Nat → Sts → Prop
  | _, .nil => True
  | d, .cons s r => St.ok sh at_ d s ∧ Sts.ok sh at_ d r
end
theorem St.ok_set {sh : List (Nat × Nat)} {at_ d : Nat} {p t : Th} (h : p.isPlace = true) (h1 : Th.ok (sh.getD at_ (0, 0)).1 (sh.getD at_ (0, 0)).2 4 p) (h2 : Th.ok (sh.getD at_ (0, 0)).1 (sh.getD at_ (0, 0)).2 4 t) : St.ok sh at_ d (.set p t) := by
  cases d <;> (unfold St.ok; exact ⟨h, h1, h2⟩)
theorem St.ok_say {sh : List (Nat × Nat)} {at_ d : Nat} {t : Th} (h : Th.ok (sh.getD at_ (0, 0)).1 (sh.getD at_ (0, 0)).2 4 t) : St.ok sh at_ d (.say t) := by
  cases d <;> (unfold St.ok; exact h)
theorem St.ok_ite {sh : List (Nat × Nat)} {at_ d : Nat} {t : Th} {a b : Sts} (h : Th.ok (sh.getD at_ (0, 0)).1 (sh.getD at_ (0, 0)).2 4 t) (h1 : Sts.ok sh at_ d a) (h2 : Sts.ok sh at_ d b) : St.ok sh at_ (d + 1) (.ite t a b) := by
  unfold St.ok; exact ⟨h, h1, h2⟩
theorem St.ok_call {sh : List (Nat × Nat)} {at_ d w : Nat} {ts : List Th} (h : at_ < w) (h1 : w < sh.length) (h2 : ts.length = (sh.getD w (0, 0)).1) (h3 : ∀ t ∈ ts, Th.ok (sh.getD at_ (0, 0)).1 (sh.getD at_ (0, 0)).2 4 t) : St.ok sh at_ d (.call w ts) := by
  cases d <;> (unfold St.ok; exact ⟨h, h1, h2, h3⟩)
theorem getD_at {sh : List (Nat × Nat)} {i : Nat} (h : i < sh.length) : sh.getD i (0, 0) = sh[i] := by rw [List.getD_eq_getElem?_getD, List.getElem?_eq_getElem h]; rfl
mutual
noncomputable def St.many : St → Nat
  | .set _ _ => 1
  | .say _ => 1
  | .ite _ a b => 1 + a.many + b.many
  | .call _ _ => 1
noncomputable def Sts.many : Sts → Nat
  | .nil => 0
  | .cons s r => s.many + r.many
end
mutual
noncomputable def St.calls : St → Nat
  | .set _ _ => 0
  | .say _ => 0
  | .ite _ a b => a.calls + b.calls
  | .call _ _ => 1
noncomputable def Sts.calls : Sts → Nat
  | .nil => 0
  | .cons s r => s.calls + r.calls
end
theorem Sts.ok_app {sh : List (Nat × Nat)} {at_ : Nat} : ∀ {d : Nat} {a b : Sts}, Sts.ok sh at_ d a → Sts.ok sh at_ d b → Sts.ok sh at_ d (a.app b)
  | _, .nil, _, _, g => g
  | d, .cons s r, b, h, g => by
    unfold Sts.ok at h
    show Sts.ok sh at_ d (.cons s (r.app b))
    unfold Sts.ok
    exact ⟨h.1, Sts.ok_app h.2 g⟩
theorem Sts.ok_take {sh : List (Nat × Nat)} {at_ : Nat} : ∀ {d : Nat} (n : Nat) {a : Sts}, Sts.ok sh at_ d a → Sts.ok sh at_ d (a.take n)
  | _, 0, _, _ => by unfold Sts.take Sts.ok; trivial
  | _, _ + 1, .nil, _ => by unfold Sts.take Sts.ok; trivial
  | d, n + 1, .cons s r, h => by
    unfold Sts.ok at h
    show Sts.ok sh at_ d (.cons s (r.take n))
    unfold Sts.ok
    exact ⟨h.1, Sts.ok_take n h.2⟩
theorem Sts.many_app : ∀ a b : Sts, (a.app b).many = a.many + b.many
  | .nil, b => (Nat.zero_add _).symm
  | .cons s r, b => by
    show s.many + (r.app b).many = s.many + r.many + b.many
    rw [Sts.many_app r b]
    omega
theorem Sts.many_take : ∀ (n : Nat) (a : Sts), (a.take n).many ≤ a.many
  | 0, _ => Nat.zero_le _
  | _ + 1, .nil => Nat.zero_le _
  | n + 1, .cons s r => by
    show s.many + (r.take n).many ≤ s.many + r.many
    have := Sts.many_take n r
    omega
theorem Sts.calls_app : ∀ a b : Sts, (a.app b).calls = a.calls + b.calls
  | .nil, b => (Nat.zero_add _).symm
  | .cons s r, b => by
    show s.calls + (r.app b).calls = s.calls + r.calls + b.calls
    rw [Sts.calls_app r b]
    omega
theorem Sts.calls_take : ∀ (n : Nat) (a : Sts), (a.take n).calls ≤ a.calls
  | 0, _ => Nat.zero_le _
  | _ + 1, .nil => Nat.zero_le _
  | n + 1, .cons s r => by
    show s.calls + (r.take n).calls ≤ s.calls + r.calls
    have := Sts.calls_take n r
    omega
theorem Sts.len_le_many : ∀ a : Sts, a.len ≤ a.many
  | .nil => Nat.le_refl _
  | .cons s r => by
    show r.len + 1 ≤ s.many + r.many
    have := Sts.len_le_many r
    have : 1 ≤ s.many := by cases s <;> (unfold St.many; omega)
    omega
noncomputable def shapes (P : List Wk) : List (Nat × Nat) := P.map fun w => (w.params, w.owns)
/-- what the law's own drawing gives: a program; so many steps and calls at most in a work -/
structure Good (P : List Wk) (steps : Nat) : Prop where
  one : 1 ≤ P.length
  few : P.length ≤ 4
  first : ∀ w, P[0]? = some w → w.params = 0
  params : ∀ w ∈ P, w.params ≤ 3
  owns : ∀ w ∈ P, w.owns ≤ 20
  body : ∀ (i : Nat) (w : Wk), P[i]? = some w → Sts.ok (shapes P) i 2 w.body
  many : ∀ w ∈ P, w.body.many ≤ steps
  calls : ∀ w ∈ P, w.body.calls ≤ 4
end Hw
namespace Hw
open PySem PySem.Spec PyProof.Rows L2
section
variable {K : PySem.W.Frag}
section
variable {H : Hp} {v : V}
theorem St.inv_say {t : Th} (h : Rp K H v (St.say t).enc) : ∃ a u, v = .ref a ∧ SqT K H a [.str "say", u] ∧ Rp K H u t.enc := by
  obtain ⟨a, xs, rfl, ha, hx⟩ := h.tup_inv
  obtain ⟨v0, r0, rfl, g0, gr⟩ := hx.inv
  obtain ⟨v1, r1, rfl, g1, gr1⟩ := gr.inv
  cases gr1.inv0
  cases g0.str_inv
  exact ⟨a, _, rfl, ha, g1⟩
theorem St.inv_set {p t : Th} (h : Rp K H v (St.set p t).enc) : ∃ a u x, v = .ref a ∧ SqT K H a [.str "set", u, x] ∧ Rp K H u p.enc ∧ Rp K H x t.enc := by
  obtain ⟨a, xs, rfl, ha, hx⟩ := h.tup_inv
  obtain ⟨v0, r0, rfl, g0, gr⟩ := hx.inv
  obtain ⟨v1, r1, rfl, g1, gr1⟩ := gr.inv
  obtain ⟨v2, r2, rfl, g2, gr2⟩ := gr1.inv
  cases gr2.inv0
  cases g0.str_inv
  exact ⟨a, _, _, rfl, ha, g1, g2⟩
theorem St.inv_ite {t : Th} {b c : Sts} (h : Rp K H v (St.ite t b c).enc) : ∃ a u x y, v = .ref a ∧ SqT K H a [.str "if", u, x, y] ∧ Rp K H u t.enc ∧ Rp K H x (.tuple b.encs) ∧ Rp K H y (.tuple c.encs) := by
  obtain ⟨a, xs, rfl, ha, hx⟩ := h.tup_inv
  obtain ⟨v0, r0, rfl, g0, gr⟩ := hx.inv
  obtain ⟨v1, r1, rfl, g1, gr1⟩ := gr.inv
  obtain ⟨v2, r2, rfl, g2, gr2⟩ := gr1.inv
  obtain ⟨v3, r3, rfl, g3, gr3⟩ := gr2.inv
  cases gr3.inv0
  cases g0.str_inv
  exact ⟨a, _, _, _, rfl, ha, g1, g2, g3⟩
theorem St.inv_call {k : Nat} {ts : List Th} (h : Rp K H v (St.call k ts).enc) : ∃ a x, v = .ref a ∧ SqT K H a [.str "call", .int (k : Int), x] ∧ Rp K H x (.tuple (ts.map Th.enc)) := by
  obtain ⟨a, xs, rfl, ha, hx⟩ := h.tup_inv
  obtain ⟨v0, r0, rfl, g0, gr⟩ := hx.inv
  obtain ⟨v1, r1, rfl, g1, gr1⟩ := gr.inv
  obtain ⟨v2, r2, rfl, g2, gr2⟩ := gr1.inv
  cases gr2.inv0
  cases g0.str_inv
  cases g1.int_inv
  exact ⟨a, _, rfl, ha, g2⟩
theorem Wk.inv {k : Wk} (h : Rp K H v k.enc) : ∃ a x, v = .ref a ∧ SqT K H a [.int (k.params : Int), .int (k.owns : Int), x] ∧ Rp K H x (.tuple k.body.encs) := by
  obtain ⟨a, xs, rfl, ha, hx⟩ := h.tup_inv
  obtain ⟨v0, r0, rfl, g0, gr⟩ := hx.inv
  obtain ⟨v1, r1, rfl, g1, gr1⟩ := gr.inv
  obtain ⟨v2, r2, rfl, g2, gr2⟩ := gr1.inv
  cases gr2.inv0
  cases g0.int_inv
  cases g1.int_inv
  exact ⟨a, _, rfl, ha, g2⟩
end
noncomputable def Sts.drop : Nat → Sts → Sts
  | 0, b => b
  | _ + 1, .nil => .nil
  | n + 1, .cons _ r => r.drop n
theorem Sts.drop_get : ∀ {i : Nat} {b : Sts} {d : PyData}, b.encs[i]? = some d → ∃ st, d = st.enc ∧ b.drop i = .cons st (b.drop (i + 1))
  | _, .nil, _, e => by simp [Sts.encs] at e
  | 0, .cons s r, d, e => by
    have e' : (s.enc :: r.encs)[0]? = some d := e
    simp at e'
    refine ⟨s, e'.symm, ?_⟩
    show Sts.cons s r = .cons s ((Sts.cons s r).drop 1)
    congr 1
  | i + 1, .cons s r, d, e => by
    have e' : (s.enc :: r.encs)[i + 1]? = some d := e
    simp at e'
    obtain ⟨st, e1, e2⟩ := Sts.drop_get e'
    exact ⟨st, e1, e2⟩
end
noncomputable def Th.dep : Th → Nat
  | .num _ => 0
  | .own _ => 0
  | .par _ => 0
  | .cell t => t.dep + 1
  | .sum a b => max a.dep b.dep + 1
theorem Th.ok_dep {p o : Nat} : ∀ {t : Th} {d : Nat}, Th.ok p o d t → t.dep ≤ d
  | .num _, d, _ => Nat.zero_le _
  | .own _, d, _ => Nat.zero_le _
  | .par _, d, _ => Nat.zero_le _
  | .cell t, 0, h => h.elim
  | .cell t, d + 1, h => by
    have := Th.ok_dep (t := t) (d := d) h
    show t.dep + 1 ≤ d + 1
    omega
  | .sum a b, 0, h => h.elim
  | .sum a b, d + 1, h => by
    have := Th.ok_dep (t := a) (d := d) h.1
    have := Th.ok_dep (t := b) (d := d) h.2
    show max a.dep b.dep + 1 ≤ d + 1
    omega
mutual
noncomputable def St.thin : St → Prop
  | .set _ _ => True
  | .say _ => True
  | .ite _ a b => a.thin ∧ b.thin
  | .call _ ts => ∀ t ∈ ts, t.dep ≤ 3
noncomputable def Sts.thin : Sts → Prop
  | .nil => True
  | .cons s r => s.thin ∧ r.thin
end
noncomputable def St.okD (sh : List (Nat × Nat)) (i d : Nat) (s : St) : Prop := St.ok sh i d s ∧ s.thin
noncomputable def Sts.okD (sh : List (Nat × Nat)) (i d : Nat) (b : Sts) : Prop := Sts.ok sh i d b ∧ b.thin
theorem Sts.thin_app : ∀ {a b : Sts}, a.thin → b.thin → (a.app b).thin
  | .nil, b, _, g => g
  | .cons s r, b, h, g => by
    unfold Sts.thin at h
    show (Sts.cons s (r.app b)).thin
    unfold Sts.thin
    exact ⟨h.1, Sts.thin_app h.2 g⟩
theorem Sts.thin_take : ∀ (n : Nat) {a : Sts}, a.thin → (a.take n).thin
  | 0, _, _ => by unfold Sts.take Sts.thin; trivial
  | _ + 1, .nil, _ => by unfold Sts.take Sts.thin; trivial
  | n + 1, .cons s r, h => by
    unfold Sts.thin at h
    show (Sts.cons s (r.take n)).thin
    unfold Sts.thin
    exact ⟨h.1, Sts.thin_take n h.2⟩
theorem Sts.okD_nil {sh : List (Nat × Nat)} {i d : Nat} : Sts.okD sh i d .nil := ⟨by unfold Sts.ok; trivial, by unfold Sts.thin; trivial⟩
theorem Sts.okD_one {sh : List (Nat × Nat)} {i d : Nat} {s : St} (h : St.okD sh i d s) : Sts.okD sh i d (.cons s .nil) := ⟨by unfold Sts.ok; exact ⟨h.1, by unfold Sts.ok; trivial⟩, by unfold Sts.thin; exact ⟨h.2, by unfold Sts.thin; trivial⟩⟩
theorem Sts.okD_app {sh : List (Nat × Nat)} {i d : Nat} {a b : Sts} (h : Sts.okD sh i d a) (g : Sts.okD sh i d b) : Sts.okD sh i d (a.app b) := ⟨Sts.ok_app h.1 g.1, Sts.thin_app h.2 g.2⟩
theorem Sts.okD_take {sh : List (Nat × Nat)} {i d : Nat} (n : Nat) {a : Sts} (h : Sts.okD sh i d a) : Sts.okD sh i d (a.take n) := ⟨Sts.ok_take n h.1, Sts.thin_take n h.2⟩
structure Drawn (P : List Wk) (steps : Nat) : Prop extends Good P steps where
  thin : ∀ w ∈ P, w.body.thin
  tight : ∀ w ∈ P, w.owns ≤ 10
end Hw
namespace Hw
open PySem PySem.Spec PyProof.Rows L2
mutual
inductive Fr where
  | mk (owns : List Nat) (hs : Hds)
inductive Hd where
  | road (p : Nat) (ws : List Nat) | want (t : Th) (f : Fr)
inductive Hds where
  | nil | cons (h : Hd) (r : Hds)
end
noncomputable def Hds.get : Hds → Nat → Option Hd
  | .nil, _ => none
  | .cons h _, 0 => some h
  | .cons _ r, n + 1 => r.get n
noncomputable def Hds.of : List (Hd × Option Nat) → Hds
  | [] => .nil
  | (h, _) :: r => .cons h (Hds.of r)
/-- the number of a thing: at, the numbers by place; so much fuel -/
noncomputable def numF (at_ : List Nat) : Nat → Fr → Th → Option Nat
  | 0, _, _ => none
  | _ + 1, _, .num k => some k
  | n + 1, f, .sum a b => (numF at_ n f a).bind fun x => (numF at_ n f b).bind fun y => some ((x + y) % 3)
  | n + 1, f, .cell t => (numF at_ n f t).bind fun x => at_[x]?
  | _ + 1, .mk os _, .own k => os[k]?.bind fun p => at_[p]?
  | n + 1, .mk _ hs, .par k => match hs.get k with
    | some (.road p _) => at_[p]?
    | some (.want t f) => numF at_ n f t
    | none => none
/-- the place that a thing is (none: it is none), and the lent things on the road -/
noncomputable def roadF (at_ : List Nat) : Nat → Fr → Th → Option (Option (Nat × List Nat))
  | 0, _, _ => none
  | _ + 1, _, .num _ => some none
  | _ + 1, _, .sum _ _ => some none
  | n + 1, f, .cell t => (numF at_ n f t).map fun x => some (x, [])
  | _ + 1, .mk os _, .own k => os[k]?.map fun p => some (p, [])
  | n + 1, .mk _ hs, .par k => match hs.get k with
    | some (.road p ws) => some (some (p, ws))
    | some (.want t f) => roadF at_ n f t
    | none => none
structure LS where
  at_ : List Nat
  said : List Nat
  lent : List (Nat × Nat)
  many : Nat
  mixed : Bool
noncomputable def iter (g : LS → St → Option LS) : Sts → LS → Option LS
  | .nil, S => some S
  | .cons s r, S => (g S s).bind (iter g r)
end Hw
namespace Hw
open PySem PySem.Spec PyProof.Rows L2
mutual
noncomputable def Fr.wsLe (m : Nat) : Fr → Prop
  | .mk _ hs => hs.wsLe m
noncomputable def Hd.wsLe (m : Nat) : Hd → Prop
  | .road _ ws => ws.length ≤ m
  | .want _ f => f.wsLe m
noncomputable def Hds.wsLe (m : Nat) : Hds → Prop
  | .nil => True
  | .cons h r => h.wsLe m ∧ r.wsLe m
end
mutual
theorem Fr.wsLe.mono {m n : Nat} (l : m ≤ n) : ∀ {f : Fr}, f.wsLe m → f.wsLe n
  | .mk _ hs, h => by
    unfold Fr.wsLe at h ⊢
    exact Hds.wsLe.mono l h
theorem Hd.wsLe.mono {m n : Nat} (l : m ≤ n) : ∀ {d : Hd}, d.wsLe m → d.wsLe n
  | .road _ ws, h => by
    unfold Hd.wsLe at h ⊢
    exact Nat.le_trans h l
  | .want _ f, h => by
    unfold Hd.wsLe at h ⊢
    exact Fr.wsLe.mono l h
theorem Hds.wsLe.mono {m n : Nat} (l : m ≤ n) : ∀ {hs : Hds}, hs.wsLe m → hs.wsLe n
  | .nil, h => by unfold Hds.wsLe; trivial
  | .cons d r, h => by
    unfold Hds.wsLe at h ⊢
    exact ⟨Hd.wsLe.mono l h.1, Hds.wsLe.mono l h.2⟩
end
theorem Hds.wsLe.get {m : Nat} : ∀ {hs : Hds} {i : Nat} {d : Hd}, hs.wsLe m → hs.get i = some d → d.wsLe m
  | .nil, _, _, _, e => by unfold Hds.get at e; cases e
  | .cons d r, 0, d', h, e => by
    unfold Hds.wsLe at h
    unfold Hds.get at e
    cases e
    exact h.1
  | .cons d r, i + 1, d', h, e => by
    unfold Hds.wsLe at h
    unfold Hds.get at e
    exact Hds.wsLe.get h.2 e
structure Le (S S' : LS) : Prop where
  a : S.at_.length ≤ S'.at_.length
  s : S.said.length ≤ S'.said.length
  m : S.many ≤ S'.many
  l : S.lent.length ≤ S.many → S'.lent.length ≤ S'.many
theorem Le.refl {S : LS} : Le S S := ⟨Nat.le_refl _, Nat.le_refl _, Nat.le_refl _, id⟩
theorem Le.trans {S S1 S2 : LS} (x : Le S S1) (y : Le S1 S2) : Le S S2 := ⟨Nat.le_trans x.a y.a, Nat.le_trans x.s y.s, Nat.le_trans x.m y.m, fun h => y.l (x.l h)⟩
end Hw
namespace Hw
open PySem PySem.Spec PyProof.Rows L2
section
variable {K : PySem.W.Frag}
noncomputable def encW (W : List (List Str)) : PyData := .tuple (W.map fun ws => .tuple (ws.map PyData.str))
noncomputable def fourWays : List Str := ["copy", "place", "back", "want"]
structure Run (K : PySem.W.Frag) (H : Hp) (P : List Wk) (W : List (List Str)) (vp vw : V) : Prop where
  p : Rp K H vp (encP P)
  w : Rp K H vw (encW W)
  o : ∀ w ∈ P, w.owns ≤ 1000
  k : ∀ ws ∈ W, ∀ x ∈ ws, x ∈ fourWays
  l : ∀ ws ∈ W, ws.length ≤ 1000
theorem Run.ts {H H1 : Hp} {P : List Wk} {W : List (List Str)} {vp vw : V} (r : Run K H P W vp vw) (t : Tst H H1) : Run K H1 P W vp vw := ⟨r.p.ts t, r.w.ts t, r.o, r.k, r.l⟩
noncomputable def Fits (S : LS) : Prop := S.at_.length ≤ 90000 ∧ S.said.length ≤ 90000 ∧ S.many ≤ 90000
theorem Fits.le {S S' : LS} (f : Fits S') (l : Le S S') : Fits S := ⟨Nat.le_trans l.a f.1, Nat.le_trans l.s f.2.1, Nat.le_trans l.m f.2.2⟩
end
end Hw
namespace Hw
open PySem PySem.Spec PyProof.Rows L2
noncomputable def rEqS (K : PySem.W.Frag) : R2 := fun x y H Q => rEqD K x y H Q ∨ ∃ (a : Addr) (xs : List V) (z : Str), x = .ref a ∧ y = .str z ∧ SqT K H a xs ∧ Q (.bl false) H
theorem opEqS {X : Cx} {K : PySem.W.Frag} (hu : X.A.units + 64 < cLine) (h : X.K = K := by rfl) : OpR X (compareOp .Eq) (rEqS K) := by
  subst h
  intro pins s σ H x y v u Q I rx ry h
  rcases h with h | ⟨a, xs, z, rfl, rfl, hT, q⟩
  · exact op_eqD hu pins s σ H x y v u Q I rx ry h
  · cases (show v = Value.ref a from rx)
    obtain ⟨t, rfl⟩ := ry
    obtain ⟨its, rv, p, _⟩ := I.tuple hT
    exact SeqAt.RcAt.tuple_str z t p (by omega) _ _ _ _ ⟨.bl false, H, I, rfl, q⟩
end Hw
namespace Hw
open PySem PySem.Spec PyProof.Rows L2
theorem meets_enum1 {v : Value} {o : Obj} {H : Heap → Prop} (B : Begins v o H) :
    Meets (Builtin.«enumerate.__new__» ⟨[.type "enumerate", v], []⟩) (fun _ R s => H s.heap ∧
      R (.ok (.ret (.ref (s.heap.push o).objs.size))) { s with heap := (s.heap.push o).push { cls := .type "enumerate", data := .fields #[.none, .bool false, .ref s.heap.objs.size, rawInt 0, .none, .none] } }) :=
  .of_wp fun prog w A R s h => by
    obtain ⟨hp, g, d, tk, os⟩ := s; obtain ⟨h1, h⟩ := h
    have hsub := sub_enumerate
    have q1 : ∀ {A' : Around} {E : Value → Shared → Prop} {Q : Value → Shared → Prop}, Q (.ref hp.objs.size) ⟨hp.push o, g, d, tk, os⟩ → wpAny (model prog w) A' (pyIter v) Q E ⟨hp, g, d, tk, os⟩ :=
      fun q => B.iter prog w _ _ ⟨hp, g, d, tk, os⟩ _ h1 q
    wp_walk using q1
    refine wpAny_stack_any fun st => wpAny_pure ?_
    split
    · rename_i c _ _ _ _ _
      cases (c == Value.type "enumerate")
      · wp_walk using q1
        exact ⟨_, rfl, h⟩
      · wp_walk using q1
        exact ⟨_, rfl, h⟩
    · wp_walk using q1
      exact ⟨_, rfl, h⟩
section
variable {prog : Program} {w : World} {A : Around} {E : Value → Shared → Prop} {s : Shared}
theorem enum_tuple {t : Addr} {items : Array Value} {Q : Value → Shared → Prop} (h1 : s.heap.IsTuple t items)
    (h : ∀ h', IsEnum h' (s.heap.objs.size + 1) s.heap.objs.size 0 .none → h'.IsTupleIter s.heap.objs.size t 0 → h'.objs.size = s.heap.objs.size + 2 →
      (∀ b o, s.heap.get? b = some o → h'.get? b = some o) → Q (.ref (s.heap.objs.size + 1)) { s with heap := h' }) :
    wpAny (model prog w) A (call (.type "enumerate") [.ref t]) Q E s := by
  have B := begins_tuple t items
  refine callType_new F.called_enumerate (by decide) (F.typeCall_enumerate_1 _) (F.newCall_enumerate_1 _) (fun obj => F.args_object_init_2 obj _) F.entry_enumerate_new (meets_enum1 B) ⟨h1, ?_⟩
  have hz : (s.heap.push { cls := .type "tuple_iterator", data := .fields #[.ref t, .int 0 0] }).objs.size = s.heap.objs.size + 1 := Heap.size_push ..
  show _ ∧ _
  rw [hz]
  have he : IsEnum ((s.heap.push { cls := .type "tuple_iterator", data := .fields #[.ref t, .int 0 0] }).push { cls := .type "enumerate", data := .fields #[.none, .bool false, .ref s.heap.objs.size, rawInt 0, .none, .none] }) (s.heap.objs.size + 1) s.heap.objs.size 0 .none := by
    have := Heap.get?_push_size (s.heap.push { cls := .type "tuple_iterator", data := .fields #[.ref t, .int 0 0] }) (o := { cls := .type "enumerate", data := .fields #[.none, .bool false, .ref s.heap.objs.size, rawInt 0, .none, .none] }) rfl
    rw [hz] at this; exact this
  refine ⟨⟨_, he, rfl⟩, h _ he ⟨_, Heap.get?_push_of_some _ (Heap.get?_push_size _ rfl), rfl, rfl⟩ (by rw [Heap.size_push, hz]) fun b o x => Heap.get?_push_of_some _ (Heap.get?_push_of_some _ x)⟩
end
/-- the tuple at a as it stands at each turn, each item in a new pair -/
noncomputable def IteT (K : PySem.W.Frag) (a : Addr) : It :=
  ⟨fun i H => ∃ (xs : List V) (x : V), SqT K H a xs ∧ xs[i]? = some x, fun i H v H' => ∃ T x, v = .ref T ∧ H T = none ∧ H' = upd H T (.tup [.int (i : Nat), x]) ∧ ∀ xs, SqT K H a xs → xs[i]? = some x, fun i H => ∃ xs : List V, SqT K H a xs ∧ xs.length = i⟩
theorem turn_enumT {P : Program} {w : World} {K : PySem.W.Frag} {elts : List Expr} {kk : Nat} {tpos : Pos} (a e it : Addr) :
    Turn P w K (.Tuple elts kk tpos) (IteT K a) [e, it] e (fun i h => (∃ old, IsEnum h e it ((i : Nat) : Int) old) ∧ h.IsTupleIter it a i ∧ e ≠ it ∧ e ≠ a ∧ a ≠ it) where
  mem := by simp
  obj := fun i h st b hb => by
    obtain ⟨⟨old, he⟩, ⟨o, ho, hc, hd⟩, _⟩ := st
    have e' : b = e ∨ b = it := by simpa using hb
    rcases e' with z | z
    · rw [z]; exact ⟨_, he, fun v q => nomatch q⟩
    · rw [z]; exact ⟨o, ho, fun v q => by rw [hd] at q; cases q⟩
  keep := fun i h h' st k => let ⟨⟨old, he⟩, hi, hne⟩ := st; ⟨⟨old, k e (by simp) _ he⟩, hi.at fun o q => k it (by simp) o q, hne⟩
  item := by
    intro X hP hw hK hc i pins s σ H E I hf st hg
    subst hP hw hK
    obtain ⟨⟨old, he⟩, hit, hne, hea, hai⟩ := st
    obtain ⟨xs, x, hq, hx⟩ := hg
    obtain ⟨its, rv, p, hz⟩ := I.tuple hq
    obtain ⟨u, hu, ru⟩ := rv.get hx
    have hel : e < s.heap.objs.size := Heap.lt_size he
    have hil : it < s.heap.objs.size := by obtain ⟨_, q, _⟩ := hit; exact Heap.lt_size q
    have hlt : i < its.length := (List.getElem?_eq_some_iff.mp hu).1
    have D := Draws.tuple (prog := X.prog) (w := X.w) (A := X.A.in1) (show X.A.in1.handled = none from I.ok.hd hc) it a hai its.toArray
    refine wpAny_pyNext_enum_itemD D he ⟨hit, p⟩ (by simpa using hlt) hne (by simp [hne, hea]) fun u' h' tk hu' ho hst hT hsz hk => ?_
    have eu : u' = u := by
      have q : its[i]? = some u' := by simpa using hu'
      rw [hu] at q
      exact (Option.some.inj q).symm
    subst eu
    refine ⟨_, rfl, wpAny_letOwnedTupleGo_enum (s := { s with heap := h', toks := tk + 1 }) ho fun h'' he' sb => ?_⟩
    have hT2 : h''.get? s.heap.objs.size = some { cls := .type "tuple", data := .seq #[.int i tk, u'] } := (sb.2 _ (Nat.ne_of_gt hel)).trans hT
    have new : ObjOk X.prog X.w (upd H s.heap.objs.size (.tup [.int (i : Nat), x])) h'' s.heap.objs.size (.tup [.int (i : Nat), x]) :=
      ⟨by show 2 ≤ sizeLine; decide, [.int i tk, u'], .cons ⟨_, rfl⟩ (.cons ru .nil), ⟨_, hT2, rfl, _, rfl⟩⟩
    have I1 : Inv X pins σ (upd H s.heap.objs.size (.tup [.int (i : Nat), x])) { s with heap := h'', toks := tk + 1 } :=
      I.turnedNew (ch := [e, it]) (fun b ob hb q => (sb.2 b (fun z => hb (by simp [z]))).trans (hk b ob (fun z => hb (by simp [z])) (fun z => hb (by simp [z])) q)) hf (Nat.le_refl _) new
    refine ⟨.ref s.heap.objs.size, _, I1, rfl, ⟨_, x, rfl, I.hok.fresh (Nat.le_refl _), rfl, fun ys hy => by rw [I.tuple_inj hy hq]; exact hx⟩, ⟨⟨u', ?_⟩, hst.1.at fun o q => (sb.2 it (Ne.symm hne)).trans q, hne, hea, hai⟩, fun b hb => ?_⟩
    · have e1 : ((i + 1 : Nat) : Int) = (i : Int) + 1 := by omega
      rw [e1]; exact he'
    · have hb' : b < s.heap.objs.size := by
        have e' : b = e ∨ b = it := by simpa using hb
        rcases e' with z | z
        · rw [z]; exact hel
        · rw [z]; exact hil
      rw [upd_ne (Nat.ne_of_lt hb')]
      exact (hf b hb).1
  done := by
    intro X hP hw hK hc i pins s σ H E I hf st hg
    subst hP hw hK
    obtain ⟨⟨old, he⟩, hit, hne, hea, hai⟩ := st
    obtain ⟨xs, hq, hx⟩ := hg
    obtain ⟨its, rv, p, hz⟩ := I.tuple hq
    obtain ⟨f0, f1, f2, f3, f4, f5⟩ := hf it (by simp)
    have hl := rv.length
    have D := Draws.tuple (prog := X.prog) (w := X.w) (A := X.A.in1) (show X.A.in1.handled = none from I.ok.hd hc) it a hai its.toArray
    have ei : i = its.toArray.size := by simp; omega
    exact wpAny_pyNext_enum_endD D he ⟨by rw [← ei]; exact hit, p⟩ fun h' eb => ⟨rfl, I.turned (t' := s.toks) (fun b o hb q => eb b o hb q) f0 f1 f3 f4 f5⟩
  self := fun A i s Q E st h => let ⟨⟨_, he⟩, _⟩ := st; wpAny_pyIter_enum he h
noncomputable def iEnumT (K : PySem.W.Frag) (ta : TA) : TI := fun σ H R => ta σ H fun vs H1 => ∃ a xs, vs = [.ref a] ∧ SqT K H1 a xs ∧ R (IteT K a) H1
theorem pi_enumT0 {X : Cx} {e : Expr} {ta : TA} {p pos tpos : Pos} {elts : List Expr} {kk : Nat} (hg : Gl X "enumerate") (hm : X.mg "enumerate" = none) (ha : PA X [e] ta) (hs : starEach [e] X.env = [(false, eval e X.env)] := by rfl) :
    PI X (.Tuple elts kk tpos) (.Call (.Name "enumerate" p) [e] [] pos) (iEnumT X.K ta) := by
  refine ⟨fun pins s σ H R I h => ?_⟩
  refine Call_ (ld_blt I hg hm boot_enumerate (PyProof.Rows.callWith_type1 (thn (ha.run pos pins s σ H _ I h) fun us s1 ⟨vs, H1, I1, r1, q1⟩ => ?_) hs rfl))
  obtain ⟨a, xs, ex, hq, q⟩ := q1
  subst ex
  cases r1 with
  | cons r rr =>
    cases rr
    cases r
    obtain ⟨its, rv, p', hz⟩ := I1.tuple hq
    refine enum_tuple p' fun h' he hit hsz hk => wpAny_pyIter_enum he ?_
    have I2 : Inv X pins σ H1 { s1 with heap := h' } := I1.kept (t' := s1.toks) hk
    have hal : a < s1.heap.objs.size := by obtain ⟨o, ho, _⟩ := p'; exact Heap.lt_size ho
    refine ⟨s1.heap.objs.size + 1, [s1.heap.objs.size + 1, s1.heap.objs.size], _, _, H1, rfl, I2, turn_enumT a (s1.heap.objs.size + 1) s1.heap.objs.size, ⟨⟨.none, he⟩, hit, Nat.succ_ne_self _, Nat.ne_of_gt (Nat.lt_succ_of_lt hal), Nat.ne_of_lt hal⟩, fun b hb => ?_, q⟩
    have e' : b = s1.heap.objs.size + 1 ∨ b = s1.heap.objs.size := by simpa using hb
    have hle : s1.heap.objs.size ≤ b := by
      rcases e' with z | z
      · rw [z]; exact Nat.le_add_right _ _
      · rw [z]; exact Nat.le_refl _
    exact I1.fpOk hle (I1.hok.fresh hle)
theorem pi_enumT {X : Cx} {K : PySem.W.Frag} {e : Expr} {ta : TA} {p pos tpos : Pos} {elts : List Expr} {kk : Nat} (hg : Gl X "enumerate") (hm : X.mg "enumerate" = none) (ha : PA X [e] ta) (h : X.K = K := by rfl) (hs : starEach [e] X.env = [(false, eval e X.env)] := by rfl) :
    PI X (.Tuple elts kk tpos) (.Call (.Name "enumerate" p) [e] [] pos) (iEnumT K ta) := h ▸ pi_enumT0 hg hm ha hs
end Hw
namespace Hw
open PySem PySem.Spec PyProof.Rows L2
/-- what a place is lent by -/
noncomputable def lentOf (lent : List (Nat × Nat)) (p : Nat) : List Nat := lent.filterMap fun q => if q.1 = p then some q.2 else none
noncomputable def Th.lit : Th → Prop
  | .num k => k < 3
  | .sum a b => a.lit ∧ b.lit
  | .cell t => t.lit
  | .own _ => True
  | .par _ => True
mutual
noncomputable def Fr.lit : Fr → Prop
  | .mk _ hs => hs.lit
noncomputable def Hd.lit : Hd → Prop
  | .road _ _ => True
  | .want t f => t.lit ∧ f.lit
noncomputable def Hds.lit : Hds → Prop
  | .nil => True
  | .cons h r => h.lit ∧ r.lit
end
theorem Hds.lit.get : ∀ {hs : Hds} {i : Nat} {d : Hd}, hs.lit → hs.get i = some d → d.lit
  | .nil, _, _, _, e => by unfold Hds.get at e; cases e
  | .cons d r, 0, d', h, e => by
    unfold Hds.lit at h
    unfold Hds.get at e
    cases e
    exact h.1
  | .cons d r, i + 1, d', h, e => by
    unfold Hds.lit at h
    unfold Hds.get at e
    exact Hds.lit.get h.2 e
noncomputable def Low (a : List Nat) : Prop := ∀ x ∈ a, x < 3
theorem Low.get {a : List Nat} {i x : Nat} (l : Low a) (e : a[i]? = some x) : x < 3 := l x (List.mem_of_getElem? e)
theorem Low.app {a b : List Nat} (l : Low a) (k : Low b) : Low (a ++ b) := fun x hx => (List.mem_append.mp hx).elim (l x) (k x)
theorem Low.one {v : Nat} (h : v < 3) : Low [v] := fun x hx => by cases List.mem_singleton.mp hx; exact h
theorem Low.set {a : List Nat} {i v : Nat} (l : Low a) (h : v < 3) : Low (a.set i v) := fun x hx => by
  rcases List.mem_or_eq_of_mem_set hx with hx | hx
  · exact l x hx
  · rw [hx]; exact h
end Hw
namespace Hw
open PySem PySem.Spec PyProof.Rows L2
/-- the list at a, the tuple at b, the list at c as they stand at each turn, the items in new triples -/
noncomputable def Itz3 (K : PySem.W.Frag) (a b c : Addr) : It :=
  ⟨fun i H => ∃ (xs ys zs : List V) (x y z : V), SqL K H a xs ∧ SqT K H b ys ∧ SqL K H c zs ∧ xs[i]? = some x ∧ ys[i]? = some y ∧ zs[i]? = some z,
    fun i H v H' => ∃ T x y z, v = .ref T ∧ H T = none ∧ H' = upd H T (.tup [x, y, z]) ∧ (∀ xs, SqL K H a xs → xs[i]? = some x) ∧ (∀ ys, SqT K H b ys → ys[i]? = some y) ∧ ∀ zs, SqL K H c zs → zs[i]? = some z,
    fun i H => ∃ xs ys zs : List V, SqL K H a xs ∧ SqT K H b ys ∧ SqL K H c zs ∧ xs.length = i ∧ ys.length = i ∧ zs.length = i⟩
noncomputable def iZip3 (K : PySem.W.Frag) (ta : TA) : TI := fun σ H R => ta σ H fun vs H1 => ∃ a b c xs ys zs, vs = [.ref a, .ref b, .ref c] ∧ SqL K H1 a xs ∧ SqT K H1 b ys ∧ SqL K H1 c zs ∧ R (Itz3 K a b c) H1
end Hw
namespace Hw
open PySem PySem.Spec PyProof.Rows L2
section
variable {K : PySem.W.Frag} {σ : L2.St} {H : Hp} {Q : VK} {QT : Bool → Hp → Prop} {ta tb tc te : TE} {t u : TT} {x y z v : V} {D : Ends} {ts tu : TS} {tl : TA}
noncomputable def OverE (K : PySem.W.Frag) (vs : List V) (H : Hp) (R : Addr → Prop) : Prop := ∃ a xs, vs = [.ref a] ∧ SqT K H a xs ∧ R a
theorem r_enumT {R : It → Hp → Prop} (h : tl σ H fun vs H1 => OverE K vs H1 fun a => R (IteT K a) H1) : iEnumT K tl σ H R := h
theorem r_overE {a : Addr} {xs : List V} {R : Addr → Prop} (h : SqT K H a xs) (q : R a) : OverE K [.ref a] H R := ⟨a, xs, rfl, h, q⟩
noncomputable def ZipA (K : PySem.W.Frag) (R : It → Hp → Prop) (vs : List V) (H1 : Hp) : Prop := ∃ a b xs ys, vs = [.ref a, .ref b] ∧ ((SqL K H1 a xs ∧ SqL K H1 b ys ∧ R (Itz K a b) H1) ∨ (SqT K H1 a xs ∧ SqT K H1 b ys ∧ R (RZ.ItzT K a b) H1))
theorem r_zipA {R : It → Hp → Prop} (h : tl σ H fun vs H1 => ZipA K R vs H1) : RZ.iZipA K tl σ H R := h
theorem r_zipT {R : It → Hp → Prop} {a b : Addr} {xs ys : List V} (h : SqT K H a xs) (h2 : SqT K H b ys) (q : R (RZ.ItzT K a b) H) : ZipA K R [.ref a, .ref b] H := ⟨a, b, xs, ys, rfl, .inr ⟨h, h2, q⟩⟩
noncomputable def OverZ3 (K : PySem.W.Frag) (vs : List V) (H : Hp) (R : Addr → Addr → Addr → Prop) : Prop := ∃ a b c xs ys zs, vs = [.ref a, .ref b, .ref c] ∧ SqL K H a xs ∧ SqT K H b ys ∧ SqL K H c zs ∧ R a b c
theorem r_zip3 {R : It → Hp → Prop} (h : tl σ H fun vs H1 => OverZ3 K vs H1 fun a b c => R (Itz3 K a b c) H1) : iZip3 K tl σ H R := h
theorem r_overZ3 {a b c : Addr} {xs ys zs : List V} {R : Addr → Addr → Addr → Prop} (h : SqL K H a xs) (h2 : SqT K H b ys) (h3 : SqL K H c zs) (q : R a b c) : OverZ3 K [.ref a, .ref b, .ref c] H R := ⟨a, b, c, xs, ys, zs, rfl, h, h2, h3, q⟩
theorem forE {a : Addr} {xs : List V} {g : TG} (Pv : Nat → L2.St → Hp → Prop) (h0 : Pv 0 σ H) (hG : ∀ i σ H, i ≤ xs.length → Pv i σ H → SqT K H a xs)
    (hs : ∀ i x T σ H H1, xs[i]? = some x → Pv i σ H → H T = none → H1 T = some (.tup [.int (i : Int), x]) → Keep [] H H1 → g (.ref T) σ H1 fun σ2 H2 => ts { D with nx := Pv (i + 1), ct := Pv (i + 1), bk := D.nx } σ2 H2)
    (hd : ∀ σ H, Pv xs.length σ H → D.nx σ H) : ForIt (IteT K a) g ts D σ H := by
  refine ⟨fun i m σ H => m = xs.length - i ∧ i ≤ xs.length ∧ Pv i σ H, ⟨xs.length, rfl, Nat.zero_le _, h0⟩, ?_⟩
  rintro i m σ H ⟨rfl, hi, p⟩
  have qx := hG i σ H hi p
  by_cases hlt : i < xs.length
  · have hx : xs[i]? = some xs[i] := List.getElem?_eq_getElem hlt
    refine .inr ⟨⟨xs, _, qx, hx⟩, Pv (i + 1), fun σ' H' p' => ⟨xs.length - (i + 1), by omega, rfl, hlt, p'⟩, fun v H' y => ?_⟩
    obtain ⟨T, x', rfl, hT, rfl, f1⟩ := y
    exact hs i x' T σ H _ (f1 xs qx) p hT upd_same (Keep.new hT)
  · have e : i = xs.length := by omega
    subst e
    exact .inl ⟨⟨xs, qx, rfl⟩, hd σ H p⟩
/-- an own class that is made: what its __init__ promises of the new object -/
structure Maker (P : Program) (w : World) (K : PySem.W.Frag) (mg : Str → Option Value) (base : Heap) (x : Str) (C : Addr) (k : Nat) (ps : List Str) (sp : Sp) : Prop where
  ex : ∃ (f : Addr) (fd : FuncData), L2.Mk K C f ∧ FnOk P w K mg base CX0 k f fd ps sp ∧ mg x = some (.ref C) ∧ Binds K fd ps []
/-- a class, as it stands -/
structure ClassAt (K : PySem.W.Frag) (mg : Str → Option Value) (x qual : Str) (C : Addr) (st : Stmt) (ps : List Str) : Prop where
  ex : ∃ (f : Addr) (fd : FuncData), L2.Mk K C f ∧ Fun K "__init__" qual st f fd ∧ mg x = some (.ref C) ∧ Binds K fd ps []
theorem ClassAt.ok {P : Program} {w : World} {mg : Str → Option Value} {base : Heap} {x qual : Str} {C : Addr} {st : Stmt} {N ps : List Str} {k : Nat} {sp : Sp} (D : ClassAt K mg x qual C st ps) (S : FnScope N ps (defScope st)) (len : ∀ vs H Q E, sp vs H Q E → vs.length = ps.length)
    (hbody : ∀ (f : Addr) (cdv : Value) (A : Around) (outer : List Env) (s : Shared) (H : Hp) (vs : List V) (Q : VK) (E : XK), Room k (A.deeper (envOfC qual (defScope st) s.heap.objs.size f cdv)) → sp vs H Q E →
      ∃ t, PSs (cxOf CX0 P w K mg base N qual (defScope st) f cdv A outer s H E).nox (defBody st) t ∧ t { nx := fun _ H' => Q .non H', rt := Q } (start N vs) H) : Maker P w K mg base x C (k + 1) ps sp := by
  obtain ⟨f, fd, M, F, m, b⟩ := D.ex
  exact ⟨f, fd, M, F.ok S len fun cdv A outer s H vs Q E hr h => hbody f cdv A outer s H vs Q E hr h, m, b⟩
theorem pmake {X : Cx} {k : Nat} {ps : List Str} {sp : Sp} {x : Str} {C : Addr} {p pos : Pos} {e : Expr} {es : List Expr} {t : TA} (M : Maker X.prog X.w X.K X.mg X.base x C k ps sp) (hr : Room (k + 1) X.A) (hg : Gl X x) (ha : PA X (e :: es) t)
    (hd : (x == ("__debug__" : Str)) = false := by decide) (h1 : starEach (e :: es) X.env = (false, eval e X.env) :: starEach es X.env := by rfl)
    (h2 : ((backTo pos (starEach es X.env)).any fun x => x.1) = false := by rfl) : PE X (.Call (.Name x p) (e :: es) [] pos) (tMake C sp [] E0 t) := by
  obtain ⟨f, fd, M, F, m, b⟩ := M.ex
  exact pe_make M F hr hg m b .nil pass0 ha hd h1 h2
/-- the new object is handed to its __init__ -/
noncomputable def Made (C : Addr) (sp : Sp) (vs : List V) (H : Hp) (Q : VK) : Prop := ∀ x dx, H x = none → H dx = none → dx ≠ x → sp (.ref x :: (vs ++ [])) (upd (upd H dx (.own x)) x (.ins C dx [])) (fun v H2 => v = .non ∧ Q (.ref x) H2) E0
theorem r_make {C : Addr} {sp : Sp} (h : tl σ H fun vs H1 => Made C sp vs H1 Q) : tMake C sp [] E0 tl σ H Q := h
theorem made {C : Addr} {sp : Sp} {vs : List V} (h : ∀ x dx H1, H x = none → H dx = none → dx ≠ x → H1 x = some (.ins C dx []) → (∃ o, H1 dx = some (.own o)) → Keep [] H H1 → sp (.ref x :: vs) H1 (fun v H2 => v = .non ∧ Q (.ref x) H2) E0) : Made C sp vs H Q := fun x dx hx hd n => by
  rw [List.append_nil]
  refine h x dx _ hx hd n upd_same ⟨x, by rw [upd_ne n]; exact upd_same⟩ fun a o e _ => ?_
  rw [upd_ne (ne_of_none e hx), upd_ne (ne_of_none e hd)]
  exact e
/-- what isinstance asks of the class of the instance -/
structure TyC (K : PySem.W.Frag) (C : Addr) : Prop where
  cl : Cls K C
  ha : PySem.W.findIn K (.ref C) "__class__" = some (some (.builtin "object.__class__"))
  hn : PySem.W.specialIn K (.builtin "object.__class__") "__get__" = some (some (.builtin "getset_descriptor.__get__"))
  htk : PySem.W.takesIn K (.builtin "object.__class__") = some true
  hm : PySem.W.mroIn K C (.type "object") = some true
theorem r_isiC {a C dx C2 : Addr} {fs : List (Str × V)} {b : Bool} (h : H a = some (.ins C dx fs)) (c : TyC K C) (e : PySem.W.kitOne K (.ref C) (.ref C2) = some b) (q : Q (.bl b) H) : rIsi K [.ref a, .ref C2] H Q :=
  ⟨.ref a, .ref C2, .ref C, .ref C2, b, rfl, .own C2, .base (.ins h c.cl c.ha c.hn c.htk c.hm), e, q⟩
theorem pePop {X : Cx} {o : Expr} {to : TE} {apos cpos : Pos} (ho : PE X o to) (h : X.K = K := by rfl)
    (h1 : attributeBase o "pop" X.env (eval o X.env) = eval o X.env := by rfl) (h3 : (apos.endLine == cpos.line) = true := by rfl) :
    PE X (.Call (.Attribute o "pop" apos) [] [] cpos) (tBM0 K "list" rPop to) := h ▸ pe_bm0 PySem.F.plainAttrs_list PySem.F.slot_list_pop PySem.F.type_list_pop mt_pop ho h1 h3
theorem r_popM {r : V → List V → Hp → VK → Prop} (h : ta σ H fun x H1 => IsL K x H1 (r x [] H1 Q)) : tBM0 K "list" r ta σ H Q := h
theorem r_pop {l : Addr} {xs : List V} (h : H l = some (.lst (xs ++ [y]))) (q : ∀ H1, H1 l = some (.lst xs) → Keep [l] H H1 → Q y H1) : rPop (.ref l) [] H Q :=
  ⟨l, xs ++ [y], y, rfl, rfl, h, by simp, by rw [List.dropLast_concat]; exact q _ upd_same (Keep.put (List.mem_singleton.mpr rfl))⟩
noncomputable def TruL (K : PySem.W.Frag) (x : V) (H : Hp) (R : Bool → Prop) : Prop := ∃ k, TruV K x H k ∧ R k
theorem ptTru {X : Cx} {a : Expr} {ta : TE} (ha : PE X a ta) (h : X.K = K := by rfl) (he : ∀ whole, isTrue a X.env whole = (do let v ← whole; standAt a.pos; holding [v] (truthy v)) := by exact fun _ => rfl) :
    PT X a (fun σ H Q => ta σ H fun x H' => ∃ k, TruV K x H' k ∧ Q k H') := h ▸ pt_truth ha he
noncomputable def tTru (K : PySem.W.Frag) (ta : TE) : TT := fun σ H QT => ta σ H fun x H' => TruL K x H' fun k => QT k H'
theorem ptTruL {X : Cx} {a : Expr} {ta : TE} (ha : PE X a ta) (h : X.K = K := by rfl) (he : ∀ whole, isTrue a X.env whole = (do let v ← whole; standAt a.pos; holding [v] (truthy v)) := by exact fun _ => rfl) :
    PT X a (tTru K ta) := ptTru ha h he
theorem r_tru (h : ta σ H fun x H' => TruL K x H' fun k => QT k H') : tTru K ta σ H QT := h
theorem r_truL {a : Addr} {xs : List V} {R : Bool → Prop} (h : SqL K H a xs) (q : R (!xs.isEmpty)) : TruL K (.ref a) H R := ⟨_, .inl ⟨xs, h, rfl⟩, q⟩
end
end Hw
namespace Hw
open PySem PySem.Spec PyProof.Rows L2
theorem putF_nil {f : Str} {v : V} : putF f v [] = [(f, v)] := rfl
theorem putF_skip {f g : Str} {v x : V} {r : List (Str × V)} (h : ¬ g = f) : putF f v ((g, x) :: r) = (g, x) :: putF f v r := by
  show (if g = f then (g, v) :: r else (g, x) :: putF f v r) = _
  rw [if_neg h]
theorem lk_hit {f : Str} {v : V} {r : List (Str × V)} : ((f, v) :: r).lookup f = some v := by
  unfold List.lookup
  rw [show (f == f) = true from beq_self_eq_true f]
theorem lk_skip {f g : Str} {x : V} {r : List (Str × V)} (h : ¬ g = f) : ((f, x) :: r).lookup g = r.lookup g := by
  show (match g == f with | true => some x | false => r.lookup g) = _
  rw [show (g == f) = false from beq_eq_false_iff_ne.mpr h]
/-- a cell, a frame, a want, a run -/
noncomputable def cellF (n : Int) (l : Addr) : List (Str × V) := [("number", .int n), ("loans", .ref l)]
noncomputable def frameF (o h r : Addr) : List (Str × V) := [("owns", .ref o), ("handed", .ref h), ("roads", .ref r)]
noncomputable def wantF (t f : V) : List (Str × V) := [("thing", t), ("frame", f)]
noncomputable def runF (vp vw : V) (c s : Addr) (m : Int) (x : Bool) : List (Str × V) := [("program", vp), ("ways", vw), ("commons", .ref c), ("said", .ref s), ("lent", .int m), ("mixed", .bl x)]
section
variable {n m : Int} {l o h r c s : Addr} {t f vp vw : V} {x : Bool}
theorem cell_number : (cellF n l).lookup ("number" : Str) = some (.int n) := lk_hit
theorem cell_loans : (cellF n l).lookup ("loans" : Str) = some (.ref l) := (lk_skip (by decide +kernel)).trans lk_hit
theorem frame_owns : (frameF o h r).lookup ("owns" : Str) = some (.ref o) := lk_hit
theorem frame_handed : (frameF o h r).lookup ("handed" : Str) = some (.ref h) := (lk_skip (by decide +kernel)).trans lk_hit
theorem frame_roads : (frameF o h r).lookup ("roads" : Str) = some (.ref r) := (lk_skip (by decide +kernel)).trans ((lk_skip (by decide +kernel)).trans lk_hit)
theorem want_thing : (wantF t f).lookup ("thing" : Str) = some t := lk_hit
theorem want_frame : (wantF t f).lookup ("frame" : Str) = some f := (lk_skip (by decide +kernel)).trans lk_hit
theorem run_program : (runF vp vw c s m x).lookup ("program" : Str) = some vp := lk_hit
theorem run_ways : (runF vp vw c s m x).lookup ("ways" : Str) = some vw := (lk_skip (by decide +kernel)).trans lk_hit
theorem run_commons : (runF vp vw c s m x).lookup ("commons" : Str) = some (.ref c) := (lk_skip (by decide +kernel)).trans ((lk_skip (by decide +kernel)).trans lk_hit)
theorem run_said : (runF vp vw c s m x).lookup ("said" : Str) = some (.ref s) := (lk_skip (by decide +kernel)).trans ((lk_skip (by decide +kernel)).trans ((lk_skip (by decide +kernel)).trans lk_hit))
theorem run_lent : (runF vp vw c s m x).lookup ("lent" : Str) = some (.int m) := (lk_skip (by decide +kernel)).trans ((lk_skip (by decide +kernel)).trans ((lk_skip (by decide +kernel)).trans ((lk_skip (by decide +kernel)).trans lk_hit)))
theorem run_mixed : (runF vp vw c s m x).lookup ("mixed" : Str) = some (.bl x) := (lk_skip (by decide +kernel)).trans ((lk_skip (by decide +kernel)).trans ((lk_skip (by decide +kernel)).trans ((lk_skip (by decide +kernel)).trans ((lk_skip (by decide +kernel)).trans lk_hit))))
end
end Hw
namespace Hw
open PySem PySem.Spec PyProof.Rows L2
structure Kl where
  C : Addr
  F : Addr
  W : Addr
  R : Addr
structure Rn where
  r : Addr
  lc : Addr
  ls : Addr
  vp : V
  vw : V
noncomputable def flat (cs : List (Addr × Addr)) : List Addr := cs.flatMap fun c => [c.1, c.2]
theorem mem_flat1 {cs : List (Addr × Addr)} {i : Nat} {c : Addr × Addr} (h : cs[i]? = some c) : c.1 ∈ flat cs := List.mem_flatMap.mpr ⟨c, List.mem_of_getElem? h, by simp⟩
theorem mem_flat2 {cs : List (Addr × Addr)} {i : Nat} {c : Addr × Addr} (h : cs[i]? = some c) : c.2 ∈ flat cs := List.mem_flatMap.mpr ⟨c, List.mem_of_getElem? h, by simp⟩
theorem mem_flat {cs : List (Addr × Addr)} {x : Addr} (h : x ∈ flat cs) : ∃ (i : Nat) (c : Addr × Addr), cs[i]? = some c ∧ (x = c.1 ∨ x = c.2) := by
  obtain ⟨c, hc, hx⟩ := List.mem_flatMap.mp h
  obtain ⟨i, hi⟩ := List.mem_iff_getElem?.mp hc
  exact ⟨i, c, hi, by simpa using hx⟩
/-- the addresses of different cells are different -/
theorem flat_ne : ∀ {cs : List (Addr × Addr)} {i j : Nat} {c d : Addr × Addr}, (flat cs).Nodup → cs[i]? = some c → cs[j]? = some d → i ≠ j → c.1 ≠ d.1 ∧ c.2 ≠ d.2 ∧ c.1 ≠ d.2 ∧ c.2 ≠ d.1
  | [], i, j, c, d, _, e, _, _ => by simp at e
  | x :: r, i, j, c, d, nd, e1, e2, n => by
    have nd' : (x.1 :: x.2 :: flat r).Nodup := nd
    obtain ⟨n1, nd2⟩ := List.nodup_cons.mp nd'
    obtain ⟨n2, nd3⟩ := List.nodup_cons.mp nd2
    cases i with
    | zero =>
      cases j with
      | zero => exact absurd rfl n
      | succ j =>
        have e1' : x = c := by simpa using e1
        have e2' : r[j]? = some d := by simpa using e2
        subst e1'
        have m1 := mem_flat1 e2'
        have m2 := mem_flat2 e2'
        exact ⟨fun z => n1 (by rw [z]; exact List.mem_cons_of_mem _ m1), fun z => n2 (by rw [z]; exact m2), fun z => n1 (by rw [z]; exact List.mem_cons_of_mem _ m2), fun z => n2 (by rw [z]; exact m1)⟩
    | succ i =>
      cases j with
      | zero =>
        have e2' : x = d := by simpa using e2
        have e1' : r[i]? = some c := by simpa using e1
        subst e2'
        have m1 := mem_flat1 e1'
        have m2 := mem_flat2 e1'
        exact ⟨fun z => n1 (by rw [← z]; exact List.mem_cons_of_mem _ m1), fun z => n2 (by rw [← z]; exact m2), fun z => n2 (by rw [← z]; exact m1), fun z => n1 (by rw [← z]; exact List.mem_cons_of_mem _ m2)⟩
      | succ j =>
        exact flat_ne nd3 (by simpa using e1) (by simpa using e2) fun z => n (by rw [z])
noncomputable def trk (R : Rn) (cs : List (Addr × Addr)) : List Addr := R.r :: R.ls :: flat cs
/-- the run: its numbers by the cells cs, which are lent as lo tells -/
structure PSt (K : PySem.W.Frag) (H : Hp) (kl : Kl) (R : Rn) (cs : List (Addr × Addr)) (S : LS) (lo : Nat → List Nat) : Prop where
  run : ∃ dx, H R.r = some (.ins kl.R dx (runF R.vp R.vw R.lc R.ls (S.many : Int) S.mixed))
  com : H R.lc = some (.lst ((cs.take 3).map fun c => V.ref c.1))
  sd : H R.ls = some (.lst (nums S.said))
  len : cs.length = S.at_.length
  cell : ∀ (i : Nat) (c : Addr × Addr), cs[i]? = some c → ∃ (dx : Addr) (n : Nat) (L : List Nat), S.at_[i]? = some n ∧ H c.1 = some (.ins kl.C dx (cellF (n : Int) c.2)) ∧ H c.2 = some (.lst (nums L)) ∧ lo i = L.map (· + 1)
  nd : (R.lc :: trk R cs).Nodup
  out : ∀ i, cs.length ≤ i → lo i = []
/-- as the law's run has it -/
noncomputable abbrev PS (K : PySem.W.Frag) (H : Hp) (kl : Kl) (R : Rn) (cs : List (Addr × Addr)) (S : LS) : Prop := PSt K H kl R cs S (lentOf S.lent)
section
variable {K : PySem.W.Frag} {H H1 : Hp} {kl : Kl} {R : Rn} {cs : List (Addr × Addr)} {S : LS} {lo : Nat → List Nat}
theorem PSt.lcM (g : PSt K H kl R cs S lo) : R.lc ∉ trk R cs := (List.nodup_cons.mp g.nd).1
theorem PSt.nd' (g : PSt K H kl R cs S lo) : (trk R cs).Nodup := (List.nodup_cons.mp g.nd).2
theorem PSt.ndf (g : PSt K H kl R cs S lo) : (flat cs).Nodup := (List.nodup_cons.mp (List.nodup_cons.mp g.nd').2).2
theorem PSt.rs (g : PSt K H kl R cs S lo) : R.r ≠ R.ls := fun z => (List.nodup_cons.mp g.nd').1 (by rw [z]; exact List.mem_cons_self)
theorem PSt.rf (g : PSt K H kl R cs S lo) : R.r ∉ flat cs := fun z => (List.nodup_cons.mp g.nd').1 (List.mem_cons_of_mem _ z)
theorem PSt.sf (g : PSt K H kl R cs S lo) : R.ls ∉ flat cs := (List.nodup_cons.mp (List.nodup_cons.mp g.nd').2).1
theorem PSt.lo_ (g : PSt K H kl R cs S lo) : Lo H (trk R cs) := fun x hx => by
  rcases List.mem_cons.mp hx with rfl | hx
  · obtain ⟨dx, e⟩ := g.run
    exact .inr (.inr ⟨_, _, _, e⟩)
  rcases List.mem_cons.mp hx with rfl | hx
  · exact .inl ⟨_, g.sd⟩
  obtain ⟨i, c, hc, hx⟩ := mem_flat hx
  obtain ⟨dx, n, L, _, h1, h2, _⟩ := g.cell i c hc
  rcases hx with rfl | rfl
  · exact .inr (.inr ⟨_, _, _, h1⟩)
  · exact .inl ⟨_, h2⟩
theorem PSt.al (g : PSt K H kl R cs S lo) : ∀ x ∈ trk R cs, H x ≠ none := fun x hx => by
  rcases g.lo_ x hx with ⟨_, h⟩ | ⟨_, h⟩ | ⟨_, _, _, h⟩ <;> (rw [h]; exact fun z => nomatch z)
theorem PSt.ts (g : PSt K H kl R cs S lo) (k : Keep (trk R cs) H H1) : Tst H H1 := k.ts g.lo_
theorem k0 {M : List Addr} (k : Keep [] H H1) : Keep M H H1 := k.mono fun _ z => nomatch z
theorem PSt.keep0 (g : PSt K H kl R cs S lo) (k : Keep [] H H1) : PSt K H1 kl R cs S lo := by
  refine ⟨?_, k _ _ g.com (by simp), k _ _ g.sd (by simp), g.len, fun i c hc => ?_, g.nd, g.out⟩
  · obtain ⟨dx, e⟩ := g.run
    exact ⟨dx, k _ _ e (by simp)⟩
  · obtain ⟨dx, n, L, h1, h2, h3, h4⟩ := g.cell i c hc
    exact ⟨dx, n, L, h1, k _ _ h2 (by simp), k _ _ h3 (by simp), h4⟩
theorem PSt.all (g : PSt K H kl R cs S lo) : ∀ x ∈ R.lc :: trk R cs, H x ≠ none := fun x hx => by
  rcases List.mem_cons.mp hx with rfl | hx
  · rw [g.com]; exact fun z => nomatch z
  · exact g.al x hx
/-- the run's own fields were changed -/
theorem PSt.fields {dx : Addr} {m : Nat} {b : Bool} (g : PSt K H kl R cs S lo) (k : Keep [R.r] H H1) (h : H1 R.r = some (.ins kl.R dx (runF R.vp R.vw R.lc R.ls (m : Int) b))) : PSt K H1 kl R cs { S with many := m, mixed := b } lo := by
  have nr : ∀ x, x ∈ flat cs → x ∉ [R.r] := fun x hx z => by
    cases List.mem_singleton.mp z
    exact g.rf hx
  refine ⟨⟨dx, h⟩, k _ _ g.com fun z => ?_, k _ _ g.sd fun z => ?_, g.len, fun i c hc => ?_, g.nd, g.out⟩
  · have := List.mem_singleton.mp z
    exact g.lcM (by rw [this]; exact List.mem_cons_self)
  · exact g.rs (List.mem_singleton.mp z).symm
  · obtain ⟨dx, n, L, h1, h2, h3, h4⟩ := g.cell i c hc
    exact ⟨dx, n, L, h1, k _ _ h2 (nr _ (mem_flat1 hc)), k _ _ h3 (nr _ (mem_flat2 hc)), h4⟩
/-- what was said -/
theorem PSt.say {l : List Nat} (g : PSt K H kl R cs S lo) (k : Keep [R.ls] H H1) (h : H1 R.ls = some (.lst (nums l))) : PSt K H1 kl R cs { S with said := l } lo := by
  have nr : ∀ x, x ∈ flat cs → x ∉ [R.ls] := fun x hx z => by
    cases List.mem_singleton.mp z
    exact g.sf hx
  obtain ⟨dx, e⟩ := g.run
  refine ⟨⟨dx, k _ _ e fun z => g.rs (List.mem_singleton.mp z)⟩, k _ _ g.com fun z => ?_, h, g.len, fun i c hc => ?_, g.nd, g.out⟩
  · have := List.mem_singleton.mp z
    exact g.lcM (by rw [this]; exact List.mem_cons_of_mem _ List.mem_cons_self)
  · obtain ⟨dx, n, L, h1, h2, h3, h4⟩ := g.cell i c hc
    exact ⟨dx, n, L, h1, k _ _ h2 (nr _ (mem_flat1 hc)), k _ _ h3 (nr _ (mem_flat2 hc)), h4⟩
/-- a cell has another number -/
theorem PSt.put {p v : Nat} {c : Addr × Addr} {dx : Addr} (g : PSt K H kl R cs S lo) (hc : cs[p]? = some c) (k : Keep [c.1] H H1) (h : H1 c.1 = some (.ins kl.C dx (cellF (v : Int) c.2))) : PSt K H1 kl R cs { S with at_ := S.at_.set p v } lo := by
  have m := mem_flat1 hc
  obtain ⟨dr, e⟩ := g.run
  have pl : p < S.at_.length := by
    rw [← g.len]
    exact (List.getElem?_eq_some_iff.mp hc).1
  have ne : ∀ x, x ≠ c.1 → x ∉ [c.1] := fun x hx z => hx (List.mem_singleton.mp z)
  refine ⟨⟨dr, k _ _ e (ne _ fun z => g.rf (z ▸ m))⟩, k _ _ g.com (ne _ fun z => g.lcM (by rw [z]; exact List.mem_cons_of_mem _ (List.mem_cons_of_mem _ m))), k _ _ g.sd (ne _ fun z => g.sf (z ▸ m)), by rw [g.len]; exact (List.length_set ..).symm, fun i d hd => ?_, g.nd, g.out⟩
  obtain ⟨dx', n, L, h1, h2, h3, h4⟩ := g.cell i d hd
  by_cases ci : i = p
  · subst ci
    rw [hc] at hd
    cases hd
    refine ⟨dx, v, L, ?_, h, k _ _ h3 (ne _ fun z => ?_), h4⟩
    · show (S.at_.set i v)[i]? = some v
      rw [List.getElem?_set, if_pos rfl, if_pos pl]
    · have : c.1 ≠ c.2 := fun z => by rw [z, h3] at h2; cases h2
      exact this z.symm
  · obtain ⟨n1, n2, n3, n4⟩ := flat_ne g.ndf hd hc ci
    refine ⟨dx', n, L, ?_, k _ _ h2 (ne _ n1), k _ _ h3 (ne _ n4), h4⟩
    show (S.at_.set p v)[i]? = some n
    rw [List.getElem?_set, if_neg (Ne.symm ci)]
    exact h1
end
section
variable (K : PySem.W.Frag) (H : Hp) (kl : Kl) (M : List Addr) (cs : List (Addr × Addr))
mutual
noncomputable def PFr : Fr → V → Prop
  | .mk os hs => fun v => ∃ (a dx o h d : Addr) (zs xs ys : List V), v = .ref a ∧ H a = some (.ins kl.F dx (frameF o h d)) ∧ a ∉ M ∧ H o = some (.lst zs) ∧ o ∉ M ∧ (∀ (k p : Nat), os[k]? = some p → ∃ c, cs[p]? = some c ∧ zs[k]? = some (.ref c.1)) ∧
    H h = some (.lst xs) ∧ h ∉ M ∧ H d = some (.lst ys) ∧ d ∉ M ∧ PHds hs xs ys
noncomputable def PHd : Hd → V → V → Prop
  | .road p ws => fun x y => ∃ (c : Addr × Addr) (t : Addr) (L : List Nat), cs[p]? = some c ∧ x = .ref c.1 ∧ y = .ref t ∧ SqT K H t (nums L) ∧ ws = L.map (· + 1)
  | .want t f => fun x _ => ∃ (a dx : Addr) (vt vf : V), x = .ref a ∧ H a = some (.ins kl.W dx (wantF vt vf)) ∧ a ∉ M ∧ Rp K H vt t.enc ∧ PFr f vf
noncomputable def PHds : Hds → List V → List V → Prop
  | .nil => fun xs ys => xs = [] ∧ ys = []
  | .cons h r => fun xs ys => ∃ x xr y yr, xs = x :: xr ∧ ys = y :: yr ∧ PHd h x y ∧ PHds r xr yr
end
end
section
variable {K : PySem.W.Frag} {H H1 : Hp} {kl : Kl} {M M' : List Addr} {cs cs' : List (Addr × Addr)}
/-- what stands and isn't tracked stays so -/
theorem stays {a : Addr} {o : HO} (k : Keep M H H1) (n : ∀ x ∈ M', x ∈ M ∨ H x = none) (h : H a = some o) (m : a ∉ M) : H1 a = some o ∧ a ∉ M' := ⟨k _ _ h m, fun z => by
  rcases n a z with q | q
  · exact m q
  · rw [q] at h; cases h⟩
mutual
theorem PFr.go (k : Keep M H H1) (t : Tst H H1) (n : ∀ x ∈ M', x ∈ M ∨ H x = none) (e : ∀ (p : Nat) c, cs[p]? = some c → cs'[p]? = some c) : ∀ {f : Fr} {v : V}, PFr K H kl M cs f v → PFr K H1 kl M' cs' f v
  | .mk os hs, v, g => by
    unfold PFr at g ⊢
    obtain ⟨a, dx, o, h, d, zs, xs, ys, rfl, h1, m1, h2, m2, h3, h4, m4, h5, m5, h6⟩ := g
    obtain ⟨q1, r1⟩ := stays k n h1 m1
    obtain ⟨q2, r2⟩ := stays k n h2 m2
    obtain ⟨q4, r4⟩ := stays k n h4 m4
    obtain ⟨q5, r5⟩ := stays k n h5 m5
    exact ⟨a, dx, o, h, d, zs, xs, ys, rfl, q1, r1, q2, r2, fun i p hp => by
      obtain ⟨c, e1, e2⟩ := h3 i p hp
      exact ⟨c, e _ _ e1, e2⟩, q4, r4, q5, r5, PHds.go k t n e h6⟩
theorem PHd.go (k : Keep M H H1) (t : Tst H H1) (n : ∀ x ∈ M', x ∈ M ∨ H x = none) (e : ∀ (p : Nat) c, cs[p]? = some c → cs'[p]? = some c) : ∀ {d : Hd} {x y : V}, PHd K H kl M cs d x y → PHd K H1 kl M' cs' d x y
  | .road p ws, x, y, g => by
    unfold PHd at g ⊢
    obtain ⟨c, tp, L, h1, rfl, rfl, h2, h3⟩ := g
    exact ⟨c, tp, L, e _ _ h1, rfl, rfl, t.sqT h2, h3⟩
  | .want u f, x, y, g => by
    unfold PHd at g ⊢
    obtain ⟨a, dx, vt, vf, rfl, h1, m1, h2, h3⟩ := g
    obtain ⟨q1, r1⟩ := stays k n h1 m1
    exact ⟨a, dx, vt, vf, rfl, q1, r1, h2.ts t, PFr.go k t n e h3⟩
theorem PHds.go (k : Keep M H H1) (t : Tst H H1) (n : ∀ x ∈ M', x ∈ M ∨ H x = none) (e : ∀ (p : Nat) c, cs[p]? = some c → cs'[p]? = some c) : ∀ {hs : Hds} {xs ys : List V}, PHds K H kl M cs hs xs ys → PHds K H1 kl M' cs' hs xs ys
  | .nil, xs, ys, g => by
    unfold PHds at g ⊢
    exact g
  | .cons d r, xs, ys, g => by
    unfold PHds at g ⊢
    obtain ⟨x, xr, y, yr, rfl, rfl, h1, h2⟩ := g
    exact ⟨x, xr, y, yr, rfl, rfl, PHd.go k t n e h1, PHds.go k t n e h2⟩
end
theorem PFr.keep {f : Fr} {v : V} (k : Keep M H H1) (t : Tst H H1) (g : PFr K H kl M cs f v) : PFr K H1 kl M cs f v := g.go k t (fun _ h => .inl h) fun _ _ h => h
theorem PFr.keep0 {f : Fr} {v : V} (k : Keep [] H H1) (g : PFr K H kl M cs f v) : PFr K H1 kl M cs f v := g.keep (k0 k) (k.ts fun _ z => nomatch z)
theorem PHds.get : ∀ {hs : Hds} {xs ys : List V} {i : Nat} {d : Hd}, PHds K H kl M cs hs xs ys → hs.get i = some d → ∃ x y, xs[i]? = some x ∧ ys[i]? = some y ∧ PHd K H kl M cs d x y
  | .nil, _, _, _, _, _, e => by unfold Hds.get at e; cases e
  | .cons d r, xs, ys, 0, d', h, e => by
    unfold PHds at h
    obtain ⟨x, xr, y, yr, rfl, rfl, h1, h2⟩ := h
    unfold Hds.get at e
    cases e
    exact ⟨x, y, rfl, rfl, h1⟩
  | .cons d r, xs, ys, i + 1, d', h, e => by
    unfold PHds at h
    obtain ⟨x, xr, y, yr, rfl, rfl, h1, h2⟩ := h
    unfold Hds.get at e
    obtain ⟨u, v, e1, e2, e3⟩ := PHds.get h2 e
    exact ⟨u, v, by simpa using e1, by simpa using e2, e3⟩
/-- handed one by one -/
theorem PHds.of {hs : List (Hd × Option Nat)} : ∀ {xs ys : List V}, xs.length = hs.length → ys.length = hs.length → (∀ (i : Nat) h b, hs[i]? = some (h, b) → ∃ x y, xs[i]? = some x ∧ ys[i]? = some y ∧ PHd K H kl M cs h x y) → PHds K H kl M cs (Hds.of hs) xs ys := by
  induction hs with
  | nil =>
    intro xs ys e1 e2 _
    unfold Hds.of PHds
    exact ⟨List.length_eq_zero_iff.mp e1, List.length_eq_zero_iff.mp e2⟩
  | cons hb r ih =>
    intro xs ys e1 e2 g
    obtain ⟨h, b⟩ := hb
    obtain ⟨x, y, ex, ey, q⟩ := g 0 h b rfl
    cases xs with
    | nil => cases ex
    | cons x' xr =>
      cases ys with
      | nil => cases ey
      | cons y' yr =>
        cases (show x' = x by simpa using ex)
        cases (show y' = y by simpa using ey)
        unfold Hds.of PHds
        refine ⟨_, xr, _, yr, rfl, rfl, q, ih (by simpa using e1) (by simpa using e2) fun i h b e => ?_⟩
        obtain ⟨x, y, ex, ey, q⟩ := g (i + 1) h b (by simpa using e)
        exact ⟨x, y, by simpa using ex, by simpa using ey, q⟩
end
end Hw
namespace Hw
open PySem PySem.Spec PyProof.Rows L2
/-- what str(n) tells -/
noncomputable def nW (n : Nat) : Str := Str.ofString (toString ((n : Nat) : Int))
noncomputable def Th.words : Th → List Str
  | .num n => [nW n]
  | .own n => ["own", nW n]
  | .par n => ["par", nW n]
  | .cell t => "cell" :: t.words
  | .sum a b => "+" :: (a.words ++ b.words)
noncomputable def wordsOf (ts : List Th) : List Str := (ts.map Th.words).flatten
noncomputable abbrev opn : List Str := ["("]
noncomputable abbrev mid : List Str := [")", "("]
noncomputable abbrev cls : List Str := [")"]
noncomputable abbrev dot : List Str := ["."]
mutual
noncomputable def St.words : St → List Str
  | .set p t => "set" :: (p.words ++ t.words)
  | .say t => "say" :: t.words
  | .ite t a b => "if" :: (t.words ++ (opn ++ a.words ++ mid ++ b.words ++ cls))
  | .call w ts => [("call" : Str), nW w] ++ wordsOf ts ++ dot
noncomputable def Sts.words : Sts → List Str
  | .nil => []
  | .cons s r => s.words ++ r.words
end
noncomputable def Wk.words (w : Wk) : List Str := [nW w.params, nW w.owns] ++ w.body.words
noncomputable def Wk.line (w : Wk) : Str := Txt.join " " w.words
noncomputable def textP (P : List Wk) : Str := Txt.join "\n" (P.map Wk.line)
/-- an item: its kind, what it tells -/
noncomputable abbrev Itm := Str × PyData
noncomputable abbrev iN (n : Nat) : Itm := ("number", .int (n : Int))
noncomputable abbrev iB (d : PyData) : Itm := ("body", d)
noncomputable abbrev iS (d : PyData) : Itm := ("step", d)
noncomputable abbrev iT (d : PyData) : Itm := ("thing", d)
noncomputable abbrev iE (w : Str) : Itm := (w, .none)
noncomputable def isKind (x : Itm) (k : Str) : Bool := decide (x.1 = k) || (decide (x.1 = "number") && decide (k = "thing"))
noncomputable def toldAs (x : Itm) (k : Str) : PyData := if x.1 = "number" ∧ k = "thing" then .tuple [.str "num", x.2] else x.2
/-- the items that lie there, the nearest first -/
noncomputable def takeK : List Str → List Itm → Option (List PyData × List Itm)
  | [], L => some ([], L)
  | _ :: _, [] => none
  | k :: ks, x :: L => if isKind x k = true then (takeK ks L).map fun r => (toldAs x k :: r.1, r.2) else none
noncomputable def takeAll (k : Str) : List Itm → List PyData × List Itm
  | [] => ([], [])
  | x :: L => if isKind x k = true then (toldAs x k :: (takeAll k L).1, (takeAll k L).2) else ([], x :: L)
noncomputable def takesOf (w : Str) : Option (List Str) :=
  if w = "+" then some ["thing", "thing"] else if w = "cell" then some ["thing"] else if w = "own" then some ["number"] else if w = "par" then some ["number"] else if w = "set" then some ["thing", "thing"] else if w = "say" then some ["thing"] else if w = "if" then some ["thing", "body", "body"] else none
noncomputable def figOf (w : Str) : Option Nat := (List.range 100).find? fun n => decide (nW n = w)
noncomputable def isThing (w : Str) : Bool := decide (w ∈ (["+", "cell", "own", "par"] : List Str))
noncomputable def rdW (w : Str) (L : List Itm) : Option (Itm × List Itm) :=
  match figOf w with
  | some n => some (iN n, L)
  | none =>
    if w = ")" ∨ w = "." then some (iE w, L)
    else if w = "(" then (takeK [")"] (takeAll "step" L).2).map fun r => (iB (.tuple (takeAll "step" L).1), r.2)
    else if w = "call" then match takeK ["number"] L with
      | none => none
      | some (ns, L1) => (takeK ["."] (takeAll "thing" L1).2).map fun r => (iS (.tuple [.str "call", ns.headD .none, .tuple (takeAll "thing" L1).1]), r.2)
    else match takesOf w with
      | none => none
      | some ks => (takeK ks L).map fun r => if isThing w = true then (iT (.tuple (.str (if w = "+" then "sum" else w) :: r.1)), r.2) else (iS (.tuple (.str w :: r.1)), r.2)
/-- words, from behind: the words are told in the order in which they are read -/
noncomputable def rdWs : List Str → List Itm → Option (List Itm)
  | [], L => some L
  | w :: ws, L => (rdW w L).bind fun r => rdWs ws (r.1 :: r.2)
theorem rdWs_app : ∀ {a b : List Str} {L : List Itm}, rdWs (a ++ b) L = (rdWs a L).bind (rdWs b)
  | [], b, L => rfl
  | w :: a, b, L => by
    show (rdW w L).bind _ = ((rdW w L).bind _).bind _
    cases rdW w L with
    | none => rfl
    | some r => exact rdWs_app (a := a)
theorem rdWs_one {w : Str} {L : List Itm} : rdWs [w] L = (rdW w L).map fun r => r.1 :: r.2 := by
  show (rdW w L).bind _ = _
  cases rdW w L <;> rfl
theorem nW_inj : ∀ n, n < 100 → ∀ m, m < 100 → nW n = nW m → n = m := by decide +kernel
theorem figOf_nW {n : Nat} (h : n < 100) : figOf (nW n) = some n := by
  unfold figOf
  cases e : (List.range 100).find? (fun m => decide (nW m = nW n)) with
  | none =>
    have := List.find?_eq_none.mp e n (List.mem_range.mpr h)
    simp at this
  | some m =>
    have a := List.find?_some e
    have b := List.mem_range.mp (List.mem_of_find?_eq_some e)
    rw [nW_inj m b n h (of_decide_eq_true a)]
theorem rdW_num {n : Nat} (h : n < 100) {L : List Itm} : rdW (nW n) L = some (iN n, L) := by
  unfold rdW
  rw [figOf_nW h]
/-- the item of a thing -/
noncomputable def Th.itm : Th → Itm
  | .num n => iN n
  | t => iT t.enc
noncomputable def St.itm (s : St) : Itm := iS s.enc
theorem itm_thing {t : Th} : isKind t.itm "thing" = true ∧ toldAs t.itm "thing" = t.enc := by
  cases t with
  | num n => exact ⟨(by decide +kernel : (decide (("number" : Str) = "thing") || (decide (("number" : Str) = "number") && decide (("thing" : Str) = "thing"))) = true), if_pos ⟨rfl, rfl⟩⟩
  | sum a b => exact ⟨(by decide +kernel : (decide (("thing" : Str) = "thing") || (decide (("thing" : Str) = "number") && decide (("thing" : Str) = "thing"))) = true), if_neg (fun z => absurd (show ("thing" : Str) = "number" from z.1) (by decide +kernel))⟩
  | cell a => exact ⟨(by decide +kernel : (decide (("thing" : Str) = "thing") || (decide (("thing" : Str) = "number") && decide (("thing" : Str) = "thing"))) = true), if_neg (fun z => absurd (show ("thing" : Str) = "number" from z.1) (by decide +kernel))⟩
  | own a => exact ⟨(by decide +kernel : (decide (("thing" : Str) = "thing") || (decide (("thing" : Str) = "number") && decide (("thing" : Str) = "thing"))) = true), if_neg (fun z => absurd (show ("thing" : Str) = "number" from z.1) (by decide +kernel))⟩
  | par a => exact ⟨(by decide +kernel : (decide (("thing" : Str) = "thing") || (decide (("thing" : Str) = "number") && decide (("thing" : Str) = "thing"))) = true), if_neg (fun z => absurd (show ("thing" : Str) = "number" from z.1) (by decide +kernel))⟩
theorem kind_self {k : Str} {d : PyData} : isKind (k, d) k = true := by
  unfold isKind
  rw [decide_eq_true rfl]
  rfl
theorem told_self {k : Str} {d : PyData} (h : k ≠ "thing") : toldAs (k, d) k = d := if_neg fun z => h z.2
theorem takeK_one {k : Str} {x : Itm} {L : List Itm} (h : isKind x k = true) {ks : List Str} : takeK (k :: ks) (x :: L) = (takeK ks L).map fun r => (toldAs x k :: r.1, r.2) := by
  show (if isKind x k = true then _ else none) = _
  rw [if_pos h]
theorem rdWs_word {w : Str} {ws : List Str} {L L1 : List Itm} {x : Itm} (e : rdW w L = some (x, L1)) : rdWs (w :: ws) L = rdWs ws (x :: L1) := by
  show (rdW w L).bind _ = _
  rw [e]
  rfl
theorem rd_last {ws : List Str} {w : Str} {L L1 L2 : List Itm} {x : Itm} (h : rdWs ws.reverse L = some L1) (e : rdW w L1 = some (x, L2)) : rdWs (w :: ws).reverse L = some (x :: L2) := by
  rw [List.reverse_cons, rdWs_app, h]
  show rdWs [w] L1 = _
  rw [rdWs_one, e]
  rfl
theorem rd_two {a b : List Str} {L L1 L2 : List Itm} (hb : rdWs b.reverse L = some L1) (ha : rdWs a.reverse L1 = some L2) : rdWs (a ++ b).reverse L = some L2 := by
  rw [List.reverse_append, rdWs_app, hb]
  exact ha
/-- all figures of a thing have at most two signs -/
noncomputable def Th.low : Th → Prop
  | .num n => n < 100
  | .own n => n < 100
  | .par n => n < 100
  | .cell t => t.low
  | .sum a b => a.low ∧ b.low
theorem fig_no {w : Str} (h : (List.range 100).all (fun n => !decide (nW n = w)) = true) : figOf w = none := by
  unfold figOf
  rw [List.find?_eq_none]
  intro n hn
  have := List.all_eq_true.mp h n hn
  simpa using this
theorem rdW_takes {w : Str} {ks : List Str} {L L1 : List Itm} {ds : List PyData} (f : figOf w = none) (n1 : ¬ (w = ")" ∨ w = ".")) (n2 : ¬ w = "(") (n3 : ¬ w = "call") (t : takesOf w = some ks) (e : takeK ks L = some (ds, L1)) :
    rdW w L = some (if isThing w = true then (iT (.tuple (.str (if w = "+" then "sum" else w) :: ds)), L1) else (iS (.tuple (.str w :: ds)), L1)) := by
  unfold rdW
  rw [f]
  show (if _ then _ else _) = _
  rw [if_neg n1, if_neg n2, if_neg n3, t]
  show (takeK ks L).map _ = _
  rw [e]
  rfl
theorem take_thing {t : Th} {L : List Itm} {ks : List Str} : takeK ("thing" :: ks) (t.itm :: L) = (takeK ks L).map fun r => (t.enc :: r.1, r.2) := by
  rw [takeK_one itm_thing.1, itm_thing.2]
theorem take_self {k : Str} {d : PyData} {L : List Itm} {ks : List Str} (h : k ≠ "thing") : takeK (k :: ks) ((k, d) :: L) = (takeK ks L).map fun r => (d :: r.1, r.2) := by
  rw [takeK_one kind_self, told_self h]
theorem rd_th : ∀ {t : Th} {L : List Itm}, t.low → rdWs t.words.reverse L = some (t.itm :: L)
  | .num n, L, h => rdWs_word (rdW_num h)
  | .own n, L, h => rd_last (ws := [nW n]) (rdWs_word (rdW_num h)) (rdW_takes (fig_no (by decide +kernel)) (by decide +kernel) (by decide +kernel) (by decide +kernel) (by decide +kernel : takesOf "own" = some (["number"] : List Str)) (take_self (by decide +kernel)))
  | .par n, L, h => rd_last (ws := [nW n]) (rdWs_word (rdW_num h)) (rdW_takes (fig_no (by decide +kernel)) (by decide +kernel) (by decide +kernel) (by decide +kernel) (by decide +kernel : takesOf "par" = some (["number"] : List Str)) (take_self (by decide +kernel)))
  | .cell t, L, h => rd_last (rd_th (t := t) h) (rdW_takes (fig_no (by decide +kernel)) (by decide +kernel) (by decide +kernel) (by decide +kernel) (by decide +kernel : takesOf "cell" = some (["thing"] : List Str)) take_thing)
  | .sum a b, L, h => rd_last (rd_two (rd_th (t := b) h.2) (rd_th (t := a) h.1)) (rdW_takes (fig_no (by decide +kernel)) (by decide +kernel) (by decide +kernel) (by decide +kernel) (by decide +kernel : takesOf "+" = some (["thing", "thing"] : List Str)) (by rw [take_thing, take_thing]; rfl))
theorem rd_ths : ∀ {ts : List Th} {L : List Itm}, (∀ t ∈ ts, t.low) → rdWs (wordsOf ts).reverse L = some (ts.map Th.itm ++ L)
  | [], L, _ => rfl
  | t :: ts, L, h => rd_two (a := t.words) (b := wordsOf ts) (rd_ths fun u hu => h u (List.mem_cons_of_mem _ hu)) (rd_th (h t List.mem_cons_self))
theorem all_ths {L : List Itm} (stop : ∀ x L', L = x :: L' → isKind x "thing" = false) : ∀ {ts : List Th}, takeAll "thing" (ts.map Th.itm ++ L) = (ts.map Th.enc, L)
  | [] => by
    show takeAll "thing" L = ([], L)
    cases L with
    | nil => rfl
    | cons x L =>
      show (if isKind x "thing" = true then _ else _) = _
      rw [stop x L rfl, if_neg Bool.false_ne_true]
  | t :: ts => by
    show (if isKind t.itm "thing" = true then _ else _) = _
    rw [if_pos itm_thing.1, itm_thing.2]
    show (t.enc :: (takeAll "thing" (ts.map Th.itm ++ L)).1, (takeAll "thing" (ts.map Th.itm ++ L)).2) = _
    rw [all_ths stop]
    rfl
noncomputable def Sts.itms : Sts → List Itm
  | .nil => []
  | .cons s r => s.itm :: r.itms
theorem all_sts {L : List Itm} (stop : ∀ x L', L = x :: L' → isKind x "step" = false) : ∀ {b : Sts}, takeAll "step" (b.itms ++ L) = (b.encs, L)
  | .nil => by
    show takeAll "step" L = ([], L)
    cases L with
    | nil => rfl
    | cons x L =>
      show (if isKind x "step" = true then _ else _) = _
      rw [stop x L rfl, if_neg Bool.false_ne_true]
  | .cons s r => by
    show (if isKind s.itm "step" = true then _ else _) = _
    rw [if_pos (show isKind s.itm "step" = true from kind_self)]
    show (toldAs (iS s.enc) "step" :: (takeAll "step" (r.itms ++ L)).1, (takeAll "step" (r.itms ++ L)).2) = _
    rw [all_sts stop, told_self (by decide +kernel)]
    rfl
mutual
noncomputable def St.low : St → Prop
  | .set p t => p.low ∧ t.low
  | .say t => t.low
  | .ite t a b => t.low ∧ a.low ∧ b.low
  | .call w ts => w < 100 ∧ ∀ t ∈ ts, t.low
noncomputable def Sts.low : Sts → Prop
  | .nil => True
  | .cons s r => s.low ∧ r.low
end
theorem rdW_end {w : Str} {L : List Itm} (f : figOf w = none) (h : w = ")" ∨ w = ".") : rdW w L = some (iE w, L) := by
  unfold rdW
  rw [f]
  show (if _ then _ else _) = _
  rw [if_pos h]
theorem rdW_body {b : Sts} {L : List Itm} : rdW "(" (b.itms ++ iE ")" :: L) = some (iB (.tuple b.encs), L) := by
  unfold rdW
  rw [fig_no (w := "(") (by decide +kernel)]
  show (if _ then _ else _) = _
  rw [if_neg (by decide +kernel), if_pos rfl, all_sts fun x L' e => by cases e; exact (by decide +kernel : (decide ((")" : Str) = "step") || (decide ((")" : Str) = "number") && decide (("step" : Str) = "thing"))) = false)]
  show (takeK [")"] (iE ")" :: L)).map _ = _
  rw [take_self (by decide +kernel)]
  rfl
theorem rdW_call {w : Nat} {ts : List Th} {L : List Itm} : rdW "call" (iN w :: (ts.map Th.itm ++ iE "." :: L)) = some (iS (St.call w ts).enc, L) := by
  unfold rdW
  rw [fig_no (w := "call") (by decide +kernel)]
  show (if _ then _ else _) = _
  rw [if_neg (by decide +kernel), if_neg (by decide +kernel), if_pos rfl, take_self (by decide +kernel)]
  show (takeK ["."] (takeAll "thing" (ts.map Th.itm ++ iE "." :: L)).2).map _ = _
  rw [all_ths fun x L' e => by cases e; exact (by decide +kernel : (decide (("." : Str) = "thing") || (decide (("." : Str) = "number") && decide (("thing" : Str) = "thing"))) = false)]
  show (takeK ["."] (iE "." :: L)).map _ = _
  rw [take_self (by decide +kernel)]
  rfl
mutual
theorem rd_st : ∀ {s : St} {L : List Itm}, s.low → rdWs s.words.reverse L = some (s.itm :: L)
  | .set p t, L, h => by
    unfold St.low at h
    unfold St.words
    exact rd_last (rd_two (rd_th (t := t) h.2) (rd_th (t := p) h.1)) (rdW_takes (fig_no (by decide +kernel)) (by decide +kernel) (by decide +kernel) (by decide +kernel) (by decide +kernel : takesOf "set" = some (["thing", "thing"] : List Str)) (by rw [take_thing, take_thing]; rfl))
  | .say t, L, h => by
    unfold St.low at h
    unfold St.words
    exact rd_last (rd_th (t := t) h) (rdW_takes (fig_no (by decide +kernel)) (by decide +kernel) (by decide +kernel) (by decide +kernel) (by decide +kernel : takesOf "say" = some (["thing"] : List Str)) take_thing)
  | .ite t a b, L, h => by
    unfold St.low at h
    unfold St.words
    have e4 : rdWs cls.reverse L = some (iE ")" :: L) := rdWs_word (rdW_end (fig_no (by decide +kernel)) (.inl rfl))
    have e3 : rdWs (b.words ++ cls).reverse L = some (b.itms ++ iE ")" :: L) := rd_two e4 (rd_sts h.2.2)
    have e2 : rdWs (mid ++ (b.words ++ cls)).reverse L = some (iE ")" :: iB (.tuple b.encs) :: L) := by
      refine rd_two e3 ?_
      show rdWs ["(", ")"] _ = _
      rw [rdWs_word rdW_body, rdWs_word (rdW_end (fig_no (by decide +kernel)) (.inl rfl))]
      rfl
    have e1 : rdWs (opn ++ (a.words ++ (mid ++ (b.words ++ cls)))).reverse L = some (iB (.tuple a.encs) :: iB (.tuple b.encs) :: L) := by
      refine rd_two (rd_two e2 (rd_sts h.2.1)) ?_
      show rdWs ["("] _ = _
      rw [rdWs_word rdW_body]
      rfl
    have e0 : opn ++ a.words ++ mid ++ b.words ++ cls = opn ++ (a.words ++ (mid ++ (b.words ++ cls))) := by simp only [List.append_assoc]
    rw [e0]
    exact rd_last (rd_two e1 (rd_th (t := t) h.1)) (rdW_takes (fig_no (by decide +kernel)) (by decide +kernel) (by decide +kernel) (by decide +kernel) (by decide +kernel : takesOf "if" = some (["thing", "body", "body"] : List Str)) (by rw [take_thing, take_self (by decide +kernel), take_self (by decide +kernel)]; rfl))
  | .call w ts, L, h => by
    unfold St.low at h
    unfold St.words
    have e2 : rdWs dot.reverse L = some (iE "." :: L) := rdWs_word (rdW_end (fig_no (by decide +kernel)) (.inr rfl))
    have e1 : rdWs (nW w :: (wordsOf ts ++ dot)).reverse L = some (iN w :: (ts.map Th.itm ++ iE "." :: L)) := rd_last (rd_two e2 (rd_ths h.2)) (rdW_num h.1)
    exact rd_last (ws := nW w :: (wordsOf ts ++ dot)) e1 rdW_call
theorem rd_sts : ∀ {b : Sts} {L : List Itm}, b.low → rdWs b.words.reverse L = some (b.itms ++ L)
  | .nil, L, _ => by unfold Sts.words; rfl
  | .cons s r, L, h => by
    unfold Sts.low at h
    unfold Sts.words
    exact rd_two (rd_sts h.2) (rd_st h.1)
end
theorem rd_wk {w : Wk} (h1 : w.params < 100) (h2 : w.owns < 100) (h : w.body.low) : rdWs w.words.reverse [] = some (iN w.params :: iN w.owns :: w.body.itms) := by
  unfold Wk.words
  have e1 : rdWs w.body.words.reverse [] = some w.body.itms := by have := rd_sts (L := []) h; rwa [List.append_nil] at this
  exact rd_last (ws := nW w.owns :: w.body.words) (rd_last e1 (rdW_num h2)) (rdW_num h1)
end Hw
namespace Hw
open PySem PySem.Spec PyProof.Rows L2
/-- the tuples at a, b, c as they stand at each turn, the items in new triples -/
noncomputable def ItzT3 (K : PySem.W.Frag) (a b c : Addr) : It :=
  ⟨fun i H => ∃ (xs ys zs : List V) (x y z : V), SqT K H a xs ∧ SqT K H b ys ∧ SqT K H c zs ∧ xs[i]? = some x ∧ ys[i]? = some y ∧ zs[i]? = some z,
    fun i H v H' => ∃ T x y z, v = .ref T ∧ H T = none ∧ H' = upd H T (.tup [x, y, z]) ∧ (∀ xs, SqT K H a xs → xs[i]? = some x) ∧ (∀ ys, SqT K H b ys → ys[i]? = some y) ∧ ∀ zs, SqT K H c zs → zs[i]? = some z,
    fun i H => ∃ xs ys zs : List V, SqT K H a xs ∧ SqT K H b ys ∧ SqT K H c zs ∧ xs.length = i ∧ ys.length = i ∧ zs.length = i⟩
noncomputable def iZipT3 (K : PySem.W.Frag) (ta : TA) : TI := fun σ H R => ta σ H fun vs H1 => ∃ a b c xs ys zs, vs = [.ref a, .ref b, .ref c] ∧ SqT K H1 a xs ∧ SqT K H1 b ys ∧ SqT K H1 c zs ∧ R (ItzT3 K a b c) H1
end Hw
namespace Hw
open PySem PySem.Spec PyProof.Rows L2
section
variable {K : PySem.W.Frag} {σ : L2.St} {H : Hp} {Q : VK} {QT : Bool → Hp → Prop} {ta tb tc te : TE} {t u : TT} {x y z v : V} {D : Ends} {ts tu : TS} {tl : TA}
theorem flat_one {n : Nat} {v : V} : (List.replicate n [v]).flatten = List.replicate n v := by
  induction n with
  | zero => rfl
  | succ n ih => rw [List.replicate_succ, List.flatten_cons, ih]; rfl
/-- a list of one item, repeated -/
theorem r_rep1 {l : Addr} {n : Nat} {v : V} (h : H l = some (.lst [v])) (z : n ≤ 100000) (q : New (.lst (List.replicate n v)) 0 H Q) : rRep (.ref l) (.int (n : Int)) H Q := by
  refine ⟨l, n, [v], rfl, rfl, h, by omega, by omega, by rw [Int.toNat_natCast]; exact small (by show 1 * n ≤ _; omega), fun p hp => ?_⟩
  rw [Int.toNat_natCast, flat_one]
  exact q.2 p hp
noncomputable def RevOf (x : V) (S : Int → Prop) : Prop := ∃ n : Int, x = .int n ∧ (-(2 ^ 62) ≤ (0 : Int) ∧ (0 : Int) < 2 ^ 62 ∧ -(2 ^ 62) ≤ n ∧ n < 2 ^ 62 ∧ S n)
theorem r_revR {R : It → Hp → Prop} (h : ta σ H fun x H1 => RevOf x fun n => R (Itc (0 + (((n - 0).toNat : Nat) : Int) - 1) (-1) (n - 0).toNat) H1) : iRevR (tRg1 ta) σ H R := h
theorem r_revOf {m : Nat} {S : Int → Prop} (h : m ≤ 100000) (q : S m) : RevOf (.int (m : Int)) S := ⟨m, rfl, by omega, by omega, by omega, by omega, q⟩
noncomputable def OverZT3 (K : PySem.W.Frag) (vs : List V) (H : Hp) (R : Addr → Addr → Addr → Prop) : Prop := ∃ a b c xs ys zs, vs = [.ref a, .ref b, .ref c] ∧ SqT K H a xs ∧ SqT K H b ys ∧ SqT K H c zs ∧ R a b c
theorem r_zipT3 {R : It → Hp → Prop} (h : tl σ H fun vs H1 => OverZT3 K vs H1 fun a b c => R (ItzT3 K a b c) H1) : iZipT3 K tl σ H R := h
theorem r_overZT3 {a b c : Addr} {xs ys zs : List V} {R : Addr → Addr → Addr → Prop} (h : SqT K H a xs) (h2 : SqT K H b ys) (h3 : SqT K H c zs) (q : R a b c) : OverZT3 K [.ref a, .ref b, .ref c] H R := ⟨a, b, c, xs, ys, zs, rfl, h, h2, h3, q⟩
end
section
noncomputable def rNeg : V → Hp → VK → Prop := fun x H Q => ∃ i, x = .int i ∧ Q (.int (-i)) H
theorem un_minus {X : Cx} : UnR X (unaryOp .USub) rNeg := un_neg
theorem r_un {r : V → Hp → VK → Prop} {ta : TE} {σ : L2.St} {H : Hp} {Q : VK} (h : ta σ H fun x H1 => r x H1 Q) : tUn r ta σ H Q := h
theorem r_neg {i : Int} {H : Hp} {Q : VK} (q : Q (.int (-i)) H) : rNeg (.int i) H Q := ⟨i, rfl, q⟩
end
end Hw
namespace Hw
open PySem PySem.Spec PyProof.Rows L2
theorem Keep.loseN {M M' : List Addr} {H H1 : Hp} (k : Keep M' H H1) (h : ∀ x ∈ M', x ∈ M ∨ H x = none) : Keep M H H1 := fun a o e n => k a o e fun z => (h a z).elim n fun q => by rw [q] at e; cases e
theorem cutV_tail {x : V} {xs : List V} : cutV (x :: xs) (some 1) none = xs := by
  unfold cutV HT.sIx
  simp
noncomputable def rStrI : List V → Hp → VK → Prop := fun xs H Q => ∃ i, xs = [.int i] ∧ i.natAbs.log2 < 1920 ∧ Q (.str (toString i)) H
theorem cStr {X : Cx} : CallR X (.type "str") rStrI := call_str_int
noncomputable def rLenS : List V → Hp → VK → Prop := fun xs H Q => ∃ z, xs = [.str z] ∧ z.length ≤ sizeLine ∧ Q (.int z.length) H
theorem cLenS {X : Cx} : CallR X (.builtin "len") rLenS := call_len_str
noncomputable def rIntS : List V → Hp → VK → Prop := fun xs H Q => ∃ a n, xs = [.str a] ∧ PySem.intText? a = some n ∧ a.length ≤ 640 ∧ Q (.int n) H
theorem cIntS {X : Cx} : CallR X (.type "int") rIntS := call_int_str
noncomputable def rJoin (K : PySem.W.Frag) : V → List V → Hp → VK → Prop := fun x xs H Q => ∃ a p, ∃ ys : List Str, x = .str a ∧ xs = [.ref p] ∧ (SqL K H p (ys.map V.str) ∨ SqT K H p (ys.map V.str)) ∧ (ys.map (·.length)).sum + ys.length * a.length ≤ 16777216 ∧ Q (.str (Txt.join a ys)) H
noncomputable def rSplit : V → List V → Hp → VK → Prop := fun x xs H Q => ∃ a b, x = .str a ∧ xs = [.str b] ∧ (b.length == 0) = false ∧ a.length + 2 ≤ sizeLine ∧ rNewStrs (Txt.split a b) H Q
noncomputable def IsS (x : V) (R : Prop) : Prop := (∃ a, x = .str a) ∧ R
section
variable {X : Cx} {K : PySem.W.Frag} {o e : Expr} {to te : TE} {apos pos : Pos}
theorem peJoin (ho : PE X o to) (he : PE X e te) (h : X.K = K := by rfl) (hs : starEach [e] X.env = [(false, eval e X.env)] := by rfl) (hb : attributeBase o "join" X.env (eval o X.env) = eval o X.env := by rfl) (hl : (apos.endLine == pos.line) = true := by rfl) : PE X (.Call (.Attribute o "join" apos) [e] [] pos) (tM1 (rJoin K) to te) := h ▸ pe_join ho he hs hb hl
theorem peSplit (ho : PE X o to) (he : PE X e te) (hs : starEach [e] X.env = [(false, eval e X.env)] := by rfl) (hb : attributeBase o "split" X.env (eval o X.env) = eval o X.env := by rfl) (hl : (apos.endLine == pos.line) = true := by rfl) : PE X (.Call (.Attribute o "split" apos) [e] [] pos) (tM1 rSplit to te) := pe_split ho he hs hb hl
theorem cAll (hc : X.calm = true) (h : X.K = K := by rfl) : CallR X (.builtin "all") (rAll K) := h ▸ cr_all hc
theorem piRevL {tg : Expr} {p : Pos} (hg : Gl X "reversed") (hm : X.mg "reversed" = none) (he : PE X e te) (h : X.K = K := by rfl) (hs : starEach [e] X.env = (false, eval e X.env) :: starEach [] X.env := by rfl) : PI X tg (.Call (.Name "reversed" p) [e] [] pos) (RT.iRevA K te) := h ▸ RT.pi_revA hg hm he hs
theorem piEnumL {ta : TA} {p tpos : Pos} {elts : List Expr} {kk : Nat} (hg : Gl X "enumerate") (hm : X.mg "enumerate" = none) (ha : PA X [e] ta) (h : X.K = K := by rfl) (hs : starEach [e] X.env = [(false, eval e X.env)] := by rfl) : PI X (.Tuple elts kk tpos) (.Call (.Name "enumerate" p) [e] [] pos) (iEnum K ta) := h ▸ pi_enum hg hm ha hs
theorem paStar {es : List Expr} {t : TA} {p : Pos} (he : PE X e te) (hr : PA X es t) (h : X.K = K := by rfl) (hs : starEach (.Starred e p :: es) X.env = (true, eval e X.env) :: starEach es X.env := by rfl) : PA X (.Starred e p :: es) (StX.tStar K te t) := h ▸ StX.pa_star he hr hs
/-- a dict that is written, of texts -/
noncomputable def rInKd (K : PySem.W.Frag) (d : Addr) : R2 := fun x y H Q => ∃ (z : Str) (r : Option Value), x = .str z ∧ y = .ref d ∧ PySem.W.nsIn K d z = some r ∧ Q (.bl r.isSome) H
variable {w : World} {d : Addr} {es : Array DictEntry} {n : Nat}
theorem opInKd (D : KDict K w d es n) (h : X.K = K := by rfl) (h2 : X.w = w := by rfl) : OpR X (compareOp .In) (rInKd K d) := by
  subst h h2
  exact op_in_kd D
theorem ixKd (D : KDict K w d es n) (h : X.K = K := by rfl) (h2 : X.w = w := by rfl) : IxR X (rIxD K w) := by
  subst h h2
  exact ix_kdict
end
section
variable {K : PySem.W.Frag} {σ : L2.St} {H : Hp} {Q : VK} {QT : Bool → Hp → Prop} {ta tb tc te to : TE} {t u : TT} {x y z v : V} {D : Ends} {ts tu : TS} {tl : TA}
theorem r_str {n : Nat} (h : n ≤ 1000000) (q : Q (.str (nW n)) H) : rStrI [.int (n : Int)] H Q := by
  refine ⟨(n : Int), rfl, ?_, q⟩
  have : ((n : Int)).natAbs = n := Int.natAbs_natCast n
  rw [this]
  by_cases z : n = 0
  · subst z
    decide
  · exact Nat.lt_of_lt_of_le ((Nat.log2_lt z).mpr (Nat.lt_of_le_of_lt h (by decide : 1000000 < 2 ^ 20))) (by decide)
theorem r_lenS {z : Str} (h : z.length ≤ sizeLine) (q : Q (.int z.length) H) : rLenS [.str z] H Q := ⟨z, rfl, h, q⟩
theorem r_intS {z : Str} {n : Int} (e : PySem.intText? z = some n) (h : z.length ≤ 640) (q : Q (.int n) H) : rIntS [.str z] H Q := ⟨z, n, rfl, e, h, q⟩
theorem r_m1 {r : V → List V → Hp → VK → Prop} (h : to σ H fun x H1 => IsS x (te σ H1 fun y H2 => r x [y] H2 Q)) : tM1 r to te σ H Q := h
theorem r_isS {a : Str} {R : Prop} (h : R) : IsS (.str a) R := ⟨⟨a, rfl⟩, h⟩
theorem r_join {a : Str} {p : Addr} {ys : List Str} (h : SqL K H p (ys.map V.str) ∨ SqT K H p (ys.map V.str)) (z : (ys.map (·.length)).sum + ys.length * a.length ≤ 16777216) (q : Q (.str (Txt.join a ys)) H) : rJoin K (.str a) [.ref p] H Q := ⟨a, p, ys, rfl, rfl, h, z, q⟩
theorem r_split {a b : Str} (h : (b.length == 0) = false) (z : a.length + 2 ≤ sizeLine) (q : ∀ p H1, H p = none → H1 p = some (.lst ((Txt.split a b).map V.str)) → Keep [] H H1 → Q (.ref p) H1) : rSplit (.str a) [.str b] H Q := ⟨a, b, rfl, rfl, h, z, fun p hp => q p _ hp upd_same (Keep.new hp)⟩
theorem r_all {a : Addr} {bs : List Bool} (h : SqL K H a (bs.map V.bl)) (q : Q (.bl (bs.all id)) H) : rAll K [.ref a] H Q := ⟨a, bs, rfl, h, q⟩
theorem r_inS {c : Nat} {z : Str} (q : Q (.bl (decide (c ∈ z.cps.toList))) H) : rInS (.str ⟨#[c]⟩) (.str z) H Q := ⟨c, z, rfl, rfl, q⟩
theorem r_ixS {z : Str} {i : Int} {c : Nat} (h : z.length ≤ sizeLine) (e : atI z.cps.toList i = some c) (q : Q (.str ⟨#[c]⟩) H) : rIxS (.str z) (.int i) H Q := ⟨z, i, c, rfl, rfl, h, e, q⟩
theorem r_inKd {d : Addr} {z : Str} {r : Option Value} (e : PySem.W.nsIn K d z = some r) (q : Q (.bl r.isSome) H) : rInKd K d (.str z) (.ref d) H Q := ⟨z, r, rfl, rfl, e, q⟩
/-- what is walked: a list from its end -/
noncomputable def OverV (K : PySem.W.Frag) (v : V) (H : Hp) (R : It → Hp → Prop) : Prop := ∃ (a : Addr) (xs : List V), v = .ref a ∧ ((SqL K H a xs ∧ R (Itv K a xs.length) H) ∨ (SqT K H a xs ∧ R (RT.ItvT K a xs.length) H))
theorem r_revA {R : It → Hp → Prop} (h : te σ H fun v H1 => OverV K v H1 R) : RT.iRevA K te σ H R := h
theorem r_overV {a : Addr} {xs : List V} {R : It → Hp → Prop} (h : SqL K H a xs) (q : R (Itv K a xs.length) H) : OverV K (.ref a) H R := ⟨a, xs, rfl, .inl ⟨h, q⟩⟩
theorem forV {a : Addr} {xs : List V} {g : TG} (Pv : Nat → L2.St → Hp → Prop) (h0 : Pv 0 σ H) (hG : ∀ i σ H, i ≤ xs.length → Pv i σ H → SqL K H a xs) (hs : ∀ i x σ H, i < xs.length → xs[xs.length - 1 - i]? = some x → Pv i σ H → g x σ H fun σ2 H2 => ts { D with nx := Pv (i + 1), ct := Pv (i + 1), bk := D.nx } σ2 H2)
    (hd : ∀ σ H, Pv xs.length σ H → D.nx σ H) : ForIt (Itv K a xs.length) g ts D σ H :=
  for_it walk_rev Pv h0 hG (fun i x σ H H' hi p y => by
    obtain ⟨rfl, e⟩ := y
    exact hs i x σ H' hi e p) hd
noncomputable def OverEL (K : PySem.W.Frag) (vs : List V) (H : Hp) (R : Addr → Prop) : Prop := ∃ a xs, vs = [.ref a] ∧ SqL K H a xs ∧ R a
theorem r_enumL {R : It → Hp → Prop} (h : tl σ H fun vs H1 => OverEL K vs H1 fun a => R (Ite K a) H1) : iEnum K tl σ H R := h
theorem r_overEL {a : Addr} {xs : List V} {R : Addr → Prop} (h : SqL K H a xs) (q : R a) : OverEL K [.ref a] H R := ⟨a, xs, rfl, h, q⟩
theorem forEL {a : Addr} {xs : List V} {g : TG} (Pv : Nat → L2.St → Hp → Prop) (h0 : Pv 0 σ H) (hG : ∀ i σ H, i ≤ xs.length → Pv i σ H → SqL K H a xs)
    (hs : ∀ i x T σ H H1, xs[i]? = some x → Pv i σ H → H T = none → H1 T = some (.tup [.int (i : Int), x]) → Keep [] H H1 → g (.ref T) σ H1 fun σ2 H2 => ts { D with nx := Pv (i + 1), ct := Pv (i + 1), bk := D.nx } σ2 H2) (hd : ∀ σ H, Pv xs.length σ H → D.nx σ H) : ForIt (Ite K a) g ts D σ H :=
  for_it walk_enum Pv h0 hG (fun i v σ H H' hi p y => by
    obtain ⟨T, x1, x2, rfl, hT, rfl, e1, e2⟩ := y
    cases e1
    exact hs i x2 T σ H _ e2 p hT upd_same (Keep.new hT)) hd
/-- the signs of a text -/
theorem r_iStr {R : It → Hp → Prop} (h : te σ H fun v H1 => ∃ z, v = .str z ∧ R (Its z) H1) : iStr te σ H R := h
theorem lcS {z : Str} {g : TG} {vs : List Nat} (Pv : Addr → Nat → Hp → Prop) (h0 : ∀ E H1, H E = none → H1 E = some (.lst []) → Keep [] H H1 → Pv E 0 H1)
    (hs : ∀ E i c H, z.cps[i]? = some c → Pv E i H → g (.str ⟨#[c]⟩) (wipe σ vs) H fun σ2 H2 => wipe σ2 vs = wipe σ vs ∧ te σ2 H2 fun y H4 => Acc E y H4 (Pv E (i + 1))) (hd : ∀ E H, Pv E z.cps.size H → Q (.ref E) H) : LcIt (Its z) g tYes te vs σ H Q :=
  lcY walk_str Pv h0 (fun _ _ _ _ _ => trivial) (fun E i x H H' hi p y => by
    obtain ⟨rfl, c, e, rfl⟩ := y
    exact hs E i c H' e p) hd
/-- what is spread -/
noncomputable def Spread (K : PySem.W.Frag) (x : V) (H : Hp) (R : List V → Prop) : Prop := ∃ p xs, x = V.ref p ∧ (SqT K H p xs ∨ SqL K H p xs) ∧ R xs
theorem r_star {QL : List V → Hp → Prop} (h : te σ H fun x H1 => Spread K x H1 fun xs => tl σ H1 fun ys H2 => QL (xs ++ ys) H2) : StX.tStar K te tl σ H QL := h
theorem r_spread {p : Addr} {xs : List V} {R : List V → Prop} (h : SqL K H p xs) (q : R xs) : Spread K (.ref p) H R := ⟨p, xs, rfl, .inr h, q⟩
end
end Hw
namespace Hw
open PySem PySem.Spec PyProof.Rows L2 TL
/-- small shapes: few params, few cells, few works -/
structure Sm (sh : List (Nat × Nat)) : Prop where
  one : ∀ j, (sh.getD j (0, 0)).1 ≤ 3
  two : ∀ j, (sh.getD j (0, 0)).2 < 100
  len : sh.length < 100
theorem th_low {p o : Nat} (hp : p ≤ 100) (ho : o ≤ 100) : ∀ {t : Th} {d : Nat}, Th.ok p o d t → t.low
  | .num n, d, h => by cases d <;> exact Nat.lt_of_lt_of_le (show n < 3 from h) (by decide)
  | .own n, d, h => by cases d <;> exact Nat.lt_of_lt_of_le (show n < o from h) ho
  | .par n, d, h => by cases d <;> exact Nat.lt_of_lt_of_le (show n < p from h) hp
  | .cell t, 0, h => h.elim
  | .sum a b, 0, h => h.elim
  | .cell t, d + 1, h => th_low hp ho (t := t) (d := d) h
  | .sum a b, d + 1, h => ⟨th_low hp ho (t := a) (d := d) h.1, th_low hp ho (t := b) (d := d) h.2⟩
noncomputable def wB : Nat → Nat
  | 0 => 2
  | d + 1 => 2 * wB d + 1
theorem wB_two : ∀ d, 2 ≤ wB d
  | 0 => Nat.le_refl _
  | d + 1 => by have := wB_two d; show 2 ≤ 2 * wB d + 1; omega
theorem th_words {p o : Nat} : ∀ {t : Th} {d : Nat}, Th.ok p o d t → t.words.length ≤ wB d
  | .num n, d, h => by have := wB_two d; show 1 ≤ _; omega
  | .own n, d, h => wB_two d
  | .par n, d, h => wB_two d
  | .cell t, 0, h => h.elim
  | .sum a b, 0, h => h.elim
  | .cell t, d + 1, h => by
    have := th_words (t := t) (d := d) h
    show t.words.length + 1 ≤ 2 * wB d + 1
    omega
  | .sum a b, d + 1, h => by
    have := th_words (t := a) (d := d) h.1
    have := th_words (t := b) (d := d) h.2
    show (a.words ++ b.words).length + 1 ≤ 2 * wB d + 1
    rw [List.length_append]
    omega
theorem ths_words {p o : Nat} : ∀ {ts : List Th}, (∀ t ∈ ts, Th.ok p o 4 t) → (wordsOf ts).length ≤ 47 * ts.length
  | [], _ => Nat.le_refl _
  | t :: ts, h => by
    have a := th_words (h t List.mem_cons_self)
    have b := ths_words (ts := ts) fun u hu => h u (List.mem_cons_of_mem _ hu)
    show (t.words ++ wordsOf ts).length ≤ 47 * (ts.length + 1)
    have e : wB 4 = 47 := rfl
    rw [List.length_append]
    omega
mutual
theorem st_words {sh : List (Nat × Nat)} (sm : Sm sh) {i : Nat} : ∀ {s : St} {d : Nat}, St.ok sh i d s → s.words.length ≤ 150 * s.many
  | .set p t, d, h => by
    have h' : Th.ok (sh.getD i (0, 0)).1 (sh.getD i (0, 0)).2 4 p ∧ Th.ok (sh.getD i (0, 0)).1 (sh.getD i (0, 0)).2 4 t := by cases d <;> (unfold St.ok at h; exact h.2)
    have a := th_words h'.1
    have b := th_words h'.2
    have e : wB 4 = 47 := rfl
    unfold St.words St.many
    rw [List.length_cons, List.length_append]
    omega
  | .say t, d, h => by
    have h' : Th.ok (sh.getD i (0, 0)).1 (sh.getD i (0, 0)).2 4 t := by cases d <;> (unfold St.ok at h; exact h)
    have a := th_words h'
    have e : wB 4 = 47 := rfl
    unfold St.words St.many
    rw [List.length_cons]
    omega
  | .ite t a b, 0, h => by unfold St.ok at h; exact h.elim
  | .ite t a b, d + 1, h => by
    unfold St.ok at h
    have x := th_words h.1
    have y := sts_words sm h.2.1
    have z := sts_words sm h.2.2
    have e : wB 4 = 47 := rfl
    unfold St.words St.many
    simp only [List.length_cons, List.length_append, List.length_nil]
    omega
  | .call w ts, d, h => by
    have h' : ts.length = (sh.getD w (0, 0)).1 ∧ ∀ t ∈ ts, Th.ok (sh.getD i (0, 0)).1 (sh.getD i (0, 0)).2 4 t := by cases d <;> (unfold St.ok at h; exact h.2.2)
    have a := ths_words h'.2
    have b := sm.one w
    unfold St.words St.many
    simp only [List.length_cons, List.length_append, List.length_nil]
    omega
theorem sts_words {sh : List (Nat × Nat)} (sm : Sm sh) {i : Nat} : ∀ {b : Sts} {d : Nat}, Sts.ok sh i d b → b.words.length ≤ 150 * b.many
  | .nil, d, h => by unfold Sts.words Sts.many; exact Nat.le_refl _
  | .cons s r, d, h => by
    unfold Sts.ok at h
    have x := st_words sm h.1
    have y := sts_words sm h.2
    unfold Sts.words Sts.many
    rw [List.length_append]
    omega
end
mutual
theorem st_low {sh : List (Nat × Nat)} (sm : Sm sh) {i : Nat} : ∀ {s : St} {d : Nat}, St.ok sh i d s → s.low
  | .set p t, d, h => by
    have h' : Th.ok (sh.getD i (0, 0)).1 (sh.getD i (0, 0)).2 4 p ∧ Th.ok (sh.getD i (0, 0)).1 (sh.getD i (0, 0)).2 4 t := by cases d <;> (unfold St.ok at h; exact h.2)
    have a := sm.one i
    have b := sm.two i
    unfold St.low
    exact ⟨th_low (by omega) (by omega) h'.1, th_low (by omega) (by omega) h'.2⟩
  | .say t, d, h => by
    have h' : Th.ok (sh.getD i (0, 0)).1 (sh.getD i (0, 0)).2 4 t := by cases d <;> (unfold St.ok at h; exact h)
    have a := sm.one i
    have b := sm.two i
    unfold St.low
    exact th_low (by omega) (by omega) h'
  | .ite t a b, 0, h => by unfold St.ok at h; exact h.elim
  | .ite t a b, d + 1, h => by
    unfold St.ok at h
    have x := sm.one i
    have y := sm.two i
    unfold St.low
    exact ⟨th_low (by omega) (by omega) h.1, sts_low sm h.2.1, sts_low sm h.2.2⟩
  | .call w ts, d, h => by
    have h' : w < sh.length ∧ ts.length = (sh.getD w (0, 0)).1 ∧ ∀ t ∈ ts, Th.ok (sh.getD i (0, 0)).1 (sh.getD i (0, 0)).2 4 t := by cases d <;> (unfold St.ok at h; exact h.2)
    have x := sm.one i
    have y := sm.two i
    have z := sm.len
    unfold St.low
    exact ⟨by omega, fun t ht => th_low (by omega) (by omega) (h'.2.2 t ht)⟩
theorem sts_low {sh : List (Nat × Nat)} (sm : Sm sh) {i : Nat} : ∀ {b : Sts} {d : Nat}, Sts.ok sh i d b → b.low
  | .nil, d, h => by unfold Sts.low; trivial
  | .cons s r, d, h => by
    unfold Sts.ok at h
    unfold Sts.low
    exact ⟨st_low sm h.1, sts_low sm h.2⟩
end
/-- short, without blanks and ends of lines -/
noncomputable def Neat (w : Str) : Prop := w.length ≤ 4 ∧ ¬ 32 ∈ tl w ∧ ¬ 10 ∈ tl w
instance {w : Str} : Decidable (Neat w) := by unfold Neat; infer_instance
theorem neat_nW : ∀ n, n < 100 → Neat (nW n) := by decide +kernel
theorem th_neat : ∀ {t : Th}, t.low → ∀ w ∈ t.words, Neat w
  | .num n, h, w, hw => by cases List.mem_singleton.mp hw; exact neat_nW n h
  | .own n, h, w, hw => by
    rcases List.mem_cons.mp hw with rfl | hw
    · decide +kernel
    · cases List.mem_singleton.mp hw; exact neat_nW n h
  | .par n, h, w, hw => by
    rcases List.mem_cons.mp hw with rfl | hw
    · decide +kernel
    · cases List.mem_singleton.mp hw; exact neat_nW n h
  | .cell t, h, w, hw => by
    rcases List.mem_cons.mp hw with rfl | hw
    · decide +kernel
    · exact th_neat (t := t) h w hw
  | .sum a b, h, w, hw => by
    rcases List.mem_cons.mp hw with rfl | hw
    · decide +kernel
    · rcases List.mem_append.mp hw with hw | hw
      · exact th_neat (t := a) h.1 w hw
      · exact th_neat (t := b) h.2 w hw
theorem ths_neat : ∀ {ts : List Th}, (∀ t ∈ ts, t.low) → ∀ w ∈ wordsOf ts, Neat w
  | [], _, w, hw => by cases hw
  | t :: ts, h, w, hw => by
    rcases List.mem_append.mp (show w ∈ t.words ++ wordsOf ts from hw) with hw | hw
    · exact th_neat (h t List.mem_cons_self) w hw
    · exact ths_neat (ts := ts) (fun u hu => h u (List.mem_cons_of_mem _ hu)) w hw
theorem neat_opn : ∀ w ∈ opn, Neat w := by decide +kernel
theorem neat_mid : ∀ w ∈ mid, Neat w := by decide +kernel
theorem neat_cls : ∀ w ∈ cls, Neat w := by decide +kernel
mutual
theorem st_neat : ∀ {s : St}, s.low → ∀ w ∈ s.words, Neat w
  | .set p t, h, w, hw => by
    unfold St.low at h
    unfold St.words at hw
    rcases List.mem_cons.mp hw with rfl | hw
    · decide +kernel
    · rcases List.mem_append.mp hw with hw | hw
      · exact th_neat h.1 w hw
      · exact th_neat h.2 w hw
  | .say t, h, w, hw => by
    unfold St.low at h
    unfold St.words at hw
    rcases List.mem_cons.mp hw with rfl | hw
    · decide +kernel
    · exact th_neat h w hw
  | .ite t a b, h, w, hw => by
    unfold St.low at h
    unfold St.words at hw
    rcases List.mem_cons.mp hw with rfl | hw
    · decide +kernel
    · simp only [List.mem_append] at hw
      rcases hw with hw | ((((hw | hw) | hw) | hw) | hw)
      · exact th_neat h.1 w hw
      · exact neat_opn w hw
      · exact sts_neat h.2.1 w hw
      · exact neat_mid w hw
      · exact sts_neat h.2.2 w hw
      · exact neat_cls w hw
  | .call k ts, h, w, hw => by
    unfold St.low at h
    unfold St.words at hw
    simp only [List.mem_append, List.mem_cons, List.not_mem_nil, or_false] at hw
    rcases hw with ((rfl | rfl) | hw) | rfl
    · decide +kernel
    · exact neat_nW k h.1
    · exact ths_neat h.2 w hw
    · decide +kernel
theorem sts_neat : ∀ {b : Sts}, b.low → ∀ w ∈ b.words, Neat w
  | .nil, h, w, hw => by unfold Sts.words at hw; cases hw
  | .cons s r, h, w, hw => by
    unfold Sts.low at h
    unfold Sts.words at hw
    rcases List.mem_append.mp hw with hw | hw
    · exact st_neat h.1 w hw
    · exact sts_neat h.2 w hw
end
theorem sum_le {ys : List Str} {k : Nat} (h : ∀ w ∈ ys, w.length ≤ k) : (ys.map (·.length)).sum ≤ k * ys.length := by
  induction ys with
  | nil => exact Nat.zero_le _
  | cons y ys ih =>
    have a := ih fun w hw => h w (List.mem_cons_of_mem _ hw)
    have b := h y List.mem_cons_self
    rw [List.map_cons, List.sum_cons, List.length_cons, Nat.mul_succ]
    omega
theorem mem_joinL {y : List Nat} {c : Nat} : ∀ {ys : List (List Nat)}, c ∈ joinL y ys → c ∈ y ∨ ∃ p ∈ ys, c ∈ p
  | [], h => by cases h
  | [p], h => .inr ⟨p, List.mem_singleton.mpr rfl, h⟩
  | p :: q :: r, h => by
    rcases List.mem_append.mp (show c ∈ p ++ (y ++ joinL y (q :: r)) from h) with h | h
    · exact .inr ⟨p, List.mem_cons_self, h⟩
    · rcases List.mem_append.mp h with h | h
      · exact .inl h
      · rcases mem_joinL (ys := q :: r) h with h | ⟨p', hp, h⟩
        · exact .inl h
        · exact .inr ⟨p', List.mem_cons_of_mem _ hp, h⟩
theorem len_joinL {y : List Nat} : ∀ {ys : List (List Nat)}, (joinL y ys).length ≤ (ys.map List.length).sum + ys.length * y.length
  | [] => Nat.zero_le _
  | [p] => by show p.length ≤ p.length + 0 + 1 * y.length; omega
  | p :: q :: r => by
    have ih := len_joinL (y := y) (ys := q :: r)
    show (p ++ (y ++ joinL y (q :: r))).length ≤ _
    rw [List.length_append, List.length_append, List.map_cons, List.sum_cons, List.length_cons (as := q :: r), Nat.succ_mul]
    omega
theorem tl_len {x : Str} : (tl x).length = x.length := Array.length_toList
theorem join_len {y : Str} {ys : List Str} : (Txt.join y ys).length ≤ (ys.map (·.length)).sum + ys.length * y.length := by
  have h := len_joinL (y := tl y) (ys := ys.map tl)
  rw [join_eq, ← tl_len, tl_join]
  rw [List.map_map, List.length_map, tl_len] at h
  have e : (ys.map (List.length ∘ tl)) = ys.map (·.length) := List.map_congr_left fun x _ => tl_len
  rw [e] at h
  exact h
theorem wk_words {w : Wk} {sh : List (Nat × Nat)} {i : Nat} (sm : Sm sh) (h : Sts.ok sh i 2 w.body) (m : w.body.many ≤ 100) : w.words.length ≤ 15002 := by
  have := sts_words sm h
  unfold Wk.words
  rw [List.length_append]
  show 2 + w.body.words.length ≤ _
  omega
theorem wk_neat {w : Wk} (h1 : w.params < 100) (h2 : w.owns < 100) (h : w.body.low) : ∀ x ∈ w.words, Neat x := by
  intro x hx
  unfold Wk.words at hx
  simp only [List.mem_append, List.mem_cons, List.not_mem_nil, or_false] at hx
  rcases hx with (rfl | rfl) | hx
  · exact neat_nW _ h1
  · exact neat_nW _ h2
  · exact sts_neat h x hx
theorem line_split {w : Wk} (h : ∀ x ∈ w.words, Neat x) : Txt.split w.line " " = w.words :=
  split_join (s := 32) (S := []) (by decide +kernel) (by decide +kernel) (fun z => by unfold Wk.words at z; cases z) fun x hx => (h x hx).2.1
theorem line_no {w : Wk} (h : ∀ x ∈ w.words, Neat x) : ¬ 10 ∈ tl w.line := by
  unfold Wk.line
  rw [join_eq, tl_join]
  intro z
  rcases mem_joinL z with z | ⟨p, hp, z⟩
  · exact absurd z (by decide +kernel)
  · obtain ⟨x, hx, rfl⟩ := List.mem_map.mp hp
    exact (h x hx).2.2 z
theorem line_len {w : Wk} (h : ∀ x ∈ w.words, Neat x) (l : w.words.length ≤ 15002) : (w.words.map (·.length)).sum + w.words.length * 1 ≤ 80000 ∧ w.line.length ≤ 80000 := by
  have a := sum_le (k := 4) fun x hx => (h x hx).1
  have b : w.line.length ≤ (w.words.map (·.length)).sum + w.words.length * 1 := join_len
  exact ⟨by omega, by omega⟩
theorem text_split {P : List Wk} (n : P ≠ []) (h : ∀ w ∈ P, ∀ x ∈ w.words, Neat x) : Txt.split (textP P) "\n" = P.map Wk.line :=
  split_join (s := 10) (S := []) (by decide +kernel) (by decide +kernel) (fun z => n (List.map_eq_nil_iff.mp z)) fun x hx => by
    obtain ⟨w, hw, rfl⟩ := List.mem_map.mp hx
    exact line_no (h w hw)
end Hw
namespace Hw
open PySem PySem.Spec PyProof.Rows L2
noncomputable def FIGS : Str := "0123456789"
/-- the looks at a word, as they are made -/
noncomputable def figA (w : Str) : Bool := decide (1 ≤ w.length) && decide (w.length ≤ 2)
noncomputable def figZ (w : Str) : Bool := decide (1 < w.length) && decide (w.cps.toList.head? = some 48)
noncomputable def figS (w : Str) : Bool := w.cps.toList.all fun c => decide (c ∈ FIGS.cps.toList)
theorem nW_figs : ∀ n, n < 100 → figA (nW n) = true ∧ figZ (nW n) = false ∧ figS (nW n) = true ∧ PySem.intText? (nW n) = some (n : Int) := by decide +kernel
theorem fig_one : ∀ c, c < 128 → decide (c ∈ FIGS.cps.toList) = true → c - 48 < 100 ∧ nW (c - 48) = ⟨#[c]⟩ := by decide +kernel
theorem fig_two' : ((List.range 58).all fun c => (List.range 58).all fun d => !(decide (c ∈ FIGS.cps.toList) && decide (d ∈ FIGS.cps.toList) && !decide (c = 48)) || (decide ((c - 48) * 10 + (d - 48) < 100) && decide (nW ((c - 48) * 10 + (d - 48)) = ⟨#[c, d]⟩))) = true := by decide +kernel
theorem fig_two (c : Nat) (hc : c < 58) (d : Nat) (hd : d < 58) (h1 : decide (c ∈ FIGS.cps.toList) = true) (h2 : decide (d ∈ FIGS.cps.toList) = true) (h3 : ¬ c = 48) : (c - 48) * 10 + (d - 48) < 100 ∧ nW ((c - 48) * 10 + (d - 48)) = ⟨#[c, d]⟩ := by
  have := List.all_eq_true.mp (List.all_eq_true.mp fig_two' c (List.mem_range.mpr hc)) d (List.mem_range.mpr hd)
  rw [h1, h2, decide_eq_false h3] at this
  have t : (decide ((c - 48) * 10 + (d - 48) < 100) && decide (nW ((c - 48) * 10 + (d - 48)) = ⟨#[c, d]⟩)) = true := this
  rw [Bool.and_eq_true, decide_eq_true_eq, decide_eq_true_eq] at t
  exact t
theorem figs_small : ∀ c ∈ FIGS.cps.toList, c < 58 := by decide +kernel
theorem figOf_mem {w : Str} {n : Nat} (h : figOf w = some n) : n < 100 ∧ nW n = w := by
  unfold figOf at h
  have a := List.find?_some h
  exact ⟨List.mem_range.mp (List.mem_of_find?_eq_some h), of_decide_eq_true a⟩
theorem fig_is {w : Str} : (figA w && !figZ w && figS w) = (figOf w).isSome := by
  cases e : figOf w with
  | some n =>
    obtain ⟨h, rfl⟩ := figOf_mem e
    obtain ⟨a, b, c, _⟩ := nW_figs n h
    rw [a, b, c]
    rfl
  | none =>
    rw [Option.isSome_none, Bool.eq_false_iff]
    intro z
    rw [Bool.and_eq_true, Bool.and_eq_true] at z
    obtain ⟨⟨z1, z2⟩, z3⟩ := z
    unfold figA at z1
    rw [Bool.and_eq_true, decide_eq_true_eq, decide_eq_true_eq] at z1
    have some_ : ∀ n, n < 100 → nW n = w → False := fun n h q => by
      have := figOf_nW h
      rw [q, e] at this
      cases this
    obtain ⟨⟨l⟩⟩ := w
    have all : ∀ c ∈ l, decide (c ∈ FIGS.cps.toList) = true := fun c hc => List.all_eq_true.mp z3 c hc
    match l, z1, z2, all with
    | [c], _, _, all =>
      have hc := all c (List.mem_singleton.mpr rfl)
      obtain ⟨a, b⟩ := fig_one c (Nat.lt_trans (figs_small c (of_decide_eq_true hc)) (by decide)) hc
      exact some_ _ a b
    | [c, d], _, z2, all =>
      have hc := all c List.mem_cons_self
      have hd := all d (List.mem_cons_of_mem _ (List.mem_singleton.mpr rfl))
      have n0 : ¬ c = 48 := fun q => by
        subst q
        have z : figZ ⟨⟨[48, d]⟩⟩ = true := rfl
        rw [z] at z2
        cases z2
      obtain ⟨a, b⟩ := fig_two c (figs_small c (of_decide_eq_true hc)) d (figs_small d (of_decide_eq_true hd)) hc hd n0
      exact some_ _ a b
    | [], z1, _, _ => exact absurd z1.1 (by decide)
    | a :: b :: c :: r, z1, _, _ =>
      have := z1.2
      have e : (⟨⟨a :: b :: c :: r⟩⟩ : Str).length = r.length + 3 := rfl
      omega
theorem fig_int {w : Str} {n : Nat} (h : figOf w = some n) : PySem.intText? w = some (n : Int) := by
  obtain ⟨a, rfl⟩ := figOf_mem h
  exact (nW_figs n a).2.2.2
section
variable {K : PySem.W.Frag} {cI : Addr}
structure ItC (K : PySem.W.Frag) (cI : Addr) : Prop where
  cl : Cls K cI
  kind : NoAttr K cI "kind"
  told : NoAttr K cI "told"
noncomputable def itF (k : Str) (tv : V) : List (Str × V) := [("kind", .str k), ("told", tv)]
theorem it_kind {k : Str} {tv : V} : (itF k tv).lookup ("kind" : Str) = some (.str k) := lk_hit
theorem it_told {k : Str} {tv : V} : (itF k tv).lookup ("told" : Str) = some tv := (lk_skip (by decide +kernel)).trans lk_hit
noncomputable def ItAt (K : PySem.W.Frag) (H : Hp) (cI : Addr) (x : Itm) (v : V) : Prop := ∃ (a dx : Addr) (tv : V), v = .ref a ∧ H a = some (.ins cI dx (itF x.1 tv)) ∧ Rp K H tv x.2
/-- items: the nearest first, in the list the nearest last -/
inductive ItAts (K : PySem.W.Frag) (H : Hp) (cI : Addr) : List Itm → List V → Prop
  | nil : ItAts K H cI [] []
  | cons {x : Itm} {v : V} {L : List Itm} {xs : List V} (h : ItAt K H cI x v) (r : ItAts K H cI L xs) : ItAts K H cI (x :: L) (xs ++ [v])
theorem ItAts.len {H : Hp} : ∀ {L : List Itm} {xs : List V}, ItAts K H cI L xs → xs.length = L.length
  | _, _, .nil => rfl
  | _, _, .cons _ r => by rw [List.length_append, List.length_singleton, List.length_cons, r.len]
theorem last_at {xs : List V} {v : V} : atI (xs ++ [v]) (-1) = some v := by
  have e : L2.ixN (xs ++ [v]).length (-1) = some xs.length := by
    unfold L2.ixN
    rw [List.length_append, List.length_singleton]
    rw [if_neg (by decide), if_pos (by omega)]
    exact congrArg some (by omega)
  unfold atI
  rw [e]
  show (xs ++ [v])[xs.length]? = some v
  rw [List.getElem?_append_right (Nat.le_refl _), Nat.sub_self]
  rfl
end
end Hw
namespace Hw
open PySem PySem.Spec PyProof.Rows L2
mutual
noncomputable def St.lit : St → Prop
  | .set p t => p.lit ∧ t.lit
  | .say t => t.lit
  | .ite t a b => t.lit ∧ a.lit ∧ b.lit
  | .call _ ts => ∀ t ∈ ts, t.lit
noncomputable def Sts.lit : Sts → Prop
  | .nil => True
  | .cons s r => s.lit ∧ r.lit
end
end Hw
namespace Hw
open PySem PySem.Spec PyProof.Rows L2
/-- how a work is made anew: its row of ways, its own cells, where holders begin; whether it holds -/
structure Mk where
  row : List Str
  owns : Nat
  held : Nat
  holds : Bool
noncomputable def Mk.way (m : Mk) (k : Nat) : Str := m.row.getD k ""
noncomputable def isNew (w : Str) : Bool := decide (w = "copy") || decide (w = "back")
noncomputable def kT (m : Mk) : Th → Th
  | .num n => .num n
  | .own k => .own k
  | .sum a b => .sum (kT m a) (kT m b)
  | .cell t => .cell (kT m t)
  | .par k => if isNew (m.way k) = true then .own (m.owns + k) else .par k
noncomputable def Th.isNum : Th → Bool
  | .num _ => true
  | _ => false
noncomputable def heldT (way : Str) : Th → Option Th
  | .cell u => if way = "copy" ∨ u.isNum = true then none else some u
  | .num n => if way = "place" then some (.num n) else none
  | .sum a b => if way = "place" then some (.sum a b) else none
  | .own _ => none
  | .par _ => none
noncomputable def inHold (h : Th) : Th → Th
  | .cell _ => .cell h
  | .num _ => h
  | .sum _ _ => h
  | .own _ => h
  | .par _ => h
noncomputable def hOf (m : Mk) (way : Str) (t : Th) : Option Th := if m.holds = true then heldT way (kT m t) else none
noncomputable def tOf (m : Mk) (k : Nat) (way : Str) (t : Th) : Th := match hOf m way t with
  | some _ => inHold (.own (m.held + k)) (kT m t)
  | none => kT m t
noncomputable def kHs (m : Mk) : Nat → List Th → List Str → Sts
  | k, t :: ts, w :: ws => match hOf m w t with
    | some u => .cons (.set (.own (m.held + k)) u) (kHs m (k + 1) ts ws)
    | none => kHs m (k + 1) ts ws
  | _, _, _ => .nil
noncomputable def kHt (m : Mk) : Nat → List Th → List Str → List Th
  | k, t :: ts, w :: ws => tOf m k w t :: kHt m (k + 1) ts ws
  | _, _, _ => []
mutual
noncomputable def kS (W : List (List Str)) (m : Mk) : St → Sts
  | .set p t => .cons (.set (kT m p) (kT m t)) .nil
  | .say t => .cons (.say (kT m t)) .nil
  | .ite t a b => .cons (.ite (kT m t) (kB W m a) (kB W m b)) .nil
  | .call w ts => (kHs m 0 ts (W.getD w [])).app (.cons (.call w (kHt m 0 ts (W.getD w []))) .nil)
noncomputable def kB (W : List (List Str)) (m : Mk) : Sts → Sts
  | .nil => .nil
  | .cons s r => (kS W m s).app (kB W m r)
end
/-- what stands for what: M places of both runs, F holders of the second with what they keep -/
structure KS (M F : Nat → Nat → Prop) (a b : List Nat) : Prop where
  com : ∀ i, i < 3 → M i i
  inj : ∀ p q p' q', M p q → M p' q' → (p = p' ↔ q = q')
  val : ∀ p q, M p q → ∃ v, a[p]? = some v ∧ b[q]? = some v
  fro : ∀ h v, F h v → b[h]? = some v
  sep : ∀ h v p, F h v → ¬ M p h
section
variable (F : Nat → Nat → Prop)
mutual
/-- what is handed is the place q, at whatever time -/
noncomputable def ResH (q : Nat) : Hd → Prop
  | .road p _ => p = q
  | .want t g => ResT q t g
noncomputable def ResT (q : Nat) : Th → Fr → Prop
  | .own j, .mk os _ => os[j]? = some q
  | .cell (.num n), .mk _ _ => n = q
  | .cell (.own j), .mk os _ => ∃ h, os[j]? = some h ∧ F h q
  | .par j, .mk _ hs => ResHs q j hs
  | .num _, .mk _ _ => False
  | .sum _ _, .mk _ _ => False
  | .cell (.sum _ _), .mk _ _ => False
  | .cell (.cell _), .mk _ _ => False
  | .cell (.par _), .mk _ _ => False
noncomputable def ResHs (q : Nat) : Nat → Hds → Prop
  | _, .nil => False
  | 0, .cons d _ => ResH q d
  | j + 1, .cons _ r => ResHs q j r
end
end
noncomputable def numHd (b : List Nat) (n : Nat) : Hd → Option Nat
  | .road p _ => b[p]?
  | .want t g => numF b n g t
noncomputable def roadHd (b : List Nat) (n : Nat) : Hd → Option (Option (Nat × List Nat))
  | .road p ws => some (some (p, ws))
  | .want t g => roadF b n g t
theorem ResHs.get {F : Nat → Nat → Prop} {q : Nat} : ∀ {j : Nat} {hs : Hds}, ResHs F q j hs → ∃ d, hs.get j = some d ∧ ResH F q d
  | _, .nil, h => by unfold ResHs at h; exact h.elim
  | 0, .cons d r, h => by
    unfold ResHs at h
    exact ⟨d, rfl, h⟩
  | j + 1, .cons d r, h => by
    unfold ResHs at h
    obtain ⟨d', h1, h2⟩ := ResHs.get h
    exact ⟨d', h1, h2⟩
theorem ResHs.of {F : Nat → Nat → Prop} {q : Nat} : ∀ {j : Nat} {hs : Hds} {d : Hd}, hs.get j = some d → ResH F q d → ResHs F q j hs
  | _, .nil, d, e, _ => by unfold Hds.get at e; cases e
  | 0, .cons d r, d', e, h => by
    unfold Hds.get at e
    cases e
    unfold ResHs
    exact h
  | j + 1, .cons d r, d', e, h => by
    unfold Hds.get at e
    unfold ResHs
    exact ResHs.of e h
section
variable (M F : Nat → Nat → Prop) (info : Nat → Mk)
mutual
noncomputable def KFr : Nat → Fr → Fr → Prop
  | w, .mk os hs, g => ∃ os' hs', g = .mk os' hs' ∧ (∀ (k p : Nat), os[k]? = some p → ∃ q, os'[k]? = some q ∧ M p q) ∧ KHds w 0 os' hs hs'
noncomputable def KHds : Nat → Nat → List Nat → Hds → Hds → Prop
  | _, _, _, .nil, h' => h' = .nil
  | w, k, os', .cons d r, h' => ∃ d' r', h' = .cons d' r' ∧ KHd w k os' d d' ∧ KHds w (k + 1) os' r r'
noncomputable def KHd : Nat → Nat → List Nat → Hd → Hd → Prop
  | w, k, os', .road p _, d' => (isNew ((info w).way k) = true ∧ ∃ q, os'[(info w).owns + k]? = some q ∧ M p q) ∨ (isNew ((info w).way k) = false ∧ ∃ q, M p q ∧ ResH F q d')
  | w, k, _, .want t f, d' => isNew ((info w).way k) = false ∧ ∃ w2 g, d' = .want (kT (info w2) t) g ∧ KFr w2 f g
end
end
section
variable {M F M' F' : Nat → Nat → Prop} {info : Nat → Mk} {a b : List Nat}
mutual
theorem ResH.mono (hF : ∀ p q, F p q → F' p q) {q : Nat} : ∀ {d : Hd}, ResH F q d → ResH F' q d
  | .road p _, h => by unfold ResH at h ⊢; exact h
  | .want t g, h => by unfold ResH at h ⊢; exact ResT.mono hF h
theorem ResT.mono (hF : ∀ p q, F p q → F' p q) {q : Nat} : ∀ {t : Th} {g : Fr}, ResT F q t g → ResT F' q t g
  | .own j, .mk os _, h => by unfold ResT at h ⊢; exact h
  | .cell (.num n), .mk _ _, h => by unfold ResT at h ⊢; exact h
  | .cell (.own j), .mk os _, h => by
    unfold ResT at h ⊢
    obtain ⟨x, h1, h2⟩ := h
    exact ⟨x, h1, hF _ _ h2⟩
  | .par j, .mk _ hs, h => by unfold ResT at h ⊢; exact ResHs.mono hF h
  | .num _, .mk _ _, h => by unfold ResT at h; exact h.elim
  | .sum _ _, .mk _ _, h => by unfold ResT at h; exact h.elim
  | .cell (.sum _ _), .mk _ _, h => by unfold ResT at h; exact h.elim
  | .cell (.cell _), .mk _ _, h => by unfold ResT at h; exact h.elim
  | .cell (.par _), .mk _ _, h => by unfold ResT at h; exact h.elim
theorem ResHs.mono (hF : ∀ p q, F p q → F' p q) {q : Nat} : ∀ {j : Nat} {hs : Hds}, ResHs F q j hs → ResHs F' q j hs
  | _, .nil, h => by unfold ResHs at h; exact h.elim
  | 0, .cons d _, h => by unfold ResHs at h ⊢; exact ResH.mono hF h
  | j + 1, .cons _ r, h => by unfold ResHs at h ⊢; exact ResHs.mono hF h
end
mutual
theorem KFr.mono (hM : ∀ p q, M p q → M' p q) (hF : ∀ p q, F p q → F' p q) : ∀ {w : Nat} {f g : Fr}, KFr M F info w f g → KFr M' F' info w f g
  | w, .mk os hs, g, h => by
    unfold KFr at h ⊢
    obtain ⟨os', hs', e, h1, h2⟩ := h
    exact ⟨os', hs', e, fun k p ep => by
      obtain ⟨q, h3, h4⟩ := h1 k p ep
      exact ⟨q, h3, hM _ _ h4⟩, KHds.mono hM hF h2⟩
theorem KHds.mono (hM : ∀ p q, M p q → M' p q) (hF : ∀ p q, F p q → F' p q) : ∀ {w k : Nat} {os' : List Nat} {h h' : Hds}, KHds M F info w k os' h h' → KHds M' F' info w k os' h h'
  | _, _, _, .nil, h', e => by unfold KHds at e ⊢; exact e
  | w, k, os', .cons d r, h', e => by
    unfold KHds at e ⊢
    obtain ⟨d', r', e1, h1, h2⟩ := e
    exact ⟨d', r', e1, KHd.mono hM hF h1, KHds.mono hM hF h2⟩
theorem KHd.mono (hM : ∀ p q, M p q → M' p q) (hF : ∀ p q, F p q → F' p q) : ∀ {w k : Nat} {os' : List Nat} {d d' : Hd}, KHd M F info w k os' d d' → KHd M' F' info w k os' d d'
  | w, k, os', .road p _, d', e => by
    unfold KHd at e ⊢
    rcases e with ⟨e1, q, e2, e3⟩ | ⟨e1, q, e2, e3⟩
    · exact .inl ⟨e1, q, e2, hM _ _ e3⟩
    · exact .inr ⟨e1, q, hM _ _ e2, e3.mono hF⟩
  | w, k, _, .want t f, d', e => by
    unfold KHd at e ⊢
    obtain ⟨e1, w2, g, e2, e3⟩ := e
    exact ⟨e1, w2, g, e2, KFr.mono hM hF e3⟩
end
theorem KHds.get : ∀ {w i k : Nat} {os' : List Nat} {h h' : Hds} {d : Hd}, KHds M F info w i os' h h' → h.get k = some d → ∃ d', h'.get k = some d' ∧ KHd M F info w (i + k) os' d d'
  | w, i, k, os', .nil, h', d, _, e => by unfold Hds.get at e; cases e
  | w, i, 0, os', .cons d0 r, h', d, g, e => by
    unfold KHds at g
    unfold Hds.get at e
    cases e
    obtain ⟨d', r', rfl, h1, h2⟩ := g
    exact ⟨d', rfl, h1⟩
  | w, i, k + 1, os', .cons d0 r, h', d, g, e => by
    unfold KHds at g
    unfold Hds.get at e
    obtain ⟨d', r', rfl, h1, h2⟩ := g
    obtain ⟨d2, h3, h4⟩ := KHds.get h2 e
    rw [show i + 1 + k = i + (k + 1) by omega] at h4
    exact ⟨d2, h3, h4⟩
theorem KS.at_ (s : KS M F a b) {p q x y : Nat} (m : M p q) (e : a[p]? = some x) (e' : b[q]? = some y) : x = y := by
  obtain ⟨v, h1, h2⟩ := s.val p q m
  rw [h1] at e
  rw [h2] at e'
  cases e
  cases e'
  rfl
end
end Hw
namespace Hw
open PySem PySem.Spec PyProof.Rows L2
theorem kget_app {l r : List Nat} {i v : Nat} (h : l[i]? = some v) : (l ++ r)[i]? = some v := by
  rw [List.getElem?_append_left (List.getElem?_eq_some_iff.mp h).1]
  exact h
theorem kget_new {l : List Nat} {v : Nat} : (l ++ [v])[l.length]? = some v := by
  rw [List.getElem?_append_right (Nat.le_refl _), Nat.sub_self]
  rfl
theorem kget_lt {l : List Nat} {i v : Nat} (h : l[i]? = some v) : i < l.length := (List.getElem?_eq_some_iff.mp h).1
/-- the second list says what the first one says, and more -/
noncomputable def Pre (a b : List Nat) : Prop := ∀ i v : Nat, a[i]? = some v → b[i]? = some v
theorem Pre.refl {a : List Nat} : Pre a a := fun _ _ h => h
theorem Pre.trans {a b c : List Nat} (x : Pre a b) (y : Pre b c) : Pre a c := fun i v h => y i v (x i v h)
theorem Pre.app {a r : List Nat} : Pre a (a ++ r) := fun _ _ h => kget_app h
theorem Pre.len {a b : List Nat} (x : Pre a b) : a.length ≤ b.length := by
  by_cases c : a.length = 0
  · omega
  · have := kget_lt (x (a.length - 1) _ (List.getElem?_eq_getElem (by omega)))
    omega
section
variable (hb : Bool) (M F : Nat → Nat → Prop) (info : Nat → Mk)
/-- what the made param tells, until the first steps -/
noncomputable def Pend (B : List Nat) (d' : Hd) (v : Nat) : Prop := ∀ (B2 : List Nat) (n y : Nat), Pre B B2 → numHd B2 n d' = some y → y = v
/-- the made param is no place, or one that nobody asks -/
noncomputable def Harm (B : List Nat) (d' : Hd) : Prop := (∀ (B2 : List Nat) (n : Nat) r, roadHd B2 n d' = some r → r = none) ∨ (hb = false ∧ ∃ q ws, d' = .road q ws ∧ q < B.length ∧ (∀ p, ¬ M p q) ∧ ∀ v, ¬ F q v)
noncomputable def PRec (A B : List Nat) (w2 k lo : Nat) (d : Hd) (bo : Option Nat) (d' : Hd) : Prop :=
  (isNew ((info w2).way k) = true ∧ ∃ p ws v, d = .road p ws ∧ lo ≤ p ∧ p < A.length ∧ A[p]? = some v ∧ (∀ q, ¬ M p q) ∧ Pend B d' v ∧ ((info w2).way k ≠ "back" → bo = none) ∧ (∀ p0, bo = some p0 → ∃ q0, M p0 q0 ∧ ResH F q0 d') ∧ ((info w2).way k = "back" → bo = none → Harm hb M F B d')) ∨
  (isNew ((info w2).way k) = false ∧ bo = none ∧ ((∃ p ws q, d = .road p ws ∧ M p q ∧ ResH F q d') ∨ ∃ t f w3 g, d = .want t f ∧ d' = .want (kT (info w3) t) g ∧ KFr M F info w3 f g))
noncomputable def PRecs (A B : List Nat) (w2 : Nat) : Nat → Nat → List (Hd × Option Nat) → List (Hd × Option Nat) → Prop
  | _, _, [], r' => r' = []
  | k, lo, (d, bo) :: r, r' => ∃ d' s, r' = (d', none) :: s ∧ PRec hb M F info A B w2 k lo d bo d' ∧ ∃ lo', lo ≤ lo' ∧ (∀ p ws, d = .road p ws → isNew ((info w2).way k) = true → p < lo') ∧ PRecs A B w2 (k + 1) lo' r s
end
section
variable {hb : Bool} {M F M' : Nat → Nat → Prop} {info : Nat → Mk}
theorem Pend.mono {B B1 : List Nat} {d : Hd} {v : Nat} (h : Pend B d v) (p : Pre B B1) : Pend B1 d v := fun B2 n y p2 e => h B2 n y (p.trans p2) e
/-- more is handed -/
theorem PRec.mono {A A1 B B1 : List Nat} {w2 k lo : Nat} {d d' : Hd} {bo : Option Nat} (h : PRec hb M F info A B w2 k lo d bo d') (hM : ∀ p q, M p q → M' p q) (pa : Pre A A1) (pb : Pre B B1) (new : ∀ p q, M' p q → M p q ∨ (A.length ≤ p ∧ (hb = false → B.length ≤ q))) : PRec hb M' F info A1 B1 w2 k lo d bo d' := by
  rcases h with ⟨h1, p, ws, v, rfl, h2, h3, h4, h5, h6, h7, h8, h9⟩ | ⟨h1, h2, ⟨p, ws, q, rfl, h3, h4⟩ | ⟨t, f, w3, g, rfl, rfl, h3⟩⟩
  · refine .inl ⟨h1, p, ws, v, rfl, h2, Nat.lt_of_lt_of_le h3 pa.len, pa _ _ h4, fun q z => ?_, h6.mono pb, h7, fun p0 e => ?_, fun e1 e2 => ?_⟩
    · rcases new p q z with z | ⟨z, _⟩
      · exact h5 q z
      · omega
    · obtain ⟨q0, m0, r0⟩ := h8 p0 e
      exact ⟨q0, hM _ _ m0, r0⟩
    · rcases h9 e1 e2 with hh | ⟨hh, q, ws2, e3, lq, n1, n2⟩
      · exact .inl hh
      · refine .inr ⟨hh, q, ws2, e3, Nat.lt_of_lt_of_le lq pb.len, fun p2 z => ?_, n2⟩
        rcases new p2 q z with z | ⟨_, z⟩
        · exact n1 p2 z
        · have := z hh
          omega
  · exact .inr ⟨h1, h2, .inl ⟨p, ws, q, rfl, hM _ _ h3, h4⟩⟩
  · exact .inr ⟨h1, h2, .inr ⟨t, f, w3, g, rfl, rfl, h3.mono hM fun _ _ z => z⟩⟩
/-- a pair of new places -/
theorem KS.both {a b : List Nat} (s : KS M F a b) {v : Nat} : KS (fun p q => M p q ∨ (p = a.length ∧ q = b.length)) F (a ++ [v]) (b ++ [v]) := by
  have lt : ∀ p q, M p q → p < a.length ∧ q < b.length := fun p q m => by
    obtain ⟨v, e1, e2⟩ := s.val p q m
    exact ⟨kget_lt e1, kget_lt e2⟩
  refine ⟨fun i hi => .inl (s.com i hi), fun p q p' q' h h' => ?_, fun p q h => ?_, fun h v z => kget_app (s.fro h v z), fun h v p z m => ?_⟩
  · rcases h with h | ⟨rfl, rfl⟩ <;> rcases h' with h' | ⟨rfl, rfl⟩
    · exact s.inj p q p' q' h h'
    · have := lt p q h
      omega
    · have := lt p' q' h'
      omega
    · simp
  · rcases h with h | ⟨rfl, rfl⟩
    · obtain ⟨v, e1, e2⟩ := s.val p q h
      exact ⟨v, kget_app e1, kget_app e2⟩
    · exact ⟨v, kget_new, kget_new⟩
  · rcases m with m | ⟨_, m⟩
    · exact s.sep h v p z m
    · have := kget_lt (s.fro h v z)
      omega
theorem KS.pre {a a1 b b1 : List Nat} (s : KS M F a b) (pa : Pre a a1) (pb : Pre b b1) : KS M F a1 b1 :=
  ⟨s.com, s.inj, fun p q h => by
    obtain ⟨v, e1, e2⟩ := s.val p q h
    exact ⟨v, pa _ _ e1, pb _ _ e2⟩, fun h v z => pb _ _ (s.fro h v z), s.sep⟩
end
end Hw
namespace Hw
open PySem PySem.Spec PyProof.Rows L2
section
variable {hb : Bool} {M F M' : Nat → Nat → Prop} {info : Nat → Mk}
theorem KS.put {a b : List Nat} (s : KS M F a b) {p q v : Nat} (m : M p q) : KS M F (a.set p v) (b.set q v) := by
  obtain ⟨u, e1, e2⟩ := s.val p q m
  have lp := kget_lt e1
  have lq := kget_lt e2
  refine ⟨s.com, s.inj, fun p' q' h => ?_, fun h v' z => ?_, s.sep⟩
  · have i := s.inj p q p' q' m h
    by_cases cp : p = p'
    · have cq := i.mp cp
      subst cp
      subst cq
      exact ⟨v, by rw [List.getElem?_set, if_pos rfl, if_pos lp], by rw [List.getElem?_set, if_pos rfl, if_pos lq]⟩
    · have cq : q ≠ q' := fun z => cp (i.mpr z)
      obtain ⟨u, e1, e2⟩ := s.val p' q' h
      exact ⟨u, by rw [List.getElem?_set, if_neg cp]; exact e1, by rw [List.getElem?_set, if_neg cq]; exact e2⟩
  · have n : q ≠ h := fun e => s.sep h v' p z (by rw [← e]; exact m)
    rw [List.getElem?_set, if_neg n]
    exact s.fro h v' z
/-- fewer pairs -/
theorem KS.less {a b : List Nat} (s : KS M' F a b) (h : ∀ p q, M p q → M' p q) (com : ∀ i, i < 3 → M i i) : KS M F a b :=
  ⟨com, fun p q p' q' h1 h2 => s.inj p q p' q' (h _ _ h1) (h _ _ h2), fun p q m => s.val p q (h _ _ m), s.fro, fun x v p z m => s.sep x v p z (h _ _ m)⟩
/-- own cells -/
theorem KS.many {a b : List Nat} (s : KS M F a b) : ∀ n, KS (fun p q => M p q ∨ ∃ i, i < n ∧ p = a.length + i ∧ q = b.length + i) F (a ++ List.replicate n 0) (b ++ List.replicate n 0)
  | 0 => by
    rw [List.replicate_zero, List.append_nil, List.append_nil]
    refine s.less (fun p q m => ?_) fun i hi => .inl (s.com i hi)
    rcases m with m | ⟨i, hi, _⟩
    · exact m
    · omega
  | n + 1 => by
    have h := (KS.many s n).both (v := 0)
    rw [List.append_assoc, List.append_assoc, ← List.replicate_succ'] at h
    refine h.less (fun p q m => ?_) fun i hi => .inl (s.com i hi)
    rcases m with m | ⟨i, hi, rfl, rfl⟩
    · exact .inl (.inl m)
    · by_cases c : i < n
      · exact .inl (.inr ⟨i, c, rfl, rfl⟩)
      · refine .inr ?_
        have : i = n := by omega
        subst this
        rw [List.length_append, List.length_append, List.length_replicate]
        exact ⟨rfl, rfl⟩
/-- what is left for the last steps -/
noncomputable def LRec (hb : Bool) (M F : Nat → Nat → Prop) (info : Nat → Mk) (B : List Nat) (w2 k : Nat) (bo : Option Nat) (d' : Hd) : Prop :=
  ((info w2).way k ≠ "back" → bo = none) ∧ (∀ p0, bo = some p0 → ∃ q0, M p0 q0 ∧ ResH F q0 d') ∧ ((info w2).way k = "back" → bo = none → Harm hb M F B d')
theorem LRec.mono {B : List Nat} {w2 k : Nat} {bo : Option Nat} {d' : Hd} (h : LRec hb M F info B w2 k bo d') (hM : ∀ p q, M p q → M' p q) (new : ∀ p q, M' p q → M p q ∨ B.length ≤ q) : LRec hb M' F info B w2 k bo d' := by
  refine ⟨h.1, fun p0 e => ?_, fun e1 e2 => ?_⟩
  · obtain ⟨q0, m, r⟩ := h.2.1 p0 e
    exact ⟨q0, hM _ _ m, r⟩
  · rcases h.2.2 e1 e2 with z | ⟨z, q, ws, e3, l, n1, n2⟩
    · exact .inl z
    · refine .inr ⟨z, q, ws, e3, l, fun p m => ?_, n2⟩
      rcases new p q m with m | m
      · exact n1 p m
      · omega
end
end Hw
namespace Hw
open PySem PySem.Spec PyProof.Rows L2
noncomputable def pw (x : Str) : Str := if x = "want" then "want" else "place"
section
variable {hb : Bool} {M F M' : Nat → Nat → Prop} {info : Nat → Mk}
theorem PRecs.none {A B : List Nat} {w2 : Nat} : ∀ {r r' : List (Hd × Option Nat)} {k lo : Nat}, PRecs hb M F info A B w2 k lo r r' → (∀ x ∈ r', x.2 = none) ∧ r'.length = r.length
  | [], r', k, lo, h => by
    unfold PRecs at h
    subst h
    exact ⟨fun x hx => (by cases hx), rfl⟩
  | (d, b) :: r, r', k, lo, h => by
    unfold PRecs at h
    obtain ⟨d', s, rfl, _, lo', _, _, h2⟩ := h
    obtain ⟨h3, h4⟩ := PRecs.none h2
    exact ⟨fun x hx => by
      rcases List.mem_cons.mp hx with rfl | hx
      · rfl
      · exact h3 x hx, by rw [List.length_cons, List.length_cons, h4]⟩
theorem PRecs.mono {A A1 B B1 : List Nat} {w2 : Nat} (hM : ∀ p q, M p q → M' p q) (pa : Pre A A1) (pb : Pre B B1) (new : ∀ p q, M' p q → M p q ∨ (A.length ≤ p ∧ (hb = false → B.length ≤ q))) : ∀ {r r' : List (Hd × Option Nat)} {k lo : Nat}, PRecs hb M F info A B w2 k lo r r' → PRecs hb M' F info A1 B1 w2 k lo r r'
  | [], r', k, lo, h => by unfold PRecs at h ⊢; exact h
  | (d, b) :: r, r', k, lo, h => by
    unfold PRecs at h ⊢
    obtain ⟨d', s, e, h1, lo', h2, h3, h4⟩ := h
    exact ⟨d', s, e, h1.mono hM pa pb new, lo', h2, h3, PRecs.mono hM pa pb new h4⟩
end
end Hw
namespace Hw
open PySem PySem.Spec PyProof.Rows L2
noncomputable def Th.isC : Th → Prop
  | .cell _ => True
  | _ => False
end Hw
namespace Hw
open PySem PySem.Spec PyProof.Rows L2
noncomputable def ww (_ : Str) : Str := "want"
end Hw
namespace Hw
open PySem PySem.Spec PyProof.Rows L2
noncomputable def most : List Nat → Nat
  | [] => 0
  | x :: r => max x (most r)
end Hw
namespace Hw
open PySem PySem.Spec PyProof.Rows L2
noncomputable abbrev hdW (ws : List Str) : Str := ws.headD ""
/-- out of fuel; can't be so; so -/
noncomputable abbrev O2 (α : Type) : Type := Option (Option α)
noncomputable def o2 {α β : Type} (x : O2 α) (f : α → O2 β) : O2 β := match x with
  | none => none
  | some none => some none
  | some (some a) => f a
noncomputable def lthF : Nat → List Str → O2 (PyData × Nat)
  | 0, _ => none
  | n + 1, ws =>
    if hdW ws = "own" ∨ hdW ws = "par" then some ((figOf (hdW (ws.drop 1))).map fun (k : Nat) => (.tuple [.str (hdW ws), .int (k : Int)], 2))
    else if ¬ (hdW ws = "+" ∨ hdW ws = "cell") then some ((figOf (hdW ws)).map fun (k : Nat) => (.tuple [.str "num", .int (k : Int)], 1))
    else o2 (lthF n (ws.drop 1)) fun a => if hdW ws = "cell" then some (some (.tuple [.str "cell", a.1], 1 + a.2)) else o2 (lthF n (ws.drop (1 + a.2))) fun b => some (some (.tuple [.str "sum", a.1, b.1], 1 + a.2 + b.2))
noncomputable def ltsF (n : Nat) : Nat → List Str → O2 (List PyData × Nat)
  | 0, _ => none
  | m + 1, ws => if hdW ws = "." then some (some ([], 1)) else o2 (lthF n ws) fun a => o2 (ltsF n m (ws.drop a.2)) fun l => some (some (a.1 :: l.1, a.2 + l.2))
noncomputable def lbpF (body : List Str → O2 (List PyData × Nat)) (ws : List Str) : O2 (PyData × Nat) :=
  if hdW ws = "(" then o2 (body (ws.drop 1)) fun l => if hdW (ws.drop (1 + l.2)) = ")" then some (some (.tuple l.1, 1 + l.2 + 1)) else some none else some none
noncomputable def lstF (n m : Nat) (body : List Str → O2 (List PyData × Nat)) (ws : List Str) : O2 (PyData × Nat) :=
  if hdW ws = "call" then match figOf (hdW (ws.drop 1)) with
    | none => some none
    | some c => o2 (ltsF n m (ws.drop 2)) fun l => some (some (.tuple [.str "call", .int (c : Int), .tuple l.1], 2 + l.2))
  else if hdW ws = "set" then o2 (lthF n (ws.drop 1)) fun a => o2 (lthF n (ws.drop (1 + a.2))) fun b => some (some (.tuple [.str "set", a.1, b.1], 1 + a.2 + b.2))
  else if hdW ws = "say" then o2 (lthF n (ws.drop 1)) fun a => some (some (.tuple [.str "say", a.1], 1 + a.2))
  else o2 (lthF n (ws.drop 1)) fun a => o2 (lbpF body (ws.drop (1 + a.2))) fun b => o2 (lbpF body (ws.drop (1 + a.2 + b.2))) fun c => some (some (.tuple [.str "if", a.1, b.1, c.1], 1 + a.2 + b.2 + c.2))
noncomputable def fourW : List Str := ["set", "say", "if", "call"]
noncomputable def lbdF (n m : Nat) : Nat → List Str → O2 (List PyData × Nat)
  | 0, _ => none
  | f + 1, ws => if hdW ws ∈ fourW then o2 (lstF n m (lbdF n m f) ws) fun s => o2 (lbdF n m f (ws.drop s.2)) fun l => some (some (s.1 :: l.1, s.2 + l.2)) else some (some ([], 0))
noncomputable def llF (n m f : Nat) (ws : List Str) : O2 PyData := match figOf (hdW ws), figOf (hdW (ws.drop 1)) with
  | some p, some o => o2 (lbdF n m f (ws.drop 2)) fun l => if 2 + l.2 = ws.length then some (some (.tuple [.int (p : Int), .int (o : Int), .tuple l.1])) else some none
  | _, _ => some none
theorem o2_inv {α β : Type} {x : O2 α} {f : α → O2 β} {b : β} (h : o2 x f = some (some b)) : ∃ a, x = some (some a) ∧ f a = some (some b) := by
  match x with
  | none => cases h
  | some none => cases h
  | some (some a) => exact ⟨a, rfl, h⟩
theorem figOf_some {w : Str} {k : Nat} (h : figOf w = some k) : k < 100 ∧ nW k = w := by
  unfold figOf at h
  have a := List.find?_some h
  exact ⟨List.mem_range.mp (List.mem_of_find?_eq_some h), of_decide_eq_true a⟩
theorem figOf_empty : figOf "" = none := fig_no (by decide +kernel)
theorem hd_cons {ws : List Str} {w : Str} (h : hdW ws = w) (n : w ≠ "") : ws = w :: ws.drop 1 := by
  cases ws with
  | nil => exact absurd h.symm n
  | cons x r =>
    have : x = w := h
    subst this
    rfl
theorem fig_cons {ws : List Str} {k : Nat} (h : figOf (hdW ws) = some k) : k < 100 ∧ ws = nW k :: ws.drop 1 := by
  obtain ⟨a, b⟩ := figOf_some h
  refine ⟨a, hd_cons b.symm fun z => ?_⟩
  rw [← b, z] at h
  rw [figOf_empty] at h
  cases h
/-- what is read from the front is a thing -/
theorem th_sound : ∀ {n : Nat} {ws : List Str} {d : PyData} {k : Nat}, lthF n ws = some (some (d, k)) → ∃ t : Th, t.low ∧ d = t.enc ∧ k = t.words.length ∧ ws = t.words ++ ws.drop k
  | 0, _, _, _, h => by cases h
  | n + 1, ws, d, k, h => by
    unfold lthF at h
    split at h
    · rename_i c
      obtain ⟨x, e, e2⟩ := Option.map_eq_some_iff.mp (Option.some.inj h)
      obtain ⟨x1, x2⟩ := fig_cons e
      cases e2
      rcases c with c | c
      · have h1 := hd_cons c (by decide +kernel)
        refine ⟨.own x, x1, by rw [c]; rfl, rfl, ?_⟩
        show ws = [("own" : Str), nW x] ++ ws.drop 2
        rw [h1] at x2 ⊢
        have x2' : ws.drop 1 = nW x :: (ws.drop 1).drop 1 := by simpa using x2
        rw [List.drop_drop] at x2'
        show ("own" : Str) :: ws.drop 1 = ("own" : Str) :: ([nW x] ++ (ws.drop 1).drop 1)
        rw [List.drop_drop]
        exact congrArg _ x2'
      · have h1 := hd_cons c (by decide +kernel)
        refine ⟨.par x, x1, by rw [c]; rfl, rfl, ?_⟩
        show ws = [("par" : Str), nW x] ++ ws.drop 2
        rw [h1] at x2 ⊢
        have x2' : ws.drop 1 = nW x :: (ws.drop 1).drop 1 := by simpa using x2
        rw [List.drop_drop] at x2'
        show ("par" : Str) :: ws.drop 1 = ("par" : Str) :: ([nW x] ++ (ws.drop 1).drop 1)
        rw [List.drop_drop]
        exact congrArg _ x2'
    split at h
    · obtain ⟨x, e, e2⟩ := Option.map_eq_some_iff.mp (Option.some.inj h)
      obtain ⟨x1, x2⟩ := fig_cons e
      cases e2
      exact ⟨.num x, x1, rfl, rfl, x2⟩
    · rename_i c1 c2
      have c2' : hdW ws = "+" ∨ hdW ws = "cell" := Decidable.not_not.mp c2
      obtain ⟨a, ea, h⟩ := o2_inv h
      obtain ⟨t, t1, t2, t3, t4⟩ := th_sound (d := a.1) (k := a.2) ea
      split at h
      · rename_i c
        have e := Option.some.inj (Option.some.inj h)
        obtain ⟨e1, e2⟩ := Prod.mk.inj e
        subst e1 e2
        refine ⟨.cell t, t1, by rw [t2]; rfl, by rw [t3]; show 1 + t.words.length = t.words.length + 1; omega, ?_⟩
        have h1 := hd_cons c (by decide +kernel)
        show ws = (("cell" : Str) :: t.words) ++ ws.drop (1 + a.2)
        rw [List.drop_drop] at t4
        calc ws = ("cell" : Str) :: ws.drop 1 := h1
          _ = ("cell" : Str) :: (t.words ++ ws.drop (1 + a.2)) := congrArg _ t4
      · rename_i c
        obtain ⟨b, eb, h⟩ := o2_inv h
        obtain ⟨u, u1, u2, u3, u4⟩ := th_sound (d := b.1) (k := b.2) eb
        have e := Option.some.inj (Option.some.inj h)
        obtain ⟨e1, e2⟩ := Prod.mk.inj e
        subst e1 e2
        have h1 := hd_cons (c2'.resolve_right c) (by decide +kernel)
        refine ⟨.sum t u, ⟨t1, u1⟩, by rw [t2, u2]; rfl, by rw [t3, u3]; show 1 + t.words.length + u.words.length = (t.words ++ u.words).length + 1; rw [List.length_append]; omega, ?_⟩
        show ws = (("+" : Str) :: (t.words ++ u.words)) ++ ws.drop (1 + a.2 + b.2)
        rw [List.drop_drop] at t4 u4
        calc ws = ("+" : Str) :: ws.drop 1 := h1
          _ = ("+" : Str) :: (t.words ++ ws.drop (1 + a.2)) := congrArg _ t4
          _ = ("+" : Str) :: (t.words ++ (u.words ++ ws.drop (1 + a.2 + b.2))) := by rw [← u4]
          _ = (("+" : Str) :: (t.words ++ u.words)) ++ ws.drop (1 + a.2 + b.2) := by rw [List.cons_append, List.append_assoc]
theorem ths_sound {n : Nat} : ∀ {m : Nat} {ws : List Str} {l : List PyData} {k : Nat}, ltsF n m ws = some (some (l, k)) → ∃ ts : List Th, (∀ t ∈ ts, t.low) ∧ l = ts.map Th.enc ∧ k = (wordsOf ts ++ dot).length ∧ ws = (wordsOf ts ++ dot) ++ ws.drop k
  | 0, _, _, _, h => by cases h
  | m + 1, ws, l, k, h => by
    unfold ltsF at h
    split at h
    · rename_i c
      obtain ⟨e1, e2⟩ := Prod.mk.inj (Option.some.inj (Option.some.inj h))
      subst e1 e2
      exact ⟨[], (fun t z => by cases z), rfl, rfl, hd_cons c (by decide +kernel)⟩
    · obtain ⟨a, ea, h⟩ := o2_inv h
      obtain ⟨r, er, h⟩ := o2_inv h
      obtain ⟨t, t1, t2, t3, t4⟩ := th_sound (d := a.1) (k := a.2) ea
      obtain ⟨ts, s1, s2, s3, s4⟩ := ths_sound (l := r.1) (k := r.2) er
      obtain ⟨e1, e2⟩ := Prod.mk.inj (Option.some.inj (Option.some.inj h))
      subst e1 e2
      have ew : wordsOf (t :: ts) = t.words ++ wordsOf ts := rfl
      refine ⟨t :: ts, fun u hu => ?_, by rw [t2, s2]; rfl, by rw [t3, s3, ew, List.append_assoc, List.length_append (as := t.words)], ?_⟩
      · rcases List.mem_cons.mp hu with rfl | hu
        · exact t1
        · exact s1 u hu
      · rw [List.drop_drop] at s4
        rw [ew]
        calc ws = t.words ++ ws.drop a.2 := t4
          _ = t.words ++ ((wordsOf ts ++ dot) ++ ws.drop (a.2 + r.2)) := by rw [← s4]
          _ = ((t.words ++ wordsOf ts) ++ dot) ++ ws.drop (a.2 + r.2) := by simp only [List.append_assoc]
/-- what a reader of bodies tells is a body -/
noncomputable def BSound (body : List Str → O2 (List PyData × Nat)) : Prop := ∀ (ws : List Str) (l : List PyData) (k : Nat), body ws = some (some (l, k)) → ∃ b : Sts, b.low ∧ l = b.encs ∧ k = b.words.length ∧ ws = b.words ++ ws.drop k
theorem bp_sound {body : List Str → O2 (List PyData × Nat)} (B : BSound body) {ws : List Str} {d : PyData} {k : Nat} (h : lbpF body ws = some (some (d, k))) : ∃ b : Sts, b.low ∧ d = .tuple b.encs ∧ k = (opn ++ b.words ++ cls).length ∧ ws = (opn ++ b.words ++ cls) ++ ws.drop k := by
  unfold lbpF at h
  split at h
  · rename_i c
    obtain ⟨a, ea, h⟩ := o2_inv h
    obtain ⟨b, b1, b2, b3, b4⟩ := B _ a.1 a.2 ea
    split at h
    · rename_i c2
      obtain ⟨e1, e2⟩ := Prod.mk.inj (Option.some.inj (Option.some.inj h))
      subst e1 e2
      have h1 := hd_cons c (by decide +kernel)
      have h2 := hd_cons c2 (by decide +kernel)
      rw [List.drop_drop] at b4 h2
      refine ⟨b, b1, by rw [b2], by rw [b3]; simp only [List.length_append, List.length_cons, List.length_nil]; try omega, ?_⟩
      calc ws = ("(" : Str) :: ws.drop 1 := h1
        _ = ("(" : Str) :: (b.words ++ ws.drop (1 + a.2)) := congrArg _ b4
        _ = ("(" : Str) :: (b.words ++ ((")" : Str) :: ws.drop (1 + a.2 + 1))) := by rw [← h2]
        _ = (opn ++ b.words ++ cls) ++ ws.drop (1 + a.2 + 1) := by simp only [List.append_assoc]; rfl
    · cases h
  · cases h
theorem st_sound {n m : Nat} {body : List Str → O2 (List PyData × Nat)} (B : BSound body) {ws : List Str} {d : PyData} {k : Nat} (hw : hdW ws ∈ fourW) (h : lstF n m body ws = some (some (d, k))) : ∃ s : St, s.low ∧ d = s.enc ∧ k = s.words.length ∧ ws = s.words ++ ws.drop k := by
  unfold lstF at h
  split at h
  · rename_i c
    split at h
    · cases h
    · rename_i cc ec
      obtain ⟨x1, x2⟩ := fig_cons ec
      obtain ⟨a, ea, h⟩ := o2_inv h
      obtain ⟨ts, s1, s2, s3, s4⟩ := ths_sound (l := a.1) (k := a.2) ea
      obtain ⟨e1, e2⟩ := Prod.mk.inj (Option.some.inj (Option.some.inj h))
      subst e1 e2
      have h1 := hd_cons c (by decide +kernel)
      rw [List.drop_drop] at x2 s4
      refine ⟨.call cc ts, by unfold St.low; exact ⟨x1, s1⟩, by rw [s2]; unfold St.enc; rfl, by rw [s3]; unfold St.words; simp only [List.length_append, List.length_cons, List.length_nil]; omega, ?_⟩
      unfold St.words
      calc ws = ("call" : Str) :: ws.drop 1 := h1
        _ = ("call" : Str) :: (nW cc :: ws.drop 2) := congrArg _ x2
        _ = ("call" : Str) :: (nW cc :: ((wordsOf ts ++ dot) ++ ws.drop (2 + a.2))) := by rw [← s4]
        _ = ([("call" : Str), nW cc] ++ wordsOf ts ++ dot) ++ ws.drop (2 + a.2) := by simp only [List.append_assoc]; rfl
  split at h
  · rename_i c
    obtain ⟨a, ea, h⟩ := o2_inv h
    obtain ⟨b, eb, h⟩ := o2_inv h
    obtain ⟨t, t1, t2, t3, t4⟩ := th_sound (d := a.1) (k := a.2) ea
    obtain ⟨u, u1, u2, u3, u4⟩ := th_sound (d := b.1) (k := b.2) eb
    obtain ⟨e1, e2⟩ := Prod.mk.inj (Option.some.inj (Option.some.inj h))
    subst e1 e2
    have h1 := hd_cons c (by decide +kernel)
    rw [List.drop_drop] at t4 u4
    refine ⟨.set t u, by unfold St.low; exact ⟨t1, u1⟩, by rw [t2, u2]; unfold St.enc; rfl, by rw [t3, u3]; unfold St.words; simp only [List.length_append, List.length_cons]; omega, ?_⟩
    unfold St.words
    calc ws = ("set" : Str) :: ws.drop 1 := h1
      _ = ("set" : Str) :: (t.words ++ ws.drop (1 + a.2)) := congrArg _ t4
      _ = ("set" : Str) :: (t.words ++ (u.words ++ ws.drop (1 + a.2 + b.2))) := by rw [← u4]
      _ = (("set" : Str) :: (t.words ++ u.words)) ++ ws.drop (1 + a.2 + b.2) := by rw [List.cons_append, List.append_assoc]
  split at h
  · rename_i c
    obtain ⟨a, ea, h⟩ := o2_inv h
    obtain ⟨t, t1, t2, t3, t4⟩ := th_sound (d := a.1) (k := a.2) ea
    obtain ⟨e1, e2⟩ := Prod.mk.inj (Option.some.inj (Option.some.inj h))
    subst e1 e2
    have h1 := hd_cons c (by decide +kernel)
    rw [List.drop_drop] at t4
    refine ⟨.say t, by unfold St.low; exact t1, by rw [t2]; unfold St.enc; rfl, by rw [t3]; unfold St.words; simp only [List.length_cons]; omega, ?_⟩
    unfold St.words
    calc ws = ("say" : Str) :: ws.drop 1 := h1
      _ = ("say" : Str) :: (t.words ++ ws.drop (1 + a.2)) := congrArg _ t4
  · rename_i c1 c2 c3
    have c : hdW ws = "if" := by
      unfold fourW at hw
      simp only [List.mem_cons, List.not_mem_nil, or_false] at hw
      rcases hw with z | z | z | z
      · exact absurd z c2
      · exact absurd z c3
      · exact z
      · exact absurd z c1
    obtain ⟨a, ea, h⟩ := o2_inv h
    obtain ⟨b, eb, h⟩ := o2_inv h
    obtain ⟨e, ee, h⟩ := o2_inv h
    obtain ⟨t, t1, t2, t3, t4⟩ := th_sound (d := a.1) (k := a.2) ea
    obtain ⟨u, u1, u2, u3, u4⟩ := bp_sound B (d := b.1) (k := b.2) eb
    obtain ⟨v, v1, v2, v3, v4⟩ := bp_sound B (d := e.1) (k := e.2) ee
    obtain ⟨e1, e2⟩ := Prod.mk.inj (Option.some.inj (Option.some.inj h))
    subst e1 e2
    have h1 := hd_cons c (by decide +kernel)
    rw [List.drop_drop] at t4 u4 v4
    refine ⟨.ite t u v, by unfold St.low; exact ⟨t1, u1, v1⟩, by rw [t2, u2, v2]; unfold St.enc; rfl, by rw [t3, u3, v3]; unfold St.words; simp only [List.length_append, List.length_cons, List.length_nil]; omega, ?_⟩
    unfold St.words
    calc ws = ("if" : Str) :: ws.drop 1 := h1
      _ = ("if" : Str) :: (t.words ++ ws.drop (1 + a.2)) := congrArg _ t4
      _ = ("if" : Str) :: (t.words ++ ((opn ++ u.words ++ cls) ++ ws.drop (1 + a.2 + b.2))) := by rw [← u4]
      _ = ("if" : Str) :: (t.words ++ ((opn ++ u.words ++ cls) ++ ((opn ++ v.words ++ cls) ++ ws.drop (1 + a.2 + b.2 + e.2)))) := by rw [← v4]
      _ = (("if" : Str) :: (t.words ++ (opn ++ u.words ++ mid ++ v.words ++ cls))) ++ ws.drop (1 + a.2 + b.2 + e.2) := by
        have em : mid = cls ++ opn := rfl
        rw [em]
        simp only [List.append_assoc, List.cons_append]
theorem encs_cons' {s : St} {b : Sts} : (Sts.cons s b).encs = s.enc :: b.encs := by rw [Sts.encs]
theorem words_cons' {s : St} {b : Sts} : (Sts.cons s b).words = s.words ++ b.words := by rw [Sts.words]
theorem bd_sound {n m : Nat} : ∀ {f : Nat}, BSound (lbdF n m f)
  | 0, _, _, _, h => by cases h
  | f + 1, ws, l, k, h => by
    unfold lbdF at h
    split at h
    · rename_i c
      obtain ⟨a, ea, h⟩ := o2_inv h
      obtain ⟨r, er, h⟩ := o2_inv h
      obtain ⟨s, s1, s2, s3, s4⟩ := st_sound bd_sound c (d := a.1) (k := a.2) ea
      obtain ⟨b, b1, b2, b3, b4⟩ := bd_sound (f := f) _ r.1 r.2 er
      obtain ⟨e1, e2⟩ := Prod.mk.inj (Option.some.inj (Option.some.inj h))
      subst e1 e2
      rw [List.drop_drop] at b4
      refine ⟨.cons s b, by unfold Sts.low; exact ⟨s1, b1⟩, by rw [s2, b2, encs_cons'], by rw [s3, b3, words_cons', List.length_append], ?_⟩
      rw [words_cons']
      calc ws = s.words ++ ws.drop a.2 := s4
        _ = s.words ++ (b.words ++ ws.drop (a.2 + r.2)) := by rw [← b4]
        _ = (s.words ++ b.words) ++ ws.drop (a.2 + r.2) := by rw [List.append_assoc]
    · obtain ⟨e1, e2⟩ := Prod.mk.inj (Option.some.inj (Option.some.inj h))
      subst e1 e2
      exact ⟨.nil, by unfold Sts.low; trivial, by unfold Sts.encs; rfl, by unfold Sts.words; rfl, by unfold Sts.words; rfl⟩
/-- a line, as it is written -/
noncomputable def IsLine (ws : List Str) (d : PyData) : Prop := ∃ wk : Wk, wk.params < 100 ∧ wk.owns < 100 ∧ wk.body.low ∧ wk.words = ws ∧ wk.enc = d
theorem ll_sound {n m f : Nat} {ws : List Str} {d : PyData} (h : llF n m f ws = some (some d)) : IsLine ws d := by
  unfold llF at h
  split at h
  · rename_i p o ep eo
    obtain ⟨p1, p2⟩ := fig_cons ep
    obtain ⟨o1, o2'⟩ := fig_cons eo
    obtain ⟨a, ea, h⟩ := o2_inv h
    obtain ⟨b, b1, b2, b3, b4⟩ := bd_sound _ a.1 a.2 ea
    split at h
    · rename_i c
      have e := Option.some.inj (Option.some.inj h)
      subst e
      rw [List.drop_drop] at o2' b4
      refine ⟨⟨p, o, b⟩, p1, o1, b1, ?_, by unfold Wk.enc; rw [b2]⟩
      unfold Wk.words
      have e0 : ws.drop (2 + a.2) = [] := by rw [c, List.drop_length]
      rw [e0, List.append_nil] at b4
      rw [← b4]
      calc [nW p, nW o] ++ ws.drop 2 = nW p :: (nW o :: ws.drop 2) := rfl
        _ = nW p :: ws.drop 1 := by rw [← o2']
        _ = ws := p2.symm
    · cases h
  · cases h
end Hw
namespace Hw
open PySem PySem.Spec PyProof.Rows L2
theorem nW_fig {k : Nat} (h : k < 100) {w : Str} (f : figOf w = none) : ¬ nW k = w := fun z => by
  have := figOf_nW h
  rw [z, f] at this
  cases this
theorem hd_app {w : Str} {r : List Str} : hdW (w :: r) = w := rfl
theorem th_pos : ∀ t : Th, 1 ≤ t.words.length
  | .num _ => Nat.le_refl _
  | .own _ => by show 1 ≤ 2; omega
  | .par _ => by show 1 ≤ 2; omega
  | .cell t => by show 1 ≤ t.words.length + 1; omega
  | .sum a b => by show 1 ≤ (a.words ++ b.words).length + 1; omega
/-- things are read -/
theorem th_comp : ∀ {t : Th} {n : Nat} {r : List Str}, t.low → t.words.length < n → lthF n (t.words ++ r) = some (some (t.enc, t.words.length))
  | t, 0, r, _, h => absurd h (by omega)
  | .num k, n + 1, r, low, _ => by
    have low' : k < 100 := low
    show (if nW k = "own" ∨ nW k = "par" then _ else if ¬ (nW k = "+" ∨ nW k = "cell") then some ((figOf (nW k)).map fun (k : Nat) => ((.tuple [.str "num", .int (k : Int)] : PyData), 1)) else _) = _
    rw [if_neg (fun z => z.elim (nW_fig low' (fig_no (by decide +kernel))) (nW_fig low' (fig_no (by decide +kernel)))), if_pos (fun z => z.elim (nW_fig low' (fig_no (by decide +kernel))) (nW_fig low' (fig_no (by decide +kernel)))), figOf_nW low']
    rfl
  | .own k, n + 1, r, low, _ => by
    have low' : k < 100 := low
    show (if ("own" : Str) = "own" ∨ ("own" : Str) = "par" then some ((figOf (nW k)).map fun (k : Nat) => ((.tuple [.str "own", .int (k : Int)] : PyData), 2)) else _) = _
    rw [if_pos (.inl rfl), figOf_nW low']
    rfl
  | .par k, n + 1, r, low, _ => by
    have low' : k < 100 := low
    show (if ("par" : Str) = "own" ∨ ("par" : Str) = "par" then some ((figOf (nW k)).map fun (k : Nat) => ((.tuple [.str "par", .int (k : Int)] : PyData), 2)) else _) = _
    rw [if_pos (.inr rfl), figOf_nW low']
    rfl
  | .cell t, n + 1, r, low, h => by
    have h' : t.words.length + 1 < n + 1 := h
    have ih := th_comp (t := t) (n := n) (r := r) low (by omega)
    show (if ("cell" : Str) = "own" ∨ ("cell" : Str) = "par" then _ else if ¬ (("cell" : Str) = "+" ∨ ("cell" : Str) = "cell") then _ else o2 (lthF n (t.words ++ r)) fun a => if ("cell" : Str) = "cell" then some (some ((PyData.tuple [.str "cell", a.1] : PyData), 1 + a.2)) else o2 (lthF n ((("cell" : Str) :: (t.words ++ r)).drop (1 + a.2))) fun b => some (some (PyData.tuple [.str "sum", a.1, b.1], 1 + a.2 + b.2))) = _
    rw [if_neg (by decide +kernel), if_neg (by decide +kernel), ih]
    show (if ("cell" : Str) = "cell" then some (some ((PyData.tuple [.str "cell", t.enc] : PyData), 1 + t.words.length)) else (o2 (lthF n ((("cell" : Str) :: (t.words ++ r)).drop (1 + t.words.length))) fun b => some (some (PyData.tuple [.str "sum", t.enc, b.1], 1 + t.words.length + b.2)))) = some (some (PyData.tuple [.str "cell", t.enc], t.words.length + 1))
    rw [if_pos rfl, Nat.add_comm]
  | .sum a b, n + 1, r, low, h => by
    have h' : (a.words ++ b.words).length + 1 < n + 1 := h
    rw [List.length_append] at h'
    have ia := th_comp (t := a) (n := n) (r := b.words ++ r) low.1 (by omega)
    have ib := th_comp (t := b) (n := n) (r := r) low.2 (by omega)
    have e : (Th.sum a b).words ++ r = ("+" : Str) :: (a.words ++ (b.words ++ r)) := by
      show (("+" : Str) :: (a.words ++ b.words)) ++ r = _
      rw [List.cons_append, List.append_assoc]
    rw [e]
    show (if ("+" : Str) = "own" ∨ ("+" : Str) = "par" then _ else if ¬ (("+" : Str) = "+" ∨ ("+" : Str) = "cell") then _ else o2 (lthF n (a.words ++ (b.words ++ r))) fun x => if ("+" : Str) = "cell" then _ else o2 (lthF n ((("+" : Str) :: (a.words ++ (b.words ++ r))).drop (1 + x.2))) fun y => some (some (PyData.tuple [.str "sum", x.1, y.1], 1 + x.2 + y.2))) = _
    rw [if_neg (by decide +kernel), if_neg (by decide +kernel), ia]
    show (if ("+" : Str) = "cell" then some (some (PyData.tuple [.str "cell", a.enc], 1 + a.words.length)) else o2 (lthF n ((("+" : Str) :: (a.words ++ (b.words ++ r))).drop (1 + a.words.length))) fun y => some (some (PyData.tuple [.str "sum", a.enc, y.1], 1 + a.words.length + y.2))) = _
    have ed : (("+" : Str) :: (a.words ++ (b.words ++ r))).drop (1 + a.words.length) = b.words ++ r := by
      rw [Nat.add_comm, List.drop_succ_cons, List.drop_left]
    rw [if_neg (by decide +kernel), ed, ib]
    show some (some (PyData.tuple [.str "sum", a.enc, b.enc], 1 + a.words.length + b.words.length)) = some (some (PyData.tuple [.str "sum", a.enc, b.enc], (a.words ++ b.words).length + 1))
    rw [List.length_append, show 1 + a.words.length + b.words.length = a.words.length + b.words.length + 1 by omega]
theorem th_head {t : Th} {r : List Str} (low : t.low) {w : Str} (f : figOf w = none) (n1 : w ≠ "own") (n2 : w ≠ "par") (n3 : w ≠ "cell") (n4 : w ≠ "+") : ¬ hdW (t.words ++ r) = w := by
  cases t with
  | num k => exact nW_fig (show k < 100 from low) f
  | own k => exact fun z => n1 z.symm
  | par k => exact fun z => n2 z.symm
  | cell t => exact fun z => n3 z.symm
  | sum a b => exact fun z => n4 z.symm
theorem ths_comp {n : Nat} : ∀ {ts : List Th} {m : Nat} {r : List Str}, (∀ t ∈ ts, t.low) → (wordsOf ts).length < n → (wordsOf ts).length < m → ltsF n m (wordsOf ts ++ (dot ++ r)) = some (some (ts.map Th.enc, (wordsOf ts ++ dot).length))
  | _, 0, r, _, _, h => absurd h (by omega)
  | [], m + 1, r, _, _, _ => by
    show (if ("." : Str) = "." then _ else _) = _
    rw [if_pos rfl]
    rfl
  | t :: ts, m + 1, r, low, hn, hm => by
    have ew : wordsOf (t :: ts) = t.words ++ wordsOf ts := rfl
    rw [ew, List.length_append] at hn hm
    have tp := th_pos t
    have lt := low t List.mem_cons_self
    have it := th_comp (t := t) (n := n) (r := wordsOf ts ++ (dot ++ r)) lt (by omega)
    have ih := ths_comp (n := n) (ts := ts) (m := m) (r := r) (fun u hu => low u (List.mem_cons_of_mem _ hu)) (by omega) (by omega)
    have e : wordsOf (t :: ts) ++ (dot ++ r) = t.words ++ (wordsOf ts ++ (dot ++ r)) := by rw [ew, List.append_assoc]
    rw [e]
    unfold ltsF
    rw [if_neg (th_head lt (fig_no (by decide +kernel)) (by decide +kernel) (by decide +kernel) (by decide +kernel) (by decide +kernel)), it]
    show o2 (ltsF n m ((t.words ++ (wordsOf ts ++ (dot ++ r))).drop t.words.length)) (fun l => some (some (t.enc :: l.1, t.words.length + l.2))) = _
    rw [List.drop_left, ih, ew]
    show some (some (t.enc :: ts.map Th.enc, t.words.length + (wordsOf ts ++ dot).length)) = some (some ((t :: ts).map Th.enc, ((t.words ++ wordsOf ts) ++ dot).length))
    rw [List.append_assoc, List.length_append (as := t.words)]
    rfl
noncomputable def BComp (N : Nat) (body : List Str → O2 (List PyData × Nat)) : Prop := ∀ (b : Sts) (r : List Str), b.low → b.words.length < N → ¬ hdW r ∈ fourW → body (b.words ++ r) = some (some (b.encs, b.words.length))
theorem bp_comp {N : Nat} {body : List Str → O2 (List PyData × Nat)} (B : BComp N body) {b : Sts} {r : List Str} (low : b.low) (h : b.words.length < N) : lbpF body ((opn ++ b.words ++ cls) ++ r) = some (some (.tuple b.encs, (opn ++ b.words ++ cls).length)) := by
  have e : (opn ++ b.words ++ cls) ++ r = ("(" : Str) :: (b.words ++ ((")" : Str) :: r)) := by simp only [List.append_assoc]; rfl
  rw [e]
  unfold lbpF
  have ib := B b ((")" : Str) :: r) low h (by show ¬ (")" : Str) ∈ fourW; decide +kernel)
  rw [if_pos (show hdW (("(" : Str) :: (b.words ++ ((")" : Str) :: r))) = "(" from rfl)]
  show o2 (body (b.words ++ ((")" : Str) :: r))) _ = _
  rw [ib]
  show (if hdW ((("(" : Str) :: (b.words ++ ((")" : Str) :: r))).drop (1 + b.words.length)) = ")" then some (some (PyData.tuple b.encs, 1 + b.words.length + 1)) else _) = _
  have ed : (("(" : Str) :: (b.words ++ ((")" : Str) :: r))).drop (1 + b.words.length) = (")" : Str) :: r := by rw [Nat.add_comm, List.drop_succ_cons, List.drop_left]
  rw [ed, if_pos (show hdW ((")" : Str) :: r) = ")" from rfl)]
  have el : (opn ++ b.words ++ cls).length = 1 + b.words.length + 1 := by simp only [List.length_append, List.length_cons, List.length_nil]
  rw [el]
theorem bd_comp {N : Nat} : ∀ {f : Nat}, BComp (min f N) (lbdF N N f)
  | 0, b, r, _, h, _ => absurd h (by rw [Nat.zero_min]; omega)
  | f + 1, .nil, r, _, _, hr => by
    have e : Sts.nil.words ++ r = r := by unfold Sts.words; rfl
    rw [e]
    unfold lbdF
    rw [if_neg hr]
    unfold Sts.encs Sts.words
    rfl
  | f + 1, .cons s b, r, low, h, hr => by
    have B : BComp (min f N) (lbdF N N f) := bd_comp (f := f)
    have low' : s.low ∧ b.low := by unfold Sts.low at low; exact low
    rw [words_cons', List.length_append] at h
    have sp : 1 ≤ s.words.length := by
      cases s <;> (unfold St.words; simp only [List.length_append, List.length_cons, List.length_nil]; omega)
    have hf : s.words.length + b.words.length < f + 1 := Nat.lt_of_lt_of_le h (Nat.min_le_left _ _)
    have hN : s.words.length + b.words.length < N := Nat.lt_of_lt_of_le h (Nat.min_le_right _ _)
    have ib := B b r low'.2 (by omega) hr
    have e : (Sts.cons s b).words ++ r = s.words ++ (b.words ++ r) := by rw [words_cons', List.append_assoc]
    have st : hdW (s.words ++ (b.words ++ r)) ∈ fourW ∧ lstF N N (lbdF N N f) (s.words ++ (b.words ++ r)) = some (some (s.enc, s.words.length)) := by
      generalize b.words ++ r = q
      cases s with
      | set p t =>
        have low1 : p.low ∧ t.low := by have := low'.1; unfold St.low at this; exact this
        have lw : (St.set p t).words.length = 1 + (p.words.length + t.words.length) := by unfold St.words; rw [List.length_cons, List.length_append]; omega
        have ew : (St.set p t).words ++ q = ("set" : Str) :: (p.words ++ (t.words ++ q)) := by unfold St.words; rw [List.cons_append, List.append_assoc]
        rw [ew]
        refine ⟨by show ("set" : Str) ∈ fourW; decide +kernel, ?_⟩
        unfold lstF
        rw [hd_app, if_neg (show ¬ ("set" : Str) = "call" by decide +kernel), if_pos (show ("set" : Str) = "set" from rfl)]
        show o2 (lthF N (p.words ++ (t.words ++ q))) _ = _
        rw [th_comp low1.1 (by omega)]
        show o2 (lthF N ((("set" : Str) :: (p.words ++ (t.words ++ q))).drop (1 + p.words.length))) _ = _
        rw [show (("set" : Str) :: (p.words ++ (t.words ++ q))).drop (1 + p.words.length) = t.words ++ q by rw [Nat.add_comm, List.drop_succ_cons, List.drop_left], th_comp low1.2 (by omega)]
        show some (some (PyData.tuple [.str "set", p.enc, t.enc], 1 + p.words.length + t.words.length)) = _
        rw [lw, Nat.add_assoc]
        unfold St.enc
        rfl
      | say t =>
        have low1 : t.low := by have := low'.1; unfold St.low at this; exact this
        have lw : (St.say t).words.length = 1 + t.words.length := by unfold St.words; rw [List.length_cons]; omega
        have ew : (St.say t).words ++ q = ("say" : Str) :: (t.words ++ q) := by unfold St.words; rfl
        rw [ew]
        refine ⟨by show ("say" : Str) ∈ fourW; decide +kernel, ?_⟩
        unfold lstF
        rw [hd_app, if_neg (show ¬ ("say" : Str) = "call" by decide +kernel), if_neg (show ¬ ("say" : Str) = "set" by decide +kernel), if_pos (show ("say" : Str) = "say" from rfl)]
        show o2 (lthF N (t.words ++ q)) _ = _
        rw [th_comp low1 (by omega)]
        show some (some (PyData.tuple [.str "say", t.enc], 1 + t.words.length)) = _
        rw [lw]
        unfold St.enc
        rfl
      | ite t x y =>
        have low1 : t.low ∧ x.low ∧ y.low := by have := low'.1; unfold St.low at this; exact this
        have em : mid = cls ++ opn := rfl
        have ew : (St.ite t x y).words ++ q = ("if" : Str) :: (t.words ++ ((opn ++ x.words ++ cls) ++ ((opn ++ y.words ++ cls) ++ q))) := by
          unfold St.words
          rw [em]
          simp only [List.append_assoc, List.cons_append]
        have lw : (St.ite t x y).words.length = 1 + t.words.length + (opn ++ x.words ++ cls).length + (opn ++ y.words ++ cls).length := by unfold St.words; simp only [List.length_append, List.length_cons, List.length_nil]; omega
        have lo : ∀ z : List Str, (opn ++ z ++ cls).length = z.length + 2 := fun z => by simp only [List.length_append, List.length_cons, List.length_nil]; omega
        have l1 := lo x.words
        have l2 := lo y.words
        rw [ew]
        refine ⟨by show ("if" : Str) ∈ fourW; decide +kernel, ?_⟩
        unfold lstF
        rw [hd_app, if_neg (show ¬ ("if" : Str) = "call" by decide +kernel), if_neg (show ¬ ("if" : Str) = "set" by decide +kernel), if_neg (show ¬ ("if" : Str) = "say" by decide +kernel)]
        show o2 (lthF N (t.words ++ ((opn ++ x.words ++ cls) ++ ((opn ++ y.words ++ cls) ++ q)))) _ = _
        rw [th_comp low1.1 (by omega)]
        show o2 (lbpF (lbdF N N f) ((("if" : Str) :: (t.words ++ ((opn ++ x.words ++ cls) ++ ((opn ++ y.words ++ cls) ++ q)))).drop (1 + t.words.length))) _ = _
        rw [show (("if" : Str) :: (t.words ++ ((opn ++ x.words ++ cls) ++ ((opn ++ y.words ++ cls) ++ q)))).drop (1 + t.words.length) = (opn ++ x.words ++ cls) ++ ((opn ++ y.words ++ cls) ++ q) by rw [Nat.add_comm, List.drop_succ_cons, List.drop_left],
          bp_comp B low1.2.1 (by rw [Nat.lt_min]; omega)]
        show o2 (lbpF (lbdF N N f) ((("if" : Str) :: (t.words ++ ((opn ++ x.words ++ cls) ++ ((opn ++ y.words ++ cls) ++ q)))).drop (1 + t.words.length + (opn ++ x.words ++ cls).length))) _ = _
        rw [show (("if" : Str) :: (t.words ++ ((opn ++ x.words ++ cls) ++ ((opn ++ y.words ++ cls) ++ q)))).drop (1 + t.words.length + (opn ++ x.words ++ cls).length) = (opn ++ y.words ++ cls) ++ q by
          rw [show 1 + t.words.length + (opn ++ x.words ++ cls).length = (t.words.length + (opn ++ x.words ++ cls).length) + 1 by omega, List.drop_succ_cons, ← List.drop_drop, List.drop_left, List.drop_left],
          bp_comp B low1.2.2 (by rw [Nat.lt_min]; omega)]
        show some (some (PyData.tuple [.str "if", t.enc, .tuple x.encs, .tuple y.encs], 1 + t.words.length + (opn ++ x.words ++ cls).length + (opn ++ y.words ++ cls).length)) = _
        rw [lw]
        unfold St.enc
        rfl
      | call k ts =>
        have low1 : k < 100 ∧ ∀ t ∈ ts, t.low := by have := low'.1; unfold St.low at this; exact this
        have ew : (St.call k ts).words ++ q = ("call" : Str) :: (nW k :: (wordsOf ts ++ (dot ++ q))) := by unfold St.words; simp only [List.append_assoc]; rfl
        have lw : (St.call k ts).words.length = 2 + (wordsOf ts ++ dot).length := by unfold St.words; simp only [List.length_append, List.length_cons, List.length_nil]; omega
        have ld : (wordsOf ts ++ dot).length = (wordsOf ts).length + 1 := by rw [List.length_append]; rfl
        rw [ew]
        refine ⟨by show ("call" : Str) ∈ fourW; decide +kernel, ?_⟩
        unfold lstF
        rw [hd_app, if_pos (show ("call" : Str) = "call" from rfl)]
        show (match figOf (nW k) with | none => some none | some c => o2 (ltsF N N (wordsOf ts ++ (dot ++ q))) fun l => some (some (PyData.tuple [.str "call", .int (c : Int), .tuple l.1], 2 + l.2))) = _
        rw [figOf_nW low1.1]
        show o2 (ltsF N N (wordsOf ts ++ (dot ++ q))) _ = _
        rw [ths_comp low1.2 (by omega) (by omega)]
        show some (some (PyData.tuple [.str "call", .int (k : Int), .tuple (ts.map Th.enc)], 2 + (wordsOf ts ++ dot).length)) = _
        rw [lw]
        unfold St.enc
        rfl
    rw [e]
    show (if hdW (s.words ++ (b.words ++ r)) ∈ fourW then o2 (lstF N N (lbdF N N f) (s.words ++ (b.words ++ r))) (fun s' => o2 (lbdF N N f ((s.words ++ (b.words ++ r)).drop s'.2)) fun l => some (some (s'.1 :: l.1, s'.2 + l.2))) else some (some ([], 0))) = _
    rw [if_pos st.1, st.2]
    show o2 (lbdF N N f ((s.words ++ (b.words ++ r)).drop s.words.length)) (fun l => some (some (s.enc :: l.1, s.words.length + l.2))) = _
    rw [List.drop_left, ib, encs_cons', words_cons', List.length_append]
    rfl
theorem ll_comp {ws : List Str} {d : PyData} (h : IsLine ws d) : llF (ws.length + 1) (ws.length + 1) (ws.length + 1) ws = some (some d) := by
  obtain ⟨⟨p, o, b⟩, h1, h2, h3, rfl, rfl⟩ := h
  have h1' : p < 100 := h1
  have h2' : o < 100 := h2
  have h3' : b.low := h3
  have ew : (Wk.words ⟨p, o, b⟩) = nW p :: (nW o :: b.words) := by unfold Wk.words; rfl
  have lw : (Wk.words ⟨p, o, b⟩).length = b.words.length + 2 := by rw [ew, List.length_cons, List.length_cons]
  generalize hN : (Wk.words ⟨p, o, b⟩).length + 1 = N
  unfold llF
  rw [ew]
  show (match figOf (nW p), figOf (nW o) with | some p, some o => o2 (lbdF N N N b.words) (fun l => if 2 + l.2 = (nW p :: (nW o :: b.words)).length then _ else _) | _, _ => _) = _
  rw [figOf_nW h1', figOf_nW h2']
  have := bd_comp (N := N) (f := N) b [] h3' (by rw [Nat.min_self]; omega) (by show ¬ ("" : Str) ∈ fourW; decide +kernel)
  rw [List.append_nil] at this
  show o2 (lbdF N N N b.words) _ = _
  rw [this]
  show (if 2 + b.words.length = (nW p :: (nW o :: b.words)).length then some (some (PyData.tuple [.int (p : Int), .int (o : Int), .tuple b.encs])) else some none) = _
  rw [if_pos (by rw [List.length_cons, List.length_cons]; omega)]
  unfold Wk.enc
  rfl
end Hw
namespace Hw
open PySem PySem.Spec PyProof.Rows L2
noncomputable def OLe {α : Type} (x y : O2 α) : Prop := x = none ∨ x = y
theorem OLe.refl {α : Type} {x : O2 α} : OLe x x := .inr rfl
theorem OLe.trans {α : Type} {x y z : O2 α} (a : OLe x y) (b : OLe y z) : OLe x z := by
  rcases a with a | a
  · exact .inl a
  · rw [a]; exact b
theorem OLe.at_ {α : Type} {x y : O2 α} {r : Option α} (a : OLe x y) (h : x = some r) : y = some r := by
  rcases a with a | a
  · rw [a] at h; cases h
  · rw [← a]; exact h
theorem OLe.o2 {α β : Type} {x y : O2 α} {f g : α → O2 β} (a : OLe x y) (b : ∀ z, OLe (f z) (g z)) : OLe (o2 x f) (o2 y g) := by
  rcases a with a | a
  · rw [a]; exact .inl rfl
  · rw [a]
    match y with
    | none => exact .inl rfl
    | some none => exact .inr rfl
    | some (some z) => exact b z
theorem th_up : ∀ {n n' : Nat} {ws : List Str}, n ≤ n' → OLe (lthF n ws) (lthF n' ws)
  | 0, _, _, _ => .inl rfl
  | n + 1, 0, _, h => absurd h (by omega)
  | n + 1, n' + 1, ws, h => by
    have ih : ∀ ws, OLe (lthF n ws) (lthF n' ws) := fun ws => th_up (by omega)
    unfold lthF
    split
    · exact .refl
    split
    · exact .refl
    · refine (ih _).o2 fun a => ?_
      split
      · exact .refl
      · exact (ih _).o2 fun b => .refl
theorem ths_up {n n' : Nat} (hn : n ≤ n') : ∀ {m m' : Nat} {ws : List Str}, m ≤ m' → OLe (ltsF n m ws) (ltsF n' m' ws)
  | 0, _, _, _ => .inl rfl
  | m + 1, 0, _, h => absurd h (by omega)
  | m + 1, m' + 1, ws, h => by
    unfold ltsF
    split
    · exact .refl
    · exact (th_up hn).o2 fun a => (ths_up hn (by omega)).o2 fun l => .refl
theorem bp_up {b b' : List Str → O2 (List PyData × Nat)} (h : ∀ ws, OLe (b ws) (b' ws)) {ws : List Str} : OLe (lbpF b ws) (lbpF b' ws) := by
  unfold lbpF
  split
  · refine (h _).o2 fun l => ?_
    exact .refl
  · exact .refl
theorem st_up {n n' m m' : Nat} (hn : n ≤ n') (hm : m ≤ m') {b b' : List Str → O2 (List PyData × Nat)} (h : ∀ ws, OLe (b ws) (b' ws)) {ws : List Str} : OLe (lstF n m b ws) (lstF n' m' b' ws) := by
  unfold lstF
  split
  · split
    · exact .refl
    · exact (ths_up hn hm).o2 fun l => .refl
  split
  · exact (th_up hn).o2 fun a => (th_up hn).o2 fun b => .refl
  split
  · exact (th_up hn).o2 fun a => .refl
  · exact (th_up hn).o2 fun a => (bp_up h).o2 fun b => (bp_up h).o2 fun c => .refl
theorem bd_up {n n' m m' : Nat} (hn : n ≤ n') (hm : m ≤ m') : ∀ {f f' : Nat} {ws : List Str}, f ≤ f' → OLe (lbdF n m f ws) (lbdF n' m' f' ws)
  | 0, _, _, _ => .inl rfl
  | f + 1, 0, _, h => absurd h (by omega)
  | f + 1, f' + 1, ws, h => by
    have ih : ∀ ws, OLe (lbdF n m f ws) (lbdF n' m' f' ws) := fun ws => bd_up hn hm (by omega)
    unfold lbdF
    split
    · exact (st_up hn hm ih).o2 fun s => (ih _).o2 fun l => .refl
    · exact .refl
theorem ll_up {n n' m m' f f' : Nat} (hn : n ≤ n') (hm : m ≤ m') (hf : f ≤ f') {ws : List Str} : OLe (llF n m f ws) (llF n' m' f' ws) := by
  unfold llF
  split
  · exact (bd_up hn hm hf).o2 fun l => .refl
  · exact .refl
/-- what the law's reader tells of a line -/
theorem ll_iff {n m f : Nat} {ws : List Str} {r : Option PyData} (h : llF n m f ws = some r) (d : PyData) : r = some d ↔ IsLine ws d := by
  constructor
  · intro e
    rw [e] at h
    exact ll_sound h
  · intro l
    have a := ll_comp l
    have b := (ll_up (n' := n + (ws.length + 1)) (m' := m + (ws.length + 1)) (f' := f + (ws.length + 1)) (by omega) (by omega) (by omega) : OLe (llF n m f ws) _).at_ h
    have c := (ll_up (n' := n + (ws.length + 1)) (m' := m + (ws.length + 1)) (f' := f + (ws.length + 1)) (by omega) (by omega) (by omega) : OLe (llF (ws.length + 1) (ws.length + 1) (ws.length + 1) ws) _).at_ a
    rw [b] at c
    exact Option.some.inj c
/-- what an item stands for: these words -/
inductive ItW : Itm → List Str → Prop
  | num {k : Nat} : k < 100 → ItW (iN k) [nW k]
  | thg {t : Th} : t.low → ItW (iT t.enc) t.words
  | step {s : St} : s.low → ItW (iS s.enc) s.words
  | body {b : Sts} : b.low → ItW (iB (.tuple b.encs)) (opn ++ b.words ++ cls)
  | end_ {w : Str} : w = ")" ∨ w = "." → ItW (iE w) [w]
inductive ItWs : List Itm → List Str → Prop
  | nil : ItWs [] []
  | cons {x : Itm} {L : List Itm} {a b : List Str} : ItW x a → ItWs L b → ItWs (x :: L) (a ++ b)
/-- an item that is taken as a thing -/
theorem it_thing {x : Itm} {a : List Str} (h : ItW x a) (k : isKind x "thing" = true) : ∃ t : Th, t.low ∧ toldAs x "thing" = t.enc ∧ a = t.words := by
  cases h with
  | @num n hn => exact ⟨.num n, hn, if_pos ⟨rfl, rfl⟩, rfl⟩
  | @thg t ht => exact ⟨t, ht, if_neg fun z => absurd (show ("thing" : Str) = "number" from z.1) (by decide +kernel), rfl⟩
  | @step s hs => exact absurd k (by show ¬ (decide (("step" : Str) = "thing") || (decide (("step" : Str) = "number") && decide (("thing" : Str) = "thing"))) = true; decide +kernel)
  | @body b hb => exact absurd k (by show ¬ (decide (("body" : Str) = "thing") || (decide (("body" : Str) = "number") && decide (("thing" : Str) = "thing"))) = true; decide +kernel)
  | @end_ w hw =>
    rcases hw with rfl | rfl
    · exact absurd k (by show ¬ (decide ((")" : Str) = "thing") || (decide ((")" : Str) = "number") && decide (("thing" : Str) = "thing"))) = true; decide +kernel)
    · exact absurd k (by show ¬ (decide (("." : Str) = "thing") || (decide (("." : Str) = "number") && decide (("thing" : Str) = "thing"))) = true; decide +kernel)
theorem kind_no {x : Itm} {k : Str} (h : isKind x k = true) (n : k ≠ "thing") : x.1 = k := by
  unfold isKind at h
  rw [Bool.or_eq_true, Bool.and_eq_true, decide_eq_true_eq, decide_eq_true_eq, decide_eq_true_eq] at h
  rcases h with h | h
  · exact h
  · exact absurd h.2 n
theorem it_num {x : Itm} {a : List Str} (h : ItW x a) (k : isKind x "number" = true) : ∃ n : Nat, n < 100 ∧ toldAs x "number" = .int (n : Int) ∧ a = [nW n] := by
  have e := kind_no k (by decide +kernel)
  cases h with
  | @num n hn => exact ⟨n, hn, told_self (by decide +kernel), rfl⟩
  | thg _ => exact absurd (show ("thing" : Str) = "number" from e) (by decide +kernel)
  | step _ => exact absurd (show ("step" : Str) = "number" from e) (by decide +kernel)
  | body _ => exact absurd (show ("body" : Str) = "number" from e) (by decide +kernel)
  | @end_ w hw =>
    have e' : w = "number" := e
    rcases hw with rfl | rfl <;> exact absurd e' (by decide +kernel)
theorem it_step {x : Itm} {a : List Str} (h : ItW x a) (k : isKind x "step" = true) : ∃ s : St, s.low ∧ toldAs x "step" = s.enc ∧ a = s.words := by
  have e := kind_no k (by decide +kernel)
  cases h with
  | num _ => exact absurd (show ("number" : Str) = "step" from e) (by decide +kernel)
  | thg _ => exact absurd (show ("thing" : Str) = "step" from e) (by decide +kernel)
  | @step s hs => exact ⟨s, hs, told_self (by decide +kernel), rfl⟩
  | body _ => exact absurd (show ("body" : Str) = "step" from e) (by decide +kernel)
  | @end_ w hw =>
    have e' : w = "step" := e
    rcases hw with rfl | rfl <;> exact absurd e' (by decide +kernel)
theorem it_body {x : Itm} {a : List Str} (h : ItW x a) (k : isKind x "body" = true) : ∃ b : Sts, b.low ∧ toldAs x "body" = .tuple b.encs ∧ a = opn ++ b.words ++ cls := by
  have e := kind_no k (by decide +kernel)
  cases h with
  | num _ => exact absurd (show ("number" : Str) = "body" from e) (by decide +kernel)
  | thg _ => exact absurd (show ("thing" : Str) = "body" from e) (by decide +kernel)
  | step _ => exact absurd (show ("step" : Str) = "body" from e) (by decide +kernel)
  | @body b hb => exact ⟨b, hb, told_self (by decide +kernel), rfl⟩
  | @end_ w hw =>
    have e' : w = "body" := e
    rcases hw with rfl | rfl <;> exact absurd e' (by decide +kernel)
theorem it_end {x : Itm} {a : List Str} {w : Str} (h : ItW x a) (hw : w = ")" ∨ w = ".") (k : isKind x w = true) : a = [w] := by
  have e := kind_no k (by rcases hw with rfl | rfl <;> decide +kernel)
  cases h with
  | num _ => rcases hw with rfl | rfl <;> exact absurd (show ("number" : Str) = _ from e) (by decide +kernel)
  | thg _ => rcases hw with rfl | rfl <;> exact absurd (show ("thing" : Str) = _ from e) (by decide +kernel)
  | step _ => rcases hw with rfl | rfl <;> exact absurd (show ("step" : Str) = _ from e) (by decide +kernel)
  | body _ => rcases hw with rfl | rfl <;> exact absurd (show ("body" : Str) = _ from e) (by decide +kernel)
  | @end_ v hv =>
    have e' : v = w := e
    rw [e']
theorem takeK_cons {k : Str} {ks : List Str} {L : List Itm} {r : List PyData × List Itm} (h : takeK (k :: ks) L = some r) : ∃ x L' r', L = x :: L' ∧ isKind x k = true ∧ takeK ks L' = some r' ∧ r = (toldAs x k :: r'.1, r'.2) := by
  cases L with
  | nil => cases h
  | cons x L' =>
    have h' : (if isKind x k = true then (takeK ks L').map fun r => (toldAs x k :: r.1, r.2) else none) = some r := h
    split at h'
    · rename_i c
      obtain ⟨r', e, rfl⟩ := Option.map_eq_some_iff.mp h'
      exact ⟨x, L', r', rfl, c, e, rfl⟩
    · cases h'
theorem all_things : ∀ {L : List Itm} {ws : List Str}, ItWs L ws → ∃ (ts : List Th) (b : List Str), (∀ t ∈ ts, t.low) ∧ (takeAll "thing" L).1 = ts.map Th.enc ∧ ItWs (takeAll "thing" L).2 b ∧ ws = wordsOf ts ++ b
  | [], _, h => by cases h; exact ⟨[], [], (fun t z => by cases z), rfl, .nil, rfl⟩
  | x :: L, _, h => by
    cases h with
    | @cons _ _ a b hx hL =>
      show ∃ (ts : List Th) (b' : List Str), _ ∧ (if isKind x "thing" = true then _ else _ : List PyData × List Itm).1 = _ ∧ ItWs (if isKind x "thing" = true then _ else _ : List PyData × List Itm).2 b' ∧ _
      by_cases c : isKind x "thing" = true
      · obtain ⟨t, t1, t2, t3⟩ := it_thing hx c
        obtain ⟨ts, b', s1, s2, s3, s4⟩ := all_things hL
        rw [if_pos c]
        refine ⟨t :: ts, b', fun u hu => ?_, by show toldAs x "thing" :: _ = _; rw [t2, s2]; rfl, s3, by rw [t3, s4]; show _ = (t.words ++ wordsOf ts) ++ b'; rw [List.append_assoc]⟩
        rcases List.mem_cons.mp hu with rfl | hu
        · exact t1
        · exact s1 u hu
      · rw [if_neg c]
        exact ⟨[], a ++ b, (fun t z => by cases z), rfl, .cons hx hL, rfl⟩
theorem all_steps : ∀ {L : List Itm} {ws : List Str}, ItWs L ws → ∃ (bd : Sts) (b : List Str), bd.low ∧ (takeAll "step" L).1 = bd.encs ∧ ItWs (takeAll "step" L).2 b ∧ ws = bd.words ++ b
  | [], _, h => by cases h; exact ⟨.nil, [], by unfold Sts.low; trivial, by unfold Sts.encs; rfl, .nil, by unfold Sts.words; rfl⟩
  | x :: L, _, h => by
    cases h with
    | @cons _ _ a b hx hL =>
      show ∃ (bd : Sts) (b' : List Str), _ ∧ (if isKind x "step" = true then _ else _ : List PyData × List Itm).1 = _ ∧ ItWs (if isKind x "step" = true then _ else _ : List PyData × List Itm).2 b' ∧ _
      by_cases c : isKind x "step" = true
      · obtain ⟨s, t1, t2, t3⟩ := it_step hx c
        obtain ⟨bd, b', s1, s2, s3, s4⟩ := all_steps hL
        rw [if_pos c]
        exact ⟨.cons s bd, b', by unfold Sts.low; exact ⟨t1, s1⟩, by show toldAs x "step" :: _ = _; rw [t2, s2, encs_cons'], s3, by rw [t3, s4, words_cons', List.append_assoc]⟩
      · rw [if_neg c]
        exact ⟨.nil, a ++ b, by unfold Sts.low; trivial, by unfold Sts.encs; rfl, .cons hx hL, by unfold Sts.words; rfl⟩
/-- a word is read: its item stands for it and what it took -/
theorem rdW_sound {w : Str} {L : List Itm} {ws : List Str} {r : Itm × List Itm} (h : rdW w L = some r) (hL : ItWs L ws) : ∃ a b, ItW r.1 a ∧ ItWs r.2 b ∧ w :: ws = a ++ b := by
  unfold rdW at h
  split at h
  · rename_i n f
    cases h
    obtain ⟨n1, rfl⟩ := figOf_some f
    exact ⟨[nW n], ws, .num n1, hL, rfl⟩
  split at h
  · rename_i c
    cases h
    exact ⟨[w], ws, .end_ c, hL, rfl⟩
  split at h
  · rename_i c
    obtain ⟨r', e, rfl⟩ := Option.map_eq_some_iff.mp h
    obtain ⟨bd, b, s1, s2, s3, s4⟩ := all_steps hL
    obtain ⟨x, L', r2, eL, k, e2, rfl⟩ := takeK_cons e
    cases e2
    rw [eL] at s3
    cases s3 with
    | @cons _ _ a2 b2 hx hL2 =>
      have := it_end hx (.inl rfl) k
      subst this
      refine ⟨opn ++ bd.words ++ cls, b2, by show ItW (iB (.tuple (takeAll "step" L).1)) _; rw [s2]; exact .body s1, hL2, ?_⟩
      rw [c, s4]
      simp only [List.append_assoc]
      rfl
  split at h
  · rename_i c
    split at h
    · cases h
    · rename_i ns L1 e1
      obtain ⟨r', e, rfl⟩ := Option.map_eq_some_iff.mp h
      obtain ⟨x, L', r2, eL, k, e2, er⟩ := takeK_cons e1
      cases e2
      obtain ⟨er1, er2⟩ := Prod.mk.inj er
      subst er1 er2
      rw [eL] at hL
      cases hL with
      | @cons _ _ a1 b1 hx hL1 =>
        obtain ⟨n, n1, n2, n3⟩ := it_num hx k
        subst n3
        obtain ⟨ts, b, s1, s2, s3, s4⟩ := all_things hL1
        obtain ⟨y, L2, r3, eL2, k2, e3, rfl⟩ := takeK_cons e
        cases e3
        rw [eL2] at s3
        cases s3 with
        | @cons _ _ a2 b2 hy hL2 =>
          have := it_end hy (.inr rfl) k2
          subst this
          refine ⟨(St.call n ts).words, b2, ?_, hL2, ?_⟩
          · have e : iS (.tuple [.str "call", ([toldAs x "number"] : List PyData).headD .none, .tuple (takeAll "thing" L1).1]) = iS (St.call n ts).enc := by
              rw [s2]
              show iS (.tuple [.str "call", toldAs x "number", .tuple (ts.map Th.enc)]) = _
              rw [n2]
              unfold St.enc
              rfl
            show ItW (iS (.tuple [.str "call", ([toldAs x "number"] : List PyData).headD .none, .tuple (takeAll "thing" L1).1])) _
            rw [e]
            exact .step (by unfold St.low; exact ⟨n1, s1⟩)
          · rw [c, s4]
            unfold St.words
            simp only [List.append_assoc]
            rfl
  · split at h
    · cases h
    · rename_i ks et
      obtain ⟨r', e, rfl⟩ := Option.map_eq_some_iff.mp h
      have two : ∀ {k1 k2 : Str} {ks' : List Str}, ks = k1 :: k2 :: ks' → ∃ x y L2 a1 a2 b r2, isKind x k1 = true ∧ isKind y k2 = true ∧ ItW x a1 ∧ ItW y a2 ∧ ItWs L2 b ∧ ws = a1 ++ (a2 ++ b) ∧ takeK ks' L2 = some r2 ∧ r' = (toldAs x k1 :: toldAs y k2 :: r2.1, r2.2) := fun {k1 k2 ks'} ek => by
        rw [ek] at e
        obtain ⟨x, L1, r1, rfl, c1, e1, rfl⟩ := takeK_cons e
        obtain ⟨y, L2, r2, rfl, c2, e2, rfl⟩ := takeK_cons e1
        cases hL with
        | @cons _ _ a1 b1 hx h1 =>
          cases h1 with
          | @cons _ _ a2 b2 hy h2 => exact ⟨x, y, L2, a1, a2, b2, r2, c1, c2, hx, hy, h2, rfl, e2, rfl⟩
      have one : ∀ {k1 : Str}, ks = [k1] → ∃ x L1 a1 b, isKind x k1 = true ∧ ItW x a1 ∧ ItWs L1 b ∧ ws = a1 ++ b ∧ r' = ([toldAs x k1], L1) := fun {k1} ek => by
        rw [ek] at e
        obtain ⟨x, L1, r1, rfl, c1, e1, rfl⟩ := takeK_cons e
        cases e1
        cases hL with
        | @cons _ _ a1 b1 hx h1 => exact ⟨x, L1, a1, b1, c1, hx, h1, rfl, rfl⟩
      unfold takesOf at et
      split at et
      · rename_i c
        subst c
        cases et
        obtain ⟨x, y, L2, a1, a2, b, r2, c1, c2, hx, hy, h2, rfl, e2, rfl⟩ := two rfl
        cases e2
        obtain ⟨t, t1, t2, rfl⟩ := it_thing hx c1
        obtain ⟨u, u1, u2, rfl⟩ := it_thing hy c2
        refine ⟨(Th.sum t u).words, b, ?_, ?_, by show _ = (("+" : Str) :: (t.words ++ u.words)) ++ b; rw [List.cons_append, List.append_assoc]⟩
        · have : ItW (iT (Th.sum t u).enc) (Th.sum t u).words := .thg ⟨t1, u1⟩
          rw [if_pos (by decide +kernel : isThing "+" = true), if_pos rfl, t2, u2]
          exact this
        · rw [if_pos (by decide +kernel : isThing "+" = true)]
          exact h2
      split at et
      · rename_i _ c
        subst c
        cases et
        obtain ⟨x, L1, a1, b, c1, hx, h1, rfl, rfl⟩ := one rfl
        obtain ⟨t, t1, t2, rfl⟩ := it_thing hx c1
        refine ⟨(Th.cell t).words, b, ?_, ?_, rfl⟩
        · have : ItW (iT (Th.cell t).enc) (Th.cell t).words := .thg t1
          rw [if_pos (by decide +kernel : isThing "cell" = true), if_neg (by decide +kernel), t2]
          exact this
        · rw [if_pos (by decide +kernel : isThing "cell" = true)]
          exact h1
      split at et
      · rename_i _ _ c
        subst c
        cases et
        obtain ⟨x, L1, a1, b, c1, hx, h1, rfl, rfl⟩ := one rfl
        obtain ⟨n, n1, n2, rfl⟩ := it_num hx c1
        refine ⟨(Th.own n).words, b, ?_, ?_, rfl⟩
        · have : ItW (iT (Th.own n).enc) (Th.own n).words := .thg n1
          rw [if_pos (by decide +kernel : isThing "own" = true), if_neg (by decide +kernel), n2]
          exact this
        · rw [if_pos (by decide +kernel : isThing "own" = true)]
          exact h1
      split at et
      · rename_i _ _ _ c
        subst c
        cases et
        obtain ⟨x, L1, a1, b, c1, hx, h1, rfl, rfl⟩ := one rfl
        obtain ⟨n, n1, n2, rfl⟩ := it_num hx c1
        refine ⟨(Th.par n).words, b, ?_, ?_, rfl⟩
        · have : ItW (iT (Th.par n).enc) (Th.par n).words := .thg n1
          rw [if_pos (by decide +kernel : isThing "par" = true), if_neg (by decide +kernel), n2]
          exact this
        · rw [if_pos (by decide +kernel : isThing "par" = true)]
          exact h1
      split at et
      · rename_i _ _ _ _ c
        subst c
        cases et
        obtain ⟨x, y, L2, a1, a2, b, r2, c1, c2, hx, hy, h2, rfl, e2, rfl⟩ := two rfl
        cases e2
        obtain ⟨t, t1, t2, rfl⟩ := it_thing hx c1
        obtain ⟨u, u1, u2, rfl⟩ := it_thing hy c2
        refine ⟨(St.set t u).words, b, ?_, ?_, by unfold St.words; rw [List.cons_append, List.append_assoc]⟩
        · have : ItW (iS (St.set t u).enc) (St.set t u).words := .step (by unfold St.low; exact ⟨t1, u1⟩)
          rw [if_neg (by decide +kernel : ¬ isThing "set" = true), t2, u2]
          unfold St.enc at this
          exact this
        · rw [if_neg (by decide +kernel : ¬ isThing "set" = true)]
          exact h2
      split at et
      · rename_i _ _ _ _ _ c
        subst c
        cases et
        obtain ⟨x, L1, a1, b, c1, hx, h1, rfl, rfl⟩ := one rfl
        obtain ⟨t, t1, t2, rfl⟩ := it_thing hx c1
        refine ⟨(St.say t).words, b, ?_, ?_, by unfold St.words; rfl⟩
        · have : ItW (iS (St.say t).enc) (St.say t).words := .step (by unfold St.low; exact t1)
          rw [if_neg (by decide +kernel : ¬ isThing "say" = true), t2]
          unfold St.enc at this
          exact this
        · rw [if_neg (by decide +kernel : ¬ isThing "say" = true)]
          exact h1
      split at et
      · rename_i _ _ _ _ _ _ c
        subst c
        cases et
        obtain ⟨x, y, L2, a1, a2, b, r2, c1, c2, hx, hy, h2, rfl, e2, rfl⟩ := two rfl
        obtain ⟨z, L3, r3, rfl, c3, e3, rfl⟩ := takeK_cons e2
        cases e3
        cases h2 with
        | @cons _ _ a3 b3 hz h3 =>
          obtain ⟨t, t1, t2, rfl⟩ := it_thing hx c1
          obtain ⟨u, u1, u2, rfl⟩ := it_body hy c2
          obtain ⟨v, v1, v2, rfl⟩ := it_body hz c3
          refine ⟨(St.ite t u v).words, b3, ?_, ?_, ?_⟩
          · have : ItW (iS (St.ite t u v).enc) (St.ite t u v).words := .step (by unfold St.low; exact ⟨t1, u1, v1⟩)
            rw [if_neg (by decide +kernel : ¬ isThing "if" = true), t2, u2, v2]
            unfold St.enc at this
            exact this
          · rw [if_neg (by decide +kernel : ¬ isThing "if" = true)]
            exact h3
          · have em : mid = cls ++ opn := rfl
            unfold St.words
            rw [em]
            simp only [List.append_assoc, List.cons_append]
      · cases et
theorem rdWs_sound : ∀ {rv : List Str} {L L' : List Itm} {ws : List Str}, rdWs rv L = some L' → ItWs L ws → ItWs L' (rv.reverse ++ ws)
  | [], L, L', ws, h, hL => by cases h; exact hL
  | w :: rv, L, L', ws, h, hL => by
    have h' : (rdW w L).bind (fun r => rdWs rv (r.1 :: r.2)) = some L' := h
    obtain ⟨r, e, h2⟩ := Option.bind_eq_some_iff.mp h'
    obtain ⟨a, b, ha, hb, eq⟩ := rdW_sound e hL
    have := rdWs_sound h2 (.cons ha hb)
    rw [List.reverse_cons, List.append_assoc]
    show ItWs L' (rv.reverse ++ (w :: ws))
    rw [eq]
    exact this
end Hw
namespace Hw
open PySem PySem.Spec PyProof.Rows L2
noncomputable def rEqE (K : PySem.W.Frag) : R2 := fun x y H Q => ∃ p q xs, x = .ref p ∧ y = .ref q ∧ ((SqL K H p xs ∧ SqL K H q []) ∨ (SqT K H p xs ∧ SqT K H q [])) ∧ Q (.bl xs.isEmpty) H
noncomputable def rNeE (K : PySem.W.Frag) : R2 := fun x y H Q => ∃ p q xs, x = .ref p ∧ y = .ref q ∧ SqL K H p xs ∧ SqL K H q [] ∧ Q (.bl (!xs.isEmpty)) H
section
variable {X : Cx}
theorem op_eqE (hu : X.A.units < cLine) : OpR X (compareOp .Eq) (rEqE X.K) := by
  intro pins s σ H x y v u Q I rx ry h
  obtain ⟨p, q, xs, rfl, rfl, h, qq⟩ := h
  cases rx
  cases ry
  rcases h with ⟨h1, h2⟩ | ⟨h1, h2⟩
  · obtain ⟨its, rv, hl, _⟩ := I.list h1
    obtain ⟨its2, rv2, hl2, _⟩ := I.list h2
    cases rv2
    cases rv with
    | nil => exact SeqAt.eq_listAt (e := fun _ => true) hl.isList hl2.isList rfl hu (fun j h1 => by simp at h1) ⟨.bl _, H, I, rfl, qq⟩
    | cons r1 r2 => exact SeqAt.eq_list_lengthsAt hl.isList hl2.isList (by simp) hu ⟨.bl _, H, I, rfl, qq⟩
  · obtain ⟨its, rv, hl, _⟩ := I.tuple h1
    obtain ⟨its2, rv2, hl2, _⟩ := I.tuple h2
    cases rv2
    cases rv with
    | nil => exact SeqAt.eq_tupleAt (e := fun _ => true) hl hl2 hu (fun j h1 => by simp at h1) ⟨.bl _, H, I, rfl, qq⟩
    | cons r1 r2 => exact SeqAt.eq_tupleAt (e := fun _ => true) hl hl2 hu (fun j h1 h2 => by simp at h2) ⟨.bl _, H, I, by show Value.bool _ = Value.bool _; simp, qq⟩
theorem op_neE (hu : X.A.units < cLine) : OpR X (compareOp .NotEq) (rNeE X.K) := by
  intro pins s σ H x y v u Q I rx ry h
  obtain ⟨p, q, xs, rfl, rfl, h1, h2, qq⟩ := h
  cases rx
  cases ry
  obtain ⟨its, rv, hl, _⟩ := I.list h1
  obtain ⟨its2, rv2, hl2, _⟩ := I.list h2
  cases rv2
  cases rv with
  | nil => exact SeqAt.RcNeAt.lists (e := fun _ => true) hl.isList hl2.isList rfl hu (fun j h1 => by simp at h1) _ _ _ _ ⟨.bl _, H, I, rfl, qq⟩
  | cons r1 r2 => exact SeqAt.RcNeAt.lists_lengths hl.isList hl2.isList (by simp) hu _ _ _ _ ⟨.bl _, H, I, rfl, qq⟩
theorem opEqE {K : PySem.W.Frag} (hu : X.A.units < cLine) (h : X.K = K := by rfl) : OpR X (compareOp .Eq) (rEqE K) := h ▸ op_eqE hu
theorem opNeE {K : PySem.W.Frag} (hu : X.A.units < cLine) (h : X.K = K := by rfl) : OpR X (compareOp .NotEq) (rNeE K) := h ▸ op_neE hu
end
section
variable {K : PySem.W.Frag} {H : Hp} {Q : VK} {p q : Addr} {xs : List V}
theorem r_eqEL (h : SqL K H p xs) (h2 : SqL K H q []) (g : Q (.bl xs.isEmpty) H) : rEqE K (.ref p) (.ref q) H Q := ⟨p, q, xs, rfl, rfl, .inl ⟨h, h2⟩, g⟩
theorem r_eqET (h : SqT K H p xs) (h2 : SqT K H q []) (g : Q (.bl xs.isEmpty) H) : rEqE K (.ref p) (.ref q) H Q := ⟨p, q, xs, rfl, rfl, .inr ⟨h, h2⟩, g⟩
theorem r_neE (h : SqL K H p xs) (h2 : SqL K H q []) (g : Q (.bl (!xs.isEmpty)) H) : rNeE K (.ref p) (.ref q) H Q := ⟨p, q, xs, rfl, rfl, h, h2, g⟩
end
end Hw
namespace Hw
open PySem PySem.Spec PyProof.Rows L2
/-- how many words «if» -/
noncomputable def ifs (ws : List Str) : Nat := ws.countP (fun x : Str => decide (x = "if"))
noncomputable def thsF (n : Nat) : Nat → List Str → O2 (List PyData × Nat)
  | 0, _ => some (some ([], 0))
  | k + 1, ws => o2 (lthF n ws) fun a => o2 (thsF n k (ws.drop a.2)) fun l => some (some (a.1 :: l.1, a.2 + l.2))
noncomputable def lbsF (body : List Str → O2 (List PyData × Nat)) : Nat → List Str → O2 (List PyData × Nat)
  | 0, _ => some (some ([], 0))
  | k + 1, ws => o2 (lbpF body ws) fun a => o2 (lbsF body k (ws.drop a.2)) fun l => some (some (a.1 :: l.1, a.2 + l.2))
theorem o2_some {α β : Type} {a : α} {f : α → O2 β} : o2 (some (some a)) f = f a := rfl
theorem o2_o2 {α β γ : Type} {x : O2 α} {f : α → O2 β} {g : β → O2 γ} : o2 (o2 x f) g = o2 x fun a => o2 (f a) g := by
  match x with
  | none => rfl
  | some none => rfl
  | some (some a) => rfl
theorem lst_seq {n m : Nat} {body : List Str → O2 (List PyData × Nat)} {ws : List Str} {z : Str} {k b : Nat} (hz : hdW ws = z) (h : z = "set" ∧ k = 2 ∧ b = 0 ∨ z = "say" ∧ k = 1 ∧ b = 0 ∨ z = "if" ∧ k = 1 ∧ b = 2) :
    lstF n m body ws = o2 (thsF n k (ws.drop 1)) fun l => o2 (lbsF body b (ws.drop (1 + l.2))) fun q => some (some (.tuple (.str z :: (l.1 ++ q.1)), 1 + l.2 + q.2)) := by
  unfold lstF
  rw [hz]
  rcases h with ⟨rfl, rfl, rfl⟩ | ⟨rfl, rfl, rfl⟩ | ⟨rfl, rfl, rfl⟩
  · rw [if_neg (by decide +kernel), if_pos rfl]
    simp only [thsF, lbsF, o2_o2, o2_some, List.drop_drop, List.append_nil, Nat.add_zero]
    congr 1
    funext a
    congr 1
    funext c
    rw [Nat.add_assoc]
  · rw [if_neg (by decide +kernel), if_neg (by decide +kernel), if_pos rfl]
    simp only [thsF, lbsF, o2_o2, o2_some, List.drop_drop, List.append_nil, Nat.add_zero]
  · rw [if_neg (by decide +kernel), if_neg (by decide +kernel), if_neg (by decide +kernel)]
    simp only [thsF, lbsF, o2_o2, o2_some, List.drop_drop, List.append_nil, Nat.add_zero, List.cons_append, List.nil_append, Nat.add_assoc]
end Hw
namespace Hw
open PySem PySem.Spec PyProof.Rows L2
noncomputable def neat : Nat → PyData → Prop
  | _, .none => True
  | _, .bool _ => True
  | _, .int _ => True
  | _, .str x => PyData.canLay0 (.str x) = true
  | 0, .tuple _ => False
  | 0, .list _ => False
  | n + 1, .tuple ds => ∀ d ∈ ds, neat n d
  | n + 1, .list ds => ∀ d ∈ ds, neat n d
  | _, .dict _ => False
theorem neat.mono : ∀ {n m : Nat} {d : PyData}, neat n d → n ≤ m → neat m d
  | n, m, .none, _, _ => by cases m <;> trivial
  | n, m, .bool _, _, _ => by cases m <;> trivial
  | n, m, .int _, _, _ => by cases m <;> trivial
  | n, m, .str x, h, _ => by cases n <;> cases m <;> exact h
  | 0, _, .tuple _, h, _ => by unfold neat at h; exact h.elim
  | 0, _, .list _, h, _ => by unfold neat at h; exact h.elim
  | n + 1, 0, .tuple _, _, z => absurd z (by omega)
  | n + 1, 0, .list _, _, z => absurd z (by omega)
  | n + 1, m + 1, .tuple ds, h, z => by
    unfold neat at h ⊢
    exact fun d hd => neat.mono (h d hd) (by omega)
  | n + 1, m + 1, .list ds, h, z => by
    unfold neat at h ⊢
    exact fun d hd => neat.mono (h d hd) (by omega)
  | 0, _, .dict _, h, _ => by unfold neat at h; exact h.elim
  | n + 1, _, .dict _, h, _ => by unfold neat at h; exact h.elim
theorem neat_all {n : Nat} (ih : ∀ d, neat n d → PyData.canLay0 d = true ∧ PyData.depth d ≤ n ∧ PyData.eqv d d = true) : ∀ {ds : List PyData}, (∀ d ∈ ds, neat n d) → PyData.canLayAll0 ds = true ∧ PyData.depthAll ds ≤ n ∧ PyData.eqvAll ds ds = true
  | [], _ => ⟨rfl, Nat.zero_le _, rfl⟩
  | d :: ds, h => by
    obtain ⟨a1, a2, a3⟩ := ih d (h d List.mem_cons_self)
    obtain ⟨b1, b2, b3⟩ := neat_all ih (fun e he => h e (List.mem_cons_of_mem _ he))
    refine ⟨?_, ?_, ?_⟩
    · show (PyData.canLay0 d && PyData.canLayAll0 ds) = true
      rw [a1, b1]
      rfl
    · show max (PyData.depth d) (PyData.depthAll ds) ≤ n
      omega
    · show (PyData.eqv d d && PyData.eqvAll ds ds) = true
      rw [a3, b3]
      rfl
theorem neat_is : ∀ (n : Nat) (d : PyData), neat n d → PyData.canLay0 d = true ∧ PyData.depth d ≤ n ∧ PyData.eqv d d = true
  | n, .none, _ => ⟨rfl, Nat.zero_le _, rfl⟩
  | n, .bool b, _ => ⟨rfl, Nat.zero_le _, beq_self_eq_true b⟩
  | n, .int i, _ => ⟨rfl, Nat.zero_le _, beq_self_eq_true i⟩
  | n, .str x, h => ⟨by cases n <;> exact h, Nat.zero_le _, beq_self_eq_true x⟩
  | 0, .tuple _, h => by unfold neat at h; exact h.elim
  | 0, .list _, h => by unfold neat at h; exact h.elim
  | n + 1, .tuple ds, h => by
    unfold neat at h
    obtain ⟨a, b, c⟩ := neat_all (neat_is n) h
    exact ⟨a, Nat.succ_le_succ b, c⟩
  | n + 1, .list ds, h => by
    unfold neat at h
    obtain ⟨a, b, c⟩ := neat_all (neat_is n) h
    exact ⟨a, Nat.succ_le_succ b, c⟩
  | 0, .dict _, h => by unfold neat at h; exact h.elim
  | n + 1, .dict _, h => by unfold neat at h; exact h.elim
theorem neat_shaped {n : Nat} {d : PyData} (h : neat n d) (z : n ≤ 64) : SeqAt.shaped d = true := by
  obtain ⟨a, b, _⟩ := neat_is n d h
  unfold SeqAt.shaped
  rw [a, decide_eq_true (by omega : PyData.depth d ≤ 64)]
  rfl
theorem neat_tup {n : Nat} {ds : List PyData} (h : ∀ d ∈ ds, neat n d) : neat (n + 1) (.tuple ds) := by unfold neat; exact h
theorem neat_str {n : Nat} {x : Str} (h : PyData.canLay0 (.str x) = true) : neat n (.str x) := by cases n <;> exact h
theorem neat_int {n : Nat} {i : Int} : neat n (.int i) := by cases n <;> trivial
theorem neat_th {p o : Nat} : ∀ {t : Th} {d : Nat}, Th.ok p o d t → neat (d + 1) t.enc
  | .num n, d, _ => neat_tup fun e he => by
    rcases List.mem_cons.mp he with rfl | he
    · exact neat_str (by decide +kernel)
    cases List.mem_singleton.mp he
    exact neat_int
  | .own n, d, _ => neat_tup fun e he => by
    rcases List.mem_cons.mp he with rfl | he
    · exact neat_str (by decide +kernel)
    cases List.mem_singleton.mp he
    exact neat_int
  | .par n, d, _ => neat_tup fun e he => by
    rcases List.mem_cons.mp he with rfl | he
    · exact neat_str (by decide +kernel)
    cases List.mem_singleton.mp he
    exact neat_int
  | .cell t, 0, h => by unfold Th.ok at h; exact h.elim
  | .sum a b, 0, h => by unfold Th.ok at h; exact h.elim
  | .cell t, d + 1, h => by
    unfold Th.ok at h
    refine neat_tup fun e he => ?_
    rcases List.mem_cons.mp he with rfl | he
    · exact neat_str (by decide +kernel)
    cases List.mem_singleton.mp he
    exact neat_th h
  | .sum a b, d + 1, h => by
    unfold Th.ok at h
    refine neat_tup fun e he => ?_
    rcases List.mem_cons.mp he with rfl | he
    · exact neat_str (by decide +kernel)
    rcases List.mem_cons.mp he with rfl | he
    · exact neat_th h.1
    cases List.mem_singleton.mp he
    exact neat_th h.2
mutual
theorem neat_st {sh : List (Nat × Nat)} {i : Nat} : ∀ {s : St} {d : Nat}, St.ok sh i d s → neat (2 * d + 7) s.enc
  | .set p t, d, h => by
    have h' : p.isPlace = true ∧ Th.ok (sh.getD i (0, 0)).1 (sh.getD i (0, 0)).2 4 p ∧ Th.ok (sh.getD i (0, 0)).1 (sh.getD i (0, 0)).2 4 t := by cases d <;> (unfold St.ok at h; exact h)
    refine neat_tup fun e he => ?_
    rcases List.mem_cons.mp he with rfl | he
    · exact neat_str (by decide +kernel)
    rcases List.mem_cons.mp he with rfl | he
    · exact (neat_th h'.2.1).mono (by omega)
    cases List.mem_singleton.mp he
    exact (neat_th h'.2.2).mono (by omega)
  | .say t, d, h => by
    have h' : Th.ok (sh.getD i (0, 0)).1 (sh.getD i (0, 0)).2 4 t := by cases d <;> (unfold St.ok at h; exact h)
    refine neat_tup fun e he => ?_
    rcases List.mem_cons.mp he with rfl | he
    · exact neat_str (by decide +kernel)
    cases List.mem_singleton.mp he
    exact (neat_th h').mono (by omega)
  | .ite t a b, 0, h => by unfold St.ok at h; exact h.elim
  | .ite t a b, d + 1, h => by
    unfold St.ok at h
    refine neat_tup fun e he => ?_
    rcases List.mem_cons.mp he with rfl | he
    · exact neat_str (by decide +kernel)
    rcases List.mem_cons.mp he with rfl | he
    · exact (neat_th h.1).mono (by omega)
    rcases List.mem_cons.mp he with rfl | he
    · exact (neat_tup (neat_sts h.2.1)).mono (by omega)
    cases List.mem_singleton.mp he
    exact (neat_tup (neat_sts h.2.2)).mono (by omega)
  | .call w ts, d, h => by
    have h' : ∀ t ∈ ts, Th.ok (sh.getD i (0, 0)).1 (sh.getD i (0, 0)).2 4 t := by cases d <;> (unfold St.ok at h; exact h.2.2.2)
    refine neat_tup fun e he => ?_
    rcases List.mem_cons.mp he with rfl | he
    · exact neat_str (by decide +kernel)
    rcases List.mem_cons.mp he with rfl | he
    · exact neat_int
    cases List.mem_singleton.mp he
    refine (neat_tup (n := 5) fun e he => ?_).mono (by omega)
    obtain ⟨t, ht, rfl⟩ := List.mem_map.mp he
    exact neat_th (h' t ht)
theorem neat_sts {sh : List (Nat × Nat)} {i : Nat} : ∀ {b : Sts} {d : Nat}, Sts.ok sh i d b → ∀ e ∈ b.encs, neat (2 * d + 7) e
  | .nil, d, _ => fun e he => nomatch he
  | .cons s r, d, h => fun e he => by
    unfold Sts.ok at h
    rcases List.mem_cons.mp he with rfl | he
    · exact neat_st h.1
    · exact neat_sts h.2 e he
end
end Hw
namespace Hw
open PySem PySem.Spec PyProof.Rows L2
noncomputable def Enf (n : Nat) (ws : List Str) : Prop := ∀ j, lthF (n + 1) (ws.drop j) ≠ none
theorem lth_le {n m : Nat} {ws : List Str} (h : lthF n ws ≠ none) (l : n ≤ m) : lthF m ws = lthF n ws := by
  rcases th_up (ws := ws) l with a | a
  · exact absurd a h
  · exact a.symm
theorem lth_ne {n m : Nat} {ws : List Str} (h : lthF n ws ≠ none) (l : n ≤ m) : lthF m ws ≠ none := by rw [lth_le h l]; exact h
theorem Enf.mono {n m : Nat} {ws : List Str} (h : Enf n ws) (l : n ≤ m) : Enf m ws := fun j => lth_ne (h j) (by omega)
theorem o2_ne {α β : Type} {x : O2 α} {f : α → O2 β} (h : o2 x f ≠ none) : x ≠ none := fun z => h (by rw [z]; rfl)
theorem leaf_ne {n : Nat} {ws : List Str} (h : ¬ (hdW ws = "+" ∨ hdW ws = "cell")) : lthF (n + 1) ws ≠ none := by
  unfold lthF
  by_cases c : hdW ws = "own" ∨ hdW ws = "par"
  · rw [if_pos c]; exact fun z => by cases z
  · rw [if_neg c, if_pos h]; exact fun z => by cases z
theorem lth_nil {n : Nat} : lthF (n + 1) [] ≠ none := leaf_ne (by rw [show hdW [] = "" from rfl]; decide +kernel)
theorem lth_nil_val {n : Nat} : lthF (n + 1) [] = some none := by
  unfold lthF
  rw [show hdW [] = "" from rfl, if_neg (by decide +kernel), if_pos (by decide +kernel), figOf_empty]
  rfl
theorem pre_ne {n : Nat} {ws : List Str} (h : hdW ws = "+" ∨ hdW ws = "cell") : lthF (n + 1) ws = o2 (lthF n (ws.drop 1)) fun a => if hdW ws = "cell" then some (some (.tuple [.str "cell", a.1], 1 + a.2)) else o2 (lthF n (ws.drop (1 + a.2))) fun b => some (some (.tuple [.str "sum", a.1, b.1], 1 + a.2 + b.2)) := by
  conv => lhs; unfold lthF
  rw [if_neg (by rcases h with h | h <;> (rw [h]; decide +kernel)), if_neg (fun z => z h)]
/-- read within what stands ahead -/
theorem th_val {k c : Nat} {t : Th} {s : List Str} (low : t.low) (h : lthF k (t.words ++ s) ≠ none) : lthF k (t.words ++ s) = some (some (t.enc, t.words.length)) := by
  have e := th_comp (t := t) (n := t.words.length + 1) (r := s) low (Nat.lt_succ_self _)
  rcases Nat.le_total k (t.words.length + 1) with l | l
  · rw [← lth_le h l]; exact e
  · rw [lth_le (by rw [e]; exact fun z => by cases z) l]; exact e
theorem th_in {k K c : Nat} {d : PyData} {s b : List Str} (h : lthF K (s ++ b) = some (some (d, c))) (l : c ≤ s.length) (g : lthF k s ≠ none) : lthF k s = some (some (d, c)) := by
  obtain ⟨t, low, rfl, rfl, e⟩ := th_sound h
  have e2 : s = t.words ++ s.drop t.words.length := by
    have := congrArg (List.take t.words.length) e
    rw [List.take_left, List.take_append_of_le_length l] at this
    conv => lhs; rw [← List.take_append_drop t.words.length s, this]
  rw [e2] at g ⊢
  exact th_val (c := 0) low g
theorem th_out {k c : Nat} {d : PyData} {s b : List Str} (h : lthF k s = some (some (d, c))) (g : lthF k (s ++ b) ≠ none) : c ≤ s.length ∧ lthF k (s ++ b) = some (some (d, c)) := by
  obtain ⟨t, low, rfl, rfl, e⟩ := th_sound h
  refine ⟨?_, ?_⟩
  · have := congrArg List.length e
    rw [List.length_append] at this
    omega
  · rw [e, List.append_assoc] at g ⊢
    exact th_val (c := 0) low g
theorem drop_one {x : Str} {s : List Str} {l : Nat} : (x :: s).drop (1 + l) = s.drop l := by rw [Nat.add_comm, List.drop_succ_cons]
theorem th_join {m : Nat} {b : List Str} (hb : Enf m b) : ∀ {k : Nat} {s : List Str}, lthF k s ≠ none → lthF (k + m) (s ++ b) ≠ none
  | 0, _, h => absurd rfl h
  | k + 1, [], _ => by
    have := hb 0
    exact lth_ne this (by omega)
  | k + 1, x :: s, h => by
    rw [show k + 1 + m = (k + m) + 1 by omega]
    by_cases c : x = "+" ∨ x = "cell"
    case neg => exact leaf_ne c
    rw [pre_ne (ws := x :: s ++ b) c]
    rw [pre_ne (ws := x :: s) c] at h
    have h1 : lthF k s ≠ none := o2_ne h
    have i1 := th_join hb h1
    show o2 (lthF (k + m) (s ++ b)) _ ≠ none
    match e : lthF (k + m) (s ++ b) with
    | none => exact absurd e i1
    | some none => exact fun z => by cases z
    | some (some (d, l)) =>
      rw [o2_some]
      by_cases c2 : x = "cell"
      · rw [if_pos (show hdW (x :: s ++ b) = "cell" from c2)]; exact fun z => by cases z
      rw [if_neg (show ¬ hdW (x :: s ++ b) = "cell" from c2)]
      have key : lthF (k + m) ((x :: s ++ b).drop (1 + l)) ≠ none := by
        rw [List.cons_append, drop_one]
        by_cases cl : l ≤ s.length
        · rw [List.drop_append_of_le_length cl]
          have e1 := th_in e cl h1
          have h' : o2 (lthF k s) (fun a => if x = "cell" then some (some (PyData.tuple [.str "cell", a.1], 1 + a.2)) else o2 (lthF k ((x :: s).drop (1 + a.2))) fun b => some (some (.tuple [.str "sum", a.1, b.1], 1 + a.2 + b.2))) ≠ none := h
          rw [e1, o2_some, if_neg c2] at h'
          have h2 := o2_ne h'
          rw [drop_one] at h2
          exact th_join hb h2
        · have k0 : k ≠ 0 := fun z => h1 (by rw [z]; rfl)
          rw [show (s ++ b).drop l = b.drop (l - s.length) by rw [List.drop_append, List.drop_eq_nil_of_le (by omega), List.nil_append]]
          exact lth_ne (hb (l - s.length)) (by omega)
      match e3 : lthF (k + m) ((x :: s ++ b).drop (1 + l)) with
      | none => exact absurd e3 key
      | some none => exact fun z => by cases z
      | some (some _) => exact fun z => by cases z
theorem Enf.join {n m : Nat} {a b : List Str} (ha : Enf n a) (hb : Enf m b) : Enf (n + m) (a ++ b) := fun j => by
  rw [show n + m + 1 = (n + 1) + m by omega, List.drop_append]
  by_cases c : j ≤ a.length
  · rw [show j - a.length = 0 by omega, List.drop_zero]
    exact th_join hb (ha j)
  · rw [List.drop_eq_nil_of_le (by omega), List.nil_append]
    exact lth_ne (hb _) (by omega)
theorem th_pre {b : List Str} : ∀ {k : Nat} {s : List Str}, lthF k (s ++ b) ≠ none → lthF k s ≠ none
  | 0, _, h => absurd rfl h
  | k + 1, [], _ => lth_nil
  | k + 1, x :: s, h => by
    by_cases c : x = "+" ∨ x = "cell"
    case neg => exact leaf_ne c
    rw [pre_ne (ws := x :: s ++ b) c] at h
    rw [pre_ne (ws := x :: s) c]
    have h1 : lthF k (s ++ b) ≠ none := o2_ne h
    have i1 := th_pre h1
    show o2 (lthF k s) _ ≠ none
    match e : lthF k s with
    | none => exact absurd e i1
    | some none => exact fun z => by cases z
    | some (some (d, l)) =>
      rw [o2_some]
      by_cases c2 : x = "cell"
      · rw [if_pos (show hdW (x :: s) = "cell" from c2)]; exact fun z => by cases z
      rw [if_neg (show ¬ hdW (x :: s) = "cell" from c2)]
      obtain ⟨cl, e1⟩ := th_out e h1
      have h' : o2 (lthF k (s ++ b)) (fun a => if x = "cell" then some (some (PyData.tuple [.str "cell", a.1], 1 + a.2)) else o2 (lthF k ((x :: s ++ b).drop (1 + a.2))) fun b => some (some (.tuple [.str "sum", a.1, b.1], 1 + a.2 + b.2))) ≠ none := h
      rw [e1, o2_some, if_neg c2] at h'
      have h2 := o2_ne h'
      rw [List.cons_append, drop_one, List.drop_append_of_le_length cl] at h2
      have key := th_pre h2
      rw [drop_one]
      match e3 : lthF k (s.drop l) with
      | none => exact absurd e3 key
      | some none => exact fun z => by cases z
      | some (some _) => exact fun z => by cases z
theorem Enf.pre {n : Nat} {a b : List Str} (h : Enf n (a ++ b)) : Enf n a := fun j => by
  by_cases c : j ≤ a.length
  · have := h j
    rw [List.drop_append_of_le_length c] at this
    exact th_pre this
  · rw [List.drop_eq_nil_of_le (by omega)]
    exact lth_nil
theorem Enf.suf {n : Nat} {a b : List Str} (h : Enf n (a ++ b)) : Enf n b := fun j => by
  have := h (a.length + j)
  rw [← List.drop_drop, List.drop_left] at this
  exact this
theorem Enf.nil {n : Nat} : Enf n [] := fun j => by rw [List.drop_nil]; exact lth_nil
theorem Enf.one {w : Str} : Enf 1 [w] := fun j => by
  cases j with
  | succ j => rw [List.drop_succ_cons, List.drop_nil]; exact lth_nil
  | zero =>
    rw [List.drop_zero]
    by_cases c : w = "+" ∨ w = "cell"
    · rw [pre_ne (ws := [w]) c, show ([w] : List Str).drop 1 = [] from rfl, lth_nil_val]
      exact fun z => by cases z
    · exact leaf_ne c
theorem Enf.many : ∀ {ws : List Str}, Enf ws.length ws
  | [] => .nil
  | w :: ws => by
    have := Enf.join (Enf.one (w := w)) (Enf.many (ws := ws))
    rw [show (w :: ws).length = 1 + ws.length by rw [List.length_cons]; omega]
    exact this
theorem Enf.key {n : Nat} {w : Str} {r : List Str} (h : ¬ (w = "+" ∨ w = "cell")) (g : Enf n r) : Enf n (w :: r) := fun j => by
  cases j with
  | zero => exact leaf_ne (ws := w :: r) h
  | succ j => exact g j
theorem nW_no {k : Nat} (h : k < 100) : ¬ (nW k = "+" ∨ nW k = "cell") := fun z => by
  rcases z with z | z
  · exact nW_fig h (fig_no (by decide +kernel)) z
  · exact nW_fig h (fig_no (by decide +kernel)) z
theorem th_dep : ∀ {t : Th} {n : Nat} {r : List Str}, t.low → t.dep ≤ n → lthF (n + 1) (t.words ++ r) ≠ none
  | .num k, n, r, low, _ => leaf_ne (ws := nW k :: r) (nW_no low)
  | .own k, n, r, low, _ => leaf_ne (ws := ("own" : Str) :: (nW k :: r)) (by rw [hd_app]; decide +kernel)
  | .par k, n, r, low, _ => leaf_ne (ws := ("par" : Str) :: (nW k :: r)) (by rw [hd_app]; decide +kernel)
  | .cell t, 0, r, _, h => absurd (show t.dep + 1 ≤ 0 from h) (by omega)
  | .sum a b, 0, r, _, h => absurd (show max a.dep b.dep + 1 ≤ 0 from h) (by omega)
  | .cell t, n + 1, r, low, h => by
    have i := th_dep (t := t) (n := n) (r := r) low (by have : t.dep + 1 ≤ n + 1 := h; omega)
    show lthF (n + 1 + 1) (("cell" : Str) :: (t.words ++ r)) ≠ none
    rw [pre_ne (ws := ("cell" : Str) :: (t.words ++ r)) (.inr rfl), show (("cell" : Str) :: (t.words ++ r)).drop 1 = t.words ++ r from rfl, th_val (c := 0) (t := t) low i, o2_some, if_pos (show hdW (("cell" : Str) :: (t.words ++ r)) = "cell" from rfl)]
    exact fun z => by cases z
  | .sum a b, n + 1, r, low, h => by
    have h' : max a.dep b.dep + 1 ≤ n + 1 := h
    have i := th_dep (t := a) (n := n) (r := b.words ++ r) low.1 (by omega)
    have j := th_dep (t := b) (n := n) (r := r) low.2 (by omega)
    show lthF (n + 1 + 1) (("+" : Str) :: (a.words ++ b.words) ++ r) ≠ none
    rw [List.cons_append, List.append_assoc]
    rw [pre_ne (ws := ("+" : Str) :: (a.words ++ (b.words ++ r))) (.inl rfl), show (("+" : Str) :: (a.words ++ (b.words ++ r))).drop 1 = a.words ++ (b.words ++ r) from rfl, th_val (c := 0) low.1 i, o2_some, if_neg (by rw [hd_app]; decide +kernel)]
    rw [drop_one, List.drop_left, th_val (c := 0) low.2 j]
    exact fun z => by cases z
theorem Enf.th {n : Nat} : ∀ {t : Th} {r : List Str}, t.low → t.dep ≤ n → Enf n r → Enf n (t.words ++ r)
  | .num k, r, low, _, g => .key (nW_no low) g
  | .own k, r, low, _, g => .key (by decide +kernel) (.key (nW_no low) g)
  | .par k, r, low, _, g => .key (by decide +kernel) (.key (nW_no low) g)
  | .cell t, r, low, h, g => fun j => by
    cases j with
    | zero => exact th_dep (t := .cell t) low h
    | succ j => exact Enf.th (t := t) low (by have : t.dep + 1 ≤ n := h; omega) g j
  | .sum a b, r, low, h, g => fun j => by
    have h' : max a.dep b.dep + 1 ≤ n := h
    cases j with
    | zero => exact th_dep (t := .sum a b) low h
    | succ j =>
      have := Enf.th (t := a) low.1 (by omega) (Enf.th (t := b) low.2 (by omega) g) j
      show lthF (n + 1) ((("+" : Str) :: (a.words ++ b.words) ++ r).drop (j + 1)) ≠ none
      rw [List.cons_append, List.drop_succ_cons, List.append_assoc]
      exact this
theorem Enf.ths {n : Nat} : ∀ {ts : List Th} {r : List Str}, (∀ t ∈ ts, t.low ∧ t.dep ≤ n) → Enf n r → Enf n (wordsOf ts ++ r)
  | [], r, _, g => g
  | t :: ts, r, h, g => by
    show Enf n ((t.words ++ wordsOf ts) ++ r)
    rw [List.append_assoc]
    exact .th (h t List.mem_cons_self).1 (h t List.mem_cons_self).2 (Enf.ths (fun u hu => h u (List.mem_cons_of_mem _ hu)) g)
mutual
/-- no thing lies deeper -/
noncomputable def St.flat (n : Nat) : St → Prop
  | .set p t => p.dep ≤ n ∧ t.dep ≤ n
  | .say t => t.dep ≤ n
  | .ite t a b => t.dep ≤ n ∧ a.flat n ∧ b.flat n
  | .call _ ts => ∀ t ∈ ts, t.dep ≤ n
noncomputable def Sts.flat (n : Nat) : Sts → Prop
  | .nil => True
  | .cons s r => s.flat n ∧ r.flat n
end
mutual
theorem Enf.st {n : Nat} : ∀ {s : St} {r : List Str}, s.low → s.flat n → Enf n r → Enf n (s.words ++ r)
  | .set p t, r, low, h, g => by
    unfold St.low at low
    unfold St.flat at h
    unfold St.words
    rw [List.cons_append, List.append_assoc]
    exact .key (by decide +kernel) (.th low.1 h.1 (.th low.2 h.2 g))
  | .say t, r, low, h, g => by
    unfold St.low at low
    unfold St.flat at h
    unfold St.words
    rw [List.cons_append]
    exact .key (by decide +kernel) (.th low h g)
  | .ite t a b, r, low, h, g => by
    unfold St.low at low
    unfold St.flat at h
    unfold St.words
    rw [show (("if" : Str) :: (t.words ++ (opn ++ a.words ++ mid ++ b.words ++ cls))) ++ r = ("if" : Str) :: (t.words ++ (("(" : Str) :: (a.words ++ ((")" : Str) :: (("(" : Str) :: (b.words ++ ((")" : Str) :: r))))))) by simp [List.append_assoc]]
    exact .key (by decide +kernel) (.th low.1 h.1 (.key (by decide +kernel) (Enf.sts low.2.1 h.2.1 (.key (by decide +kernel) (.key (by decide +kernel) (Enf.sts low.2.2 h.2.2 (.key (by decide +kernel) g)))))))
  | .call w ts, r, low, h, g => by
    unfold St.low at low
    unfold St.flat at h
    unfold St.words
    rw [show ([("call" : Str), nW w] ++ wordsOf ts ++ dot) ++ r = ("call" : Str) :: (nW w :: (wordsOf ts ++ (("." : Str) :: r))) by simp [List.append_assoc]]
    exact .key (by decide +kernel) (.key (nW_no low.1) (.ths (fun t ht => ⟨low.2 t ht, h t ht⟩) (.key (by decide +kernel) g)))
theorem Enf.sts {n : Nat} : ∀ {b : Sts} {r : List Str}, b.low → b.flat n → Enf n r → Enf n (b.words ++ r)
  | .nil, r, _, _, g => by unfold Sts.words; exact g
  | .cons s b, r, low, h, g => by
    unfold Sts.low at low
    unfold Sts.flat at h
    unfold Sts.words
    rw [List.append_assoc]
    exact Enf.st low.1 h.1 (Enf.sts low.2 h.2 g)
end
theorem Enf.wk {n : Nat} {wk : Wk} (h1 : wk.params < 100) (h2 : wk.owns < 100) (h : wk.body.low) (f : wk.body.flat n) : Enf n wk.words := by
  unfold Wk.words
  have := Enf.sts (r := []) h f .nil
  rw [List.append_nil] at this
  exact .key (nW_no h1) (.key (nW_no h2) this)
theorem ths_enf {n m : Nat} {ws : List Str} (h : Enf n ws) (l : ws.length < m) : ltsF (n + 1) m ws ≠ none := by
  induction m generalizing ws with
  | zero => omega
  | succ m ih =>
    unfold ltsF
    by_cases c : hdW ws = "."
    · rw [if_pos c]; exact fun z => by cases z
    rw [if_neg c]
    match e : lthF (n + 1) ws with
    | none => exact absurd e (h 0)
    | some none => exact fun z => by cases z
    | some (some a) =>
      rw [o2_some]
      obtain ⟨t, low, _, t3, t4⟩ := th_sound (d := a.1) (k := a.2) e
      have tp := th_pos t
      have e2 := congrArg List.length t4
      rw [List.length_append] at e2
      have := ih (ws := ws.drop a.2) (fun j => by rw [List.drop_drop]; exact h _) (by rw [List.length_drop]; omega)
      match e3 : ltsF (n + 1) m (ws.drop a.2) with
      | none => exact absurd e3 this
      | some none => exact fun z => by cases z
      | some (some _) => exact fun z => by cases z
theorem o2_ok {α β : Type} {x : O2 α} {f : α → O2 β} (h : x ≠ none) (g : ∀ a, x = some (some a) → f a ≠ none) : o2 x f ≠ none := by
  match x, h, g with
  | none, h, _ => exact absurd rfl h
  | some none, _, _ => exact fun z => by cases z
  | some (some a), _, g => exact g a rfl
theorem Enf.drop {n k : Nat} {ws : List Str} (h : Enf n ws) : Enf n (ws.drop k) := fun j => by rw [List.drop_drop]; exact h _
theorem bp_enf {body : List Str → O2 (List PyData × Nat)} {ws : List Str} (h : ws ≠ [] → body (ws.drop 1) ≠ none) : lbpF body ws ≠ none := by
  unfold lbpF
  by_cases c : hdW ws = "("
  · rw [if_pos c]
    refine o2_ok (h fun z => by rw [z] at c; revert c; decide +kernel) fun a _ => ?_
    by_cases c2 : hdW (ws.drop (1 + a.2)) = ")"
    · rw [if_pos c2]; exact fun z => by cases z
    · rw [if_neg c2]; exact fun z => by cases z
  · rw [if_neg c]; exact fun z => by cases z
theorem st_enf {n m : Nat} {body : List Str → O2 (List PyData × Nat)} {ws : List Str} (h : Enf n ws) (l : ws.length < m) (hb : ∀ j, j + 1 < ws.length → body (ws.drop (j + 2)) ≠ none) : lstF (n + 1) m body ws ≠ none := by
  have bp : ∀ k, 1 ≤ k → lbpF body (ws.drop k) ≠ none := fun k hk => bp_enf fun z => by
    rw [List.drop_drop]
    have : k < ws.length := Nat.lt_of_not_le fun y => z (List.drop_eq_nil_of_le y)
    have := hb (k - 1) (by omega)
    rw [show k + 1 = k - 1 + 2 by omega]
    exact this
  unfold lstF
  split
  · split
    · exact fun z => by cases z
    · exact o2_ok (ths_enf h.drop (by rw [List.length_drop]; omega)) fun a _ => fun z => by cases z
  split
  · exact o2_ok (h 1) fun a _ => o2_ok (h _) fun b _ => fun z => by cases z
  split
  · exact o2_ok (h 1) fun a _ => fun z => by cases z
  · exact o2_ok (h 1) fun a _ => o2_ok (bp _ (by omega)) fun b _ => o2_ok (bp _ (by omega)) fun c _ => fun z => by cases z
theorem bd_enf {n m : Nat} : ∀ {f : Nat} {ws : List Str}, Enf n ws → ws.length < m → ws.length < f → lbdF (n + 1) m f ws ≠ none
  | 0, _, _, _, h => absurd h (by omega)
  | f + 1, ws, h, l, lf => by
    unfold lbdF
    by_cases c : hdW ws ∈ fourW
    case neg => rw [if_neg c]; exact fun z => by cases z
    rw [if_pos c]
    have st := st_enf (body := lbdF (n + 1) m f) h l fun j hj => bd_enf h.drop (by rw [List.length_drop]; omega) (by rw [List.length_drop]; omega)
    refine o2_ok st fun a ea => ?_
    obtain ⟨s, _, _, s3, s4⟩ := st_sound bd_sound c (d := a.1) (k := a.2) ea
    have s1 : 1 ≤ s.words.length := by cases s <;> (rw [St.words]; simp)
    have e2 := congrArg List.length s4
    rw [List.length_append] at e2
    exact o2_ok (bd_enf h.drop (by rw [List.length_drop]; omega) (by rw [List.length_drop]; omega)) fun b _ => fun z => by cases z
end Hw
namespace Hw
open PySem PySem.Spec PyProof.Rows L2 TL
noncomputable def cutL (s : Nat) : List Nat → List (List Nat)
  | [] => [[]]
  | c :: r => if c = s then [] :: cutL s r else match cutL s r with
    | [] => [[c]]
    | p :: ps => (c :: p) :: ps
theorem cutL_hit {s : Nat} {r : List Nat} : cutL s (s :: r) = [] :: cutL s r := by
  conv => lhs; unfold cutL
  rw [if_pos rfl]
theorem cutL_ne {s : Nat} : ∀ {x : List Nat}, cutL s x ≠ []
  | [] => by unfold cutL; simp
  | c :: r => by
    unfold cutL
    by_cases h : c = s
    · rw [if_pos h]; simp
    · rw [if_neg h]
      split <;> simp
theorem cutL_miss {s c : Nat} {r p : List Nat} {ps : List (List Nat)} (h : c ≠ s) (e : cutL s r = p :: ps) : cutL s (c :: r) = (c :: p) :: ps := by
  conv => lhs; unfold cutL
  rw [if_neg h, e]
theorem cutL_cons {s : Nat} {x : List Nat} : ∃ p ps, cutL s x = p :: ps := by
  cases e : cutL s x with
  | nil => exact absurd e cutL_ne
  | cons p ps => exact ⟨p, ps, rfl⟩
theorem cutL_last {s : Nat} {x : List Nat} : ∃ A p, cutL s x = A ++ [p] := ⟨_, _, (List.dropLast_concat_getLast (cutL_ne (s := s) (x := x))).symm⟩
theorem spl_cut {s : Nat} : ∀ {x acc p : List Nat} {ps : List (List Nat)}, cutL s x = p :: ps → spl [s] 0 acc x = (acc ++ p) :: ps
  | [], acc, p, ps, h => by
    cases h
    rw [spl_nil, List.append_nil]
  | c :: r, acc, p, ps, h => by
    by_cases e : c = s
    · subst e
      rw [cutL_hit] at h
      cases h
      obtain ⟨q, qs, e2⟩ := cutL_cons (s := c) (x := r)
      rw [spl_hit (show pre [c] (c :: r) = true from pre_self [c] r), List.append_nil]
      show acc :: spl [c] 0 [] r = _
      rw [spl_cut e2, List.nil_append, e2]
    · obtain ⟨q, qs, e2⟩ := cutL_cons (s := s) (x := r)
      rw [cutL_miss e e2] at h
      cases h
      rw [spl_miss (pre_of_head [] r e), spl_cut e2, List.append_assoc]
      rfl
theorem split_cut {x y : Str} {s : Nat} (ey : tl y = [s]) (hk : y.cps.all (· < 256) = true) : (Txt.split x y).map tl = cutL s (tl x) := by
  rw [split_spl x y (by rw [ey]; simp) (kind_ok hk), ey]
  obtain ⟨p, ps, e⟩ := cutL_cons (s := s) (x := tl x)
  rw [spl_cut e, e, List.nil_append]
/-- a text made of one with another behind it -/
theorem cut_app {s : Nat} : ∀ {a b : List Nat} {A B : List (List Nat)} {p q : List Nat}, cutL s a = A ++ [p] → cutL s b = q :: B → cutL s (a ++ b) = A ++ (p ++ q) :: B
  | [], b, A, B, p, q, ha, hb => by
    have ha' : [([] : List Nat)] = A ++ [p] := ha
    cases A with
    | nil =>
      cases ha'
      exact hb
    | cons x A =>
      have := congrArg List.length ha'
      rw [List.cons_append, List.length_cons, List.length_cons, List.length_append, List.length_singleton, List.length_nil] at this
      omega
  | c :: r, b, A, B, p, q, ha, hb => by
    by_cases e : c = s
    · subst e
      rw [cutL_hit] at ha
      cases A with
      | nil =>
        rw [List.nil_append] at ha
        exact absurd (List.cons.inj ha).2 cutL_ne
      | cons x A =>
        obtain ⟨rfl, h2⟩ := List.cons.inj ha
        rw [List.cons_append, cutL_hit, cut_app h2 hb]
        rfl
    · obtain ⟨p0, ps, e2⟩ := cutL_cons (s := s) (x := r)
      rw [cutL_miss e e2] at ha
      cases A with
      | nil =>
        cases ha
        have := cut_app (A := []) e2 hb
        rw [List.cons_append, cutL_miss e this]
        rfl
      | cons x A =>
        obtain ⟨rfl, h2⟩ := List.cons.inj ha
        rw [h2] at e2
        have := cut_app (A := p0 :: A) e2 hb
        rw [List.cons_append, cutL_miss e this]
        rfl
theorem cut_one {s c : Nat} (h : c ≠ s) : cutL s [c] = [[c]] := cutL_miss h rfl
theorem cut_sep {s : Nat} : cutL s [s] = [[], []] := cutL_hit
theorem cut_no {s : Nat} : ∀ {x : List Nat} {p : List Nat}, p ∈ cutL s x → s ∉ p
  | [], p, h => by
    cases List.mem_singleton.mp (show p ∈ [[]] from h)
    simp
  | c :: r, p, h => by
    by_cases e : c = s
    · subst e
      rw [cutL_hit] at h
      rcases List.mem_cons.mp h with rfl | h
      · simp
      · exact cut_no h
    · obtain ⟨q, qs, e2⟩ := cutL_cons (s := s) (x := r)
      rw [cutL_miss e e2] at h
      rcases List.mem_cons.mp h with rfl | h
      · have := cut_no (x := r) (p := q) (by rw [e2]; exact List.mem_cons_self)
        simp only [List.mem_cons, not_or]
        exact ⟨fun z => e z.symm, this⟩
      · exact cut_no (x := r) (by rw [e2]; exact List.mem_cons_of_mem _ h)
theorem cut_sub {s : Nat} : ∀ {x : List Nat} {p : List Nat}, p ∈ cutL s x → ∀ c ∈ p, c ∈ x
  | [], p, h, c, hc => by
    cases List.mem_singleton.mp (show p ∈ [[]] from h)
    cases hc
  | d :: r, p, h, c, hc => by
    by_cases e : d = s
    · subst e
      rw [cutL_hit] at h
      rcases List.mem_cons.mp h with rfl | h
      · cases hc
      · exact List.mem_cons_of_mem _ (cut_sub h c hc)
    · obtain ⟨q, qs, e2⟩ := cutL_cons (s := s) (x := r)
      rw [cutL_miss e e2] at h
      rcases List.mem_cons.mp h with rfl | h
      · rcases List.mem_cons.mp hc with rfl | hc
        · exact List.mem_cons_self
        · exact List.mem_cons_of_mem _ (cut_sub (x := r) (p := q) (by rw [e2]; exact List.mem_cons_self) c hc)
      · exact List.mem_cons_of_mem _ (cut_sub (x := r) (by rw [e2]; exact List.mem_cons_of_mem _ h) c hc)
theorem cut_count {s : Nat} : ∀ {x : List Nat}, (cutL s x).length ≤ x.length + 1 ∧ ∀ p ∈ cutL s x, p.length ≤ x.length
  | [] => ⟨Nat.le_refl _, fun p h => by cases List.mem_singleton.mp (show p ∈ [[]] from h); exact Nat.le_refl _⟩
  | d :: r => by
    obtain ⟨a, b⟩ := cut_count (s := s) (x := r)
    by_cases e : d = s
    · subst e
      rw [cutL_hit]
      refine ⟨by rw [List.length_cons, List.length_cons]; omega, fun p h => ?_⟩
      rcases List.mem_cons.mp h with rfl | h
      · exact Nat.zero_le _
      · have := b p h; rw [List.length_cons]; omega
    · obtain ⟨q, qs, e2⟩ := cutL_cons (s := s) (x := r)
      rw [cutL_miss e e2]
      rw [e2] at a b
      refine ⟨by rw [List.length_cons] at a ⊢; rw [List.length_cons]; omega, fun p h => ?_⟩
      rcases List.mem_cons.mp h with rfl | h
      · have := b q List.mem_cons_self; rw [List.length_cons, List.length_cons]; omega
      · have := b p (List.mem_cons_of_mem _ h); rw [List.length_cons]; omega
/-- parts of a joined text -/
theorem cut_join {s : Nat} {parts : List (List Nat)} (h : parts ≠ []) (g : ∀ p ∈ parts, s ∉ p) : cutL s (joinL [s] parts) = parts := by
  obtain ⟨p, ps, e⟩ := cutL_cons (s := s) (x := joinL [s] parts)
  have := spl_join (s := s) (S := []) h g
  rw [spl_cut e, List.nil_append] at this
  rw [e, this]
theorem join_cut {s : Nat} : ∀ {x : List Nat}, joinL [s] (cutL s x) = x
  | [] => rfl
  | d :: r => by
    obtain ⟨q, qs, e2⟩ := cutL_cons (s := s) (x := r)
    have ih := join_cut (s := s) (x := r)
    by_cases e : d = s
    · subst e
      rw [cutL_hit]
      rw [e2] at ih ⊢
      show [] ++ ([d] ++ joinL [d] (q :: qs)) = d :: r
      rw [ih]
      rfl
    · rw [cutL_miss e e2]
      rw [e2] at ih
      cases qs with
      | nil =>
        show d :: q = d :: r
        rw [show q = r from ih]
      | cons q2 qs =>
        show (d :: q) ++ ([s] ++ joinL [s] (q2 :: qs)) = d :: r
        have : q ++ ([s] ++ joinL [s] (q2 :: qs)) = r := ih
        rw [List.cons_append, this]
noncomputable def ofL (l : List Nat) : Str := ⟨l.toArray⟩
theorem tl_ofL {l : List Nat} : tl (ofL l) = l := rfl
theorem ofL_tl {x : Str} : ofL (tl x) = x := mk_tl x
/-- a line's words -/
noncomputable def wdL (l : List Nat) : List Str := (cutL 32 l).map ofL
theorem split_ofL {x y : Str} {s : Nat} (ey : tl y = [s]) (hk : y.cps.all (· < 256) = true) : Txt.split x y = (cutL s (tl x)).map ofL :=
  map_tl_inj (by rw [split_cut ey hk, List.map_map, show (tl ∘ ofL) = id from funext fun l => tl_ofL, List.map_id])
theorem row_cut {x : Str} : Txt.split x " " = wdL (tl x) := split_ofL (by decide +kernel) (by decide +kernel)
theorem lines_cut {x : Str} : Txt.split x "\n" = (cutL 10 (tl x)).map ofL := split_ofL (by decide +kernel) (by decide +kernel)
theorem ifs_app {a b : List Str} : ifs (a ++ b) = ifs a + ifs b := List.countP_append
theorem ifs_len {a : List Str} : ifs a ≤ a.length := List.countP_le_length
structure Mw (n f : Nat) (ws : List Str) : Prop where
  enf : Enf n ws
  ifs : ifs ws ≤ f
theorem Mw.mono {n f n' f' : Nat} {ws : List Str} (h : Mw n f ws) (a : n ≤ n') (b : f ≤ f') : Mw n' f' ws := ⟨h.enf.mono a, Nat.le_trans h.ifs b⟩
theorem Mw.join {n f n' f' : Nat} {a b : List Str} (h : Mw n f a) (g : Mw n' f' b) : Mw (n + n') (f + f') (a ++ b) := ⟨h.enf.join g.enf, by rw [ifs_app]; have := h.ifs; have := g.ifs; omega⟩
theorem Mw.pre {n f : Nat} {a b : List Str} (h : Mw n f (a ++ b)) : Mw n f a := ⟨h.enf.pre, by have := h.ifs; rw [ifs_app] at this; omega⟩
theorem Mw.suf {n f : Nat} {a b : List Str} (h : Mw n f (a ++ b)) : Mw n f b := ⟨h.enf.suf, by have := h.ifs; rw [ifs_app] at this; omega⟩
theorem Mw.small {ws : List Str} : Mw ws.length ws.length ws := ⟨.many, ifs_len⟩
/-- a line: its length, its signs, its words -/
structure Ml (n f L : Nat) (l : List Nat) : Prop where
  len : l.length ≤ L
  low : ∀ c ∈ l, c < 128
  wd : Mw n f (wdL l)
theorem Ml.mono {n f L n' f' L' : Nat} {l : List Nat} (h : Ml n f L l) (a : n ≤ n') (b : f ≤ f') (c : L ≤ L') : Ml n' f' L' l := ⟨Nat.le_trans h.len c, h.low, h.wd.mono a b⟩
/-- the head of a line, at most one sign, the tail of a line -/
theorem Ml.sign {n f L : Nat} {p p' q q' m : List Nat} (h : Ml n f L (p ++ p')) (g : Ml n f L (q' ++ q)) (hm : m.length ≤ 1) (lm : ∀ c ∈ m, c < 128) : Ml (2 * n + 2) (2 * f + 2) (2 * L + 1) (p ++ m ++ q) := by
  refine ⟨?_, ?_, ?_⟩
  · have a := h.len
    have b := g.len
    simp only [List.length_append] at a b ⊢
    omega
  · intro c hc
    rcases List.mem_append.mp hc with hc | hc
    · rcases List.mem_append.mp hc with hc | hc
      · exact h.low c (List.mem_append_left _ hc)
      · exact lm c hc
    · exact g.low c (List.mem_append_right _ hc)
  obtain ⟨A, u, eA⟩ := cutL_last (s := 32) (x := p)
  obtain ⟨v, A', eA'⟩ := cutL_cons (s := 32) (x := p')
  obtain ⟨B', u2, eB'⟩ := cutL_last (s := 32) (x := q')
  obtain ⟨v2, B, eB⟩ := cutL_cons (s := 32) (x := q)
  have mA : Mw n f (A.map ofL) := by
    have := h.wd
    unfold wdL at this
    rw [cut_app eA eA', List.map_append] at this
    exact this.pre
  have mB : Mw n f (B.map ofL) := by
    have := g.wd
    unfold wdL at this
    rw [cut_app eB' eB, show B' ++ (u2 ++ v2) :: B = (B' ++ [u2 ++ v2]) ++ B by simp, List.map_append] at this
    exact this.suf
  obtain ⟨M, hM, eM⟩ : ∃ M : List (List Nat), M.length ≤ 2 ∧ cutL 32 (p ++ m ++ q) = A ++ M ++ B := by
    match m, hm with
    | [], _ =>
      refine ⟨[u ++ v2], by simp, ?_⟩
      rw [List.append_nil, cut_app eA eB]
      simp
    | [c], _ =>
      by_cases e : c = 32
      · subst e
        refine ⟨[u, v2], by simp, ?_⟩
        have e1 : cutL 32 (p ++ [32]) = (A ++ [u]) ++ [[]] := by rw [cut_app eA cut_sep]; simp
        rw [cut_app e1 eB]
        simp
      · refine ⟨[u ++ [c] ++ v2], by simp, ?_⟩
        have e1 : cutL 32 (p ++ [c]) = A ++ [u ++ [c]] := by rw [cut_app eA (cut_one e)]
        rw [cut_app e1 eB]
        simp
    | _ :: _ :: _, h => simp at h
  unfold wdL
  rw [eM, List.map_append, List.map_append]
  have mM := Mw.small (ws := M.map ofL)
  rw [List.length_map] at mM
  exact ((mA.join mM).join mB).mono (by omega) (by omega)
/-- a text: how many lines, each of them -/
structure Mt (n f L N : Nat) (x : List Nat) : Prop where
  few : (cutL 10 x).length ≤ N
  line : ∀ l ∈ cutL 10 x, Ml n f L l
theorem Mt.mono {n f L N n' f' L' N' : Nat} {x : List Nat} (h : Mt n f L N x) (a : n ≤ n') (b : f ≤ f') (c : L ≤ L') (d : N ≤ N') : Mt n' f' L' N' x := ⟨Nat.le_trans h.few d, fun l hl => (h.line l hl).mono a b c⟩
theorem Ml.le {n f L : Nat} {l : List Nat} (h : Ml n f L l) : Ml (2 * n + 2) (2 * f + 2) (2 * L + 1) l := h.mono (by omega) (by omega) (by omega)
/-- a sign more, less, or another -/
theorem Mt.sign {n f L N : Nat} {a b k m : List Nat} (h : Mt n f L N (a ++ k ++ b)) (hk : k.length ≤ 1) (hm : m.length ≤ 1) (lm : ∀ c ∈ m, c < 128 ∧ c ≠ 10) : Mt (2 * n + 2) (2 * f + 2) (2 * L + 1) N (a ++ m ++ b) := by
  obtain ⟨A, p, eA⟩ := cutL_last (s := 10) (x := a)
  obtain ⟨q, B, eB⟩ := cutL_cons (s := 10) (x := b)
  have em : cutL 10 (a ++ m) = A ++ [p ++ m] := by
    match m, hm, lm with
    | [], _, _ => rw [List.append_nil, List.append_nil]; exact eA
    | [c], _, lm => rw [cut_app eA (cut_one (lm c List.mem_cons_self).2)]
    | _ :: _ :: _, h, _ => simp at h
  have e1 : cutL 10 (a ++ m ++ b) = A ++ (p ++ m ++ q) :: B := cut_app em eB
  have lm' : ∀ c ∈ m, c < 128 := fun c hc => (lm c hc).1
  match k, hk, h with
  | [], _, h =>
    rw [List.append_nil] at h
    obtain ⟨h1, h2⟩ := h
    rw [cut_app eA eB] at h1 h2
    refine ⟨by rw [e1]; simpa using h1, fun l hl => ?_⟩
    rw [e1] at hl
    rcases List.mem_append.mp hl with hl | hl
    · exact (h2 l (List.mem_append_left _ hl)).le
    rcases List.mem_cons.mp hl with rfl | hl
    · have := h2 (p ++ q) (by simp)
      exact this.sign this hm lm'
    · exact (h2 l (by simp [hl])).le
  | [c], _, h =>
    obtain ⟨h1, h2⟩ := h
    by_cases e : c = 10
    · subst e
      have e2 : cutL 10 (a ++ [10] ++ b) = (A ++ [p]) ++ q :: B := by
        have e3 : cutL 10 (a ++ [10]) = (A ++ [p]) ++ [[]] := by rw [cut_app eA cut_sep]; simp
        rw [cut_app e3 eB, List.nil_append]
      rw [e2] at h1 h2
      refine ⟨by rw [e1]; simp only [List.length_append, List.length_cons, List.length_nil] at h1 ⊢; omega, fun l hl => ?_⟩
      rw [e1] at hl
      rcases List.mem_append.mp hl with hl | hl
      · exact (h2 l (by simp [hl])).le
      rcases List.mem_cons.mp hl with rfl | hl
      · have x := h2 p (by simp)
        have y := h2 q (by simp)
        exact Ml.sign (p' := []) (q' := []) (by rw [List.append_nil]; exact x) y hm lm'
      · exact (h2 l (by simp [hl])).le
    · have e2 : cutL 10 (a ++ [c] ++ b) = A ++ (p ++ [c] ++ q) :: B := by
        have e3 : cutL 10 (a ++ [c]) = A ++ [p ++ [c]] := by rw [cut_app eA (cut_one e)]
        exact cut_app e3 eB
      rw [e2] at h1 h2
      refine ⟨by rw [e1]; simpa using h1, fun l hl => ?_⟩
      rw [e1] at hl
      rcases List.mem_append.mp hl with hl | hl
      · exact (h2 l (List.mem_append_left _ hl)).le
      rcases List.mem_cons.mp hl with rfl | hl
      · have x := h2 (p ++ [c] ++ q) (by simp)
        exact Ml.sign (p' := [c] ++ q) (q' := p ++ [c]) (by rw [← List.append_assoc]; exact x) x hm lm'
      · exact (h2 l (by simp [hl])).le
  | _ :: _ :: _, h, _ => simp at h
theorem empty_mw {n f : Nat} : Mw n f (wdL []) := by
  have e : wdL [] = [ofL []] := rfl
  rw [e]
  refine ⟨fun j => ?_, by rw [show ifs [ofL []] = 0 by decide +kernel]; exact Nat.zero_le _⟩
  cases j with
  | zero => exact leaf_ne (ws := [ofL []]) (by decide +kernel)
  | succ j => rw [List.drop_succ_cons, List.drop_nil]; exact lth_nil
/-- lines in another order, or more of them -/
theorem Mt.lines {n f L N M : Nat} {x : List Nat} {ls : List (List Nat)} (h : Mt n f L N x) (g : ∀ l ∈ ls, l ∈ cutL 10 x ∨ (Ml n f L l ∧ 10 ∉ l)) (k : ls.length ≤ M) (k1 : 1 ≤ M) : Mt n f L M (joinL [10] ls) := by
  cases ls with
  | nil =>
    refine ⟨k1, fun l hl => ?_⟩
    cases List.mem_singleton.mp (show l ∈ [[]] from hl)
    exact ⟨Nat.zero_le _, fun c hc => (by cases hc), empty_mw⟩
  | cons l0 ls =>
    have e : cutL 10 (joinL [10] (l0 :: ls)) = l0 :: ls := cut_join (by simp) fun p hp => by
      rcases g p hp with z | z
      · exact cut_no z
      · exact z.2
    refine ⟨by rw [e]; exact k, fun l hl => ?_⟩
    rw [e] at hl
    rcases g l hl with z | z
    · exact h.line l z
    · exact z.1
end Hw
namespace Hw
open PySem PySem.Spec PyProof.Rows L2 TL
noncomputable def rowT (l : Str) : List Str := Txt.split l " "
noncomputable def linesT (t : Str) : List Str := Txt.split t "\n"
theorem rowT_eq {l : Str} : rowT l = wdL (tl l) := row_cut
theorem linesT_eq {t : Str} : linesT t = (cutL 10 (tl t)).map ofL := lines_cut
theorem rowT_ne {l : Str} : rowT l ≠ [] := by
  rw [rowT_eq]
  unfold wdL
  exact fun z => cutL_ne (List.map_eq_nil_iff.mp z)
theorem linesT_ne {l : Str} : linesT l ≠ [] := by
  rw [linesT_eq]
  exact fun z => cutL_ne (List.map_eq_nil_iff.mp z)
theorem linesT_mem {t l : Str} : l ∈ linesT t ↔ tl l ∈ cutL 10 (tl t) := by
  rw [linesT_eq, List.mem_map]
  constructor
  · rintro ⟨x, hx, rfl⟩
    exact hx
  · intro h
    exact ⟨tl l, h, ofL_tl⟩
theorem rowT_mem {t l : Str} : l ∈ rowT t ↔ tl l ∈ cutL 32 (tl t) := by
  rw [rowT_eq]
  unfold wdL
  rw [List.mem_map]
  constructor
  · rintro ⟨x, hx, rfl⟩
    exact hx
  · intro h
    exact ⟨tl l, h, ofL_tl⟩
noncomputable def mu (ws : List Str) : Nat := (ws.map fun w => w.length + 1).sum
theorem mu_nil : mu [] = 0 := rfl
theorem mu_cons {w : Str} {ws : List Str} : mu (w :: ws) = w.length + 1 + mu ws := by
  unfold mu
  rw [List.map_cons, List.sum_cons]
theorem mu_app {a b : List Str} : mu (a ++ b) = mu a + mu b := by
  unfold mu
  rw [List.map_append, List.sum_append]
theorem mu_take {a : List Str} {k : Nat} : mu (a.take k) ≤ mu a := by
  have := mu_app (a := a.take k) (b := a.drop k)
  rw [List.take_append_drop] at this
  omega
theorem mu_drop {a : List Str} {k : Nat} : mu (a.drop k) ≤ mu a := by
  have := mu_app (a := a.take k) (b := a.drop k)
  rw [List.take_append_drop] at this
  omega
theorem mu_join {y : Str} (hy : y.length = 1) : ∀ {ws : List Str}, ws ≠ [] → (Txt.join y ws).length + 1 = mu ws
  | [], h => absurd rfl h
  | [w], _ => by
    rw [join_eq, mu_cons, mu_nil]
    rfl
  | w :: v :: r, _ => by
    have ih := mu_join hy (ws := v :: r) (by simp)
    rw [join_eq] at ih ⊢
    have e : tl (Str.join y (w :: v :: r)) = tl w ++ (tl y ++ tl (Str.join y (v :: r))) := by
      rw [tl_join, tl_join]
      rfl
    rw [mu_cons, ← ih, ← tl_len, e, List.length_append, List.length_append, tl_len, tl_len, tl_len, hy]
    omega
theorem join_empty {y : Str} : tl (Txt.join y []) = [] := by rw [join_eq]; rfl
/-- words as they lie in a line -/
structure Wl (n f L : Nat) (ws : List Str) : Prop where
  wd : Mw n f ws
  mu : mu ws ≤ L + 1
  sign : ∀ w ∈ ws, ∀ c ∈ tl w, c < 128 ∧ c ≠ 32 ∧ c ≠ 10
theorem Ml.row {n f L : Nat} {x : Str} (h : Ml n f L (tl x)) (g : 10 ∉ tl x) : Wl n f L (rowT x) := by
  refine ⟨by rw [rowT_eq]; exact h.wd, ?_, fun w hw c hc => ?_⟩
  · have e : Txt.join " " (rowT x) = x := by
      apply ext_tl
      rw [join_eq, tl_join, rowT_eq]
      unfold wdL
      rw [List.map_map, show (tl ∘ ofL) = id from funext fun l => tl_ofL, List.map_id, show tl (" " : Str) = [32] by decide +kernel, join_cut]
    have := mu_join (y := " ") (by decide +kernel) (rowT_ne (l := x))
    rw [e] at this
    have l := h.len
    rw [tl_len] at l
    omega
  · have hw' := rowT_mem.mp hw
    have h2 := cut_sub hw' c hc
    exact ⟨h.low c h2, fun z => cut_no hw' (z ▸ hc), fun z => g (z ▸ h2)⟩
theorem Wl.line {n f L : Nat} {ws : List Str} (h : Wl n f L ws) : Ml n f L (tl (Txt.join " " ws)) ∧ 10 ∉ tl (Txt.join " " ws) := by
  cases ws with
  | nil =>
    rw [join_empty]
    exact ⟨⟨Nat.zero_le _, fun c hc => (by cases hc), empty_mw⟩, by simp⟩
  | cons w r =>
    have ne : (w :: r) ≠ [] := by simp
    have hj : tl (Txt.join " " (w :: r)) = joinL [32] ((w :: r).map tl) := by rw [join_eq, tl_join, show tl (" " : Str) = [32] by decide +kernel]
    have mem : ∀ c ∈ tl (Txt.join " " (w :: r)), c < 128 ∧ c ≠ 10 := fun c hc => by
      rw [hj] at hc
      rcases mem_joinL hc with z | ⟨p, hp, z⟩
      · cases List.mem_singleton.mp z
        decide
      · obtain ⟨v, hv, rfl⟩ := List.mem_map.mp hp
        have := h.sign v hv c z
        exact ⟨this.1, this.2.2⟩
    refine ⟨⟨?_, fun c hc => (mem c hc).1, ?_⟩, fun z => (mem 10 z).2 rfl⟩
    · have := mu_join (y := " ") (by decide +kernel) ne
      rw [tl_len]
      have := h.mu
      omega
    · rw [hj]
      unfold wdL
      rw [cut_join (by simp) fun p hp => by
        obtain ⟨v, hv, rfl⟩ := List.mem_map.mp hp
        exact fun z => (h.sign v hv 32 z).2.1 rfl, List.map_map, show (ofL ∘ tl) = id from funext fun l => ofL_tl, List.map_id]
      exact h.wd
theorem Wl.part {n f L : Nat} {ws : List Str} (h : Wl n f L ws) {vs : List Str} (g : ∀ v ∈ vs, v ∈ ws) : ∀ w ∈ vs, ∀ c ∈ tl w, c < 128 ∧ c ≠ 32 ∧ c ≠ 10 := fun w hw => h.sign w (g w hw)
theorem Mw.take {n f k : Nat} {ws : List Str} (h : Mw n f ws) : Mw n f (ws.take k) := by
  rw [← List.take_append_drop k ws] at h
  exact h.pre
theorem Mw.drop {n f k : Nat} {ws : List Str} (h : Mw n f ws) : Mw n f (ws.drop k) := by
  rw [← List.take_append_drop k ws] at h
  exact h.suf
theorem sign_app {a b : List Str} (h : ∀ w ∈ a, ∀ c ∈ tl w, c < 128 ∧ c ≠ 32 ∧ c ≠ 10) (g : ∀ w ∈ b, ∀ c ∈ tl w, c < 128 ∧ c ≠ 32 ∧ c ≠ 10) : ∀ w ∈ a ++ b, ∀ c ∈ tl w, c < 128 ∧ c ≠ 32 ∧ c ≠ 10 := fun w hw => by
  rcases List.mem_append.mp hw with z | z
  · exact h w z
  · exact g w z
/-- a word less -/
theorem Wl.del {n f L j : Nat} {ws : List Str} (h : Wl n f L ws) : Wl (3 * n + 1) (2 * f + 2) (2 * L + 6) (ws.take j ++ ws.drop (j + 1)) :=
  ⟨((h.wd.take (k := j)).join (h.wd.drop (k := j + 1))).mono (by omega) (by omega), by
    have := h.mu
    have := mu_take (a := ws) (k := j)
    have := mu_drop (a := ws) (k := j + 1)
    rw [mu_app]
    omega, sign_app (h.part fun v hv => List.mem_of_mem_take hv) (h.part fun v hv => List.mem_of_mem_drop hv)⟩
/-- a word twice -/
theorem Wl.dup {n f L j : Nat} {ws : List Str} (h : Wl n f L ws) : Wl (3 * n + 1) (2 * f + 2) (2 * L + 6) (ws.take (j + 1) ++ ws.drop j) :=
  ⟨((h.wd.take (k := j + 1)).join (h.wd.drop (k := j))).mono (by omega) (by omega), by
    have := h.mu
    have := mu_take (a := ws) (k := j + 1)
    have := mu_drop (a := ws) (k := j)
    rw [mu_app]
    omega, sign_app (h.part fun v hv => List.mem_of_mem_take hv) (h.part fun v hv => List.mem_of_mem_drop hv)⟩
/-- another word -/
theorem Wl.put {n f L j : Nat} {ws : List Str} {v : Str} (h : Wl n f L ws) (l : v.length ≤ 4) (hv : ∀ c ∈ tl v, c < 128 ∧ c ≠ 32 ∧ c ≠ 10) : Wl (3 * n + 1) (2 * f + 2) (2 * L + 6) (ws.take j ++ [v] ++ ws.drop (j + 1)) := by
  have e := List.take_append_drop j ws
  have m1 := mu_app (a := ws.take j) (b := ws.drop j)
  rw [e] at m1
  have m2 := mu_drop (a := ws.drop j) (k := 1)
  rw [List.drop_drop] at m2
  refine ⟨(((h.wd.take (k := j)).join (Mw.small (ws := [v]))).join (h.wd.drop (k := j + 1))).mono ?_ ?_, ?_, sign_app (sign_app (h.part fun v hv => List.mem_of_mem_take hv) fun w hw => by rw [List.mem_singleton.mp hw]; exact hv) (h.part fun v hv => List.mem_of_mem_drop hv)⟩
  · rw [List.length_singleton]
    by_cases c : n = 0
    · omega
    · omega
  · rw [List.length_singleton]; omega
  · have := h.mu
    rw [mu_app, mu_app, mu_cons, mu_nil]
    omega
/-- a word elsewhere -/
theorem Wl.move {n f L j o : Nat} {ws : List Str} (h : Wl n f L ws) : Wl (3 * n + 1) (2 * f + 2) (2 * L + 6) ((ws.take j ++ ws.drop (j + 1)).take o ++ ((ws.drop j).take 1) ++ (ws.take j ++ ws.drop (j + 1)).drop o) := by
  have l1 : ((ws.drop j).take 1).length ≤ 1 := by rw [List.length_take]; omega
  have eM := (Mw.small (ws := (ws.drop j).take 1)).enf.mono l1
  have m1 := mu_app (a := ws.take j) (b := ws.drop j)
  rw [List.take_append_drop] at m1
  have m2 := mu_app (a := (ws.drop j).take 1) (b := (ws.drop j).drop 1)
  rw [List.take_append_drop, List.drop_drop] at m2
  have i1 := ifs_app (a := ws.take j) (b := ws.drop j)
  rw [List.take_append_drop] at i1
  have i2 := ifs_app (a := (ws.drop j).take 1) (b := (ws.drop j).drop 1)
  rw [List.take_append_drop, List.drop_drop] at i2
  have m3 := mu_app (a := (ws.take j ++ ws.drop (j + 1)).take o) (b := (ws.take j ++ ws.drop (j + 1)).drop o)
  rw [List.take_append_drop, mu_app] at m3
  have i3 := ifs_app (a := (ws.take j ++ ws.drop (j + 1)).take o) (b := (ws.take j ++ ws.drop (j + 1)).drop o)
  rw [List.take_append_drop, ifs_app] at i3
  refine ⟨⟨?_, ?_⟩, ?_, sign_app (sign_app ?_ ?_) ?_⟩
  · by_cases c : o ≤ (ws.take j).length
    · rw [List.take_append_of_le_length c, List.drop_append_of_le_length c]
      have a : Enf n ((ws.take j).take o) := (h.wd.take.take).enf
      have b : Enf (n + n) ((ws.take j).drop o ++ ws.drop (j + 1)) := (h.wd.take.drop).enf.join (h.wd.drop).enf
      exact ((a.join eM).join b).mono (by omega)
    · rw [List.take_append, List.drop_append, List.take_of_length_le (l := ws.take j) (by omega), List.drop_eq_nil_of_le (as := ws.take j) (by omega), List.nil_append]
      have a : Enf (n + n) (ws.take j ++ (ws.drop (j + 1)).take (o - (ws.take j).length)) := (h.wd.take).enf.join (h.wd.drop.take).enf
      have b : Enf n ((ws.drop (j + 1)).drop (o - (ws.take j).length)) := (h.wd.drop.drop).enf
      exact ((a.join eM).join b).mono (by omega)
  · have := h.wd.ifs
    rw [ifs_app, ifs_app]
    omega
  · have := h.mu
    rw [mu_app, mu_app]
    omega
  · exact h.part fun v hv => by
      rcases List.mem_append.mp (List.mem_of_mem_take hv) with z | z
      · exact List.mem_of_mem_take z
      · exact List.mem_of_mem_drop z
  · exact h.part fun v hv => List.mem_of_mem_drop (List.mem_of_mem_take hv)
  · exact h.part fun v hv => by
      rcases List.mem_append.mp (List.mem_of_mem_drop hv) with z | z
      · exact List.mem_of_mem_take z
      · exact List.mem_of_mem_drop z
/-- a text of such lines -/
theorem Mt.text {n f L N n' f' L' M : Nat} {t : Str} (h : Mt n f L N (tl t)) (a : n ≤ n') (b : f ≤ f') (c : L ≤ L') {ls : List Str} (g : ∀ l ∈ ls, l ∈ linesT t ∨ (Ml n' f' L' (tl l) ∧ 10 ∉ tl l)) (k : ls.length ≤ M) (k1 : 1 ≤ M) : Mt n' f' L' M (tl (Txt.join "\n" ls)) := by
  rw [join_eq, tl_join, show tl ("\n" : Str) = [10] by decide +kernel]
  refine (h.mono a b c (Nat.le_refl N)).lines (fun l hl => ?_) (by rw [List.length_map]; exact k) k1
  obtain ⟨x, hx, rfl⟩ := List.mem_map.mp hl
  rcases g x hx with z | z
  · exact .inl (linesT_mem.mp z)
  · exact .inr z
theorem Mt.row {n f L N : Nat} {t l : Str} (h : Mt n f L N (tl t)) (hl : l ∈ linesT t) : Wl n f L (rowT l) := (h.line _ (linesT_mem.mp hl)).row (cut_no (linesT_mem.mp hl))
theorem mu_le {L : Nat} : ∀ {ls : List Str}, (∀ l ∈ ls, l.length ≤ L) → mu ls ≤ ls.length * (L + 1)
  | [], _ => Nat.zero_le _
  | l :: ls, h => by
    have := mu_le (ls := ls) fun x hx => h x (List.mem_cons_of_mem _ hx)
    have := h l List.mem_cons_self
    rw [mu_cons, List.length_cons, Nat.succ_mul]
    omega
theorem Mt.len {n f L N : Nat} {t : Str} (h : Mt n f L N (tl t)) : t.length + 1 ≤ N * (L + 1) := by
  have e : Txt.join "\n" (linesT t) = t := by
    apply ext_tl
    rw [join_eq, tl_join, linesT_eq, List.map_map, show (tl ∘ ofL) = id from funext fun l => tl_ofL, List.map_id, show tl ("\n" : Str) = [10] by decide +kernel, join_cut]
  have a := mu_join (y := "\n") (by decide +kernel) (linesT_ne (l := t))
  rw [e] at a
  have b := mu_le (L := L) (ls := linesT t) fun l hl => by
    have := (h.line _ (linesT_mem.mp hl)).len
    rw [tl_len] at this
    exact this
  have c : (linesT t).length ≤ N := by rw [linesT_eq, List.length_map]; exact h.few
  have := Nat.mul_le_mul_right (L + 1) c
  omega
end Hw
namespace Hw
open PySem PySem.Spec PyProof.Rows L2 TL
noncomputable def rAddS : R2 := fun x y H Q => ∃ i j, x = .str i ∧ y = .str j ∧ i.length + j.length ≤ sizeLine ∧ Q (.str (i ++ j)) H
theorem opAddS {X : Cx} : OpR X (binaryOp .Add) rAddS := op_add_str
section
variable {H : Hp} {Q : VK} {σ : L2.St} {K : PySem.W.Frag}
theorem r_addS {a b : Str} (z : a.length + b.length ≤ sizeLine) (q : Q (.str (a ++ b)) H) : rAddS (.str a) (.str b) H Q := ⟨a, b, rfl, rfl, z, q⟩
theorem r_slS {z : Str} {lo hi : Option Int} (h : z.length ≤ sizeLine) (q : Q (.str (cutS z lo hi)) H) : rSlS (.str z) lo hi H Q := ⟨z, rfl, h, q⟩
theorem peRevL {X : Cx} {e : Expr} {te : TE} {k : Nat} {p1 p2 p3 pos : Pos} (he : PE X e te) (h : X.K = K := by rfl) : PE X (.Subscript e (.Slice none none (some (.UnaryOp .USub (.Constant (.int 1) k p1) p2)) p3) pos) (tRevL K te) := h ▸ pe_revL he
noncomputable def RevV (K : PySem.W.Frag) (Q : VK) : V → Hp → Prop := fun x H1 => ∃ a xs, x = .ref a ∧ SqL K H1 a xs ∧ ∀ p, H1 p = none → Q (.ref p) (upd H1 p (.lst xs.reverse))
theorem r_revL {te : TE} (h : te σ H (RevV K Q)) : tRevL K te σ H Q := h
theorem r_revV {a : Addr} {xs : List V} (h : SqL K H a xs) (q : ∀ p H1, H p = none → H1 p = some (.lst xs.reverse) → Keep [] H H1 → Q (.ref p) H1) : RevV K Q (.ref a) H := ⟨a, xs, rfl, h, fun p hp => q p _ hp upd_same (Keep.new hp)⟩
theorem cutS_to {z : Str} {k : Nat} : tl (cutS z none (some (k : Int))) = (tl z).take k := by
  show ((tl z).drop 0).take (HT.sIx z.length z.length (some (k : Int)) - 0) = _
  rw [HT.sIx_nat, List.drop_zero, Nat.sub_zero, len_tl]
  by_cases h : k ≤ (tl z).length
  · rw [Nat.min_eq_left h]
  · rw [Nat.min_eq_right (by omega), List.take_of_length_le (Nat.le_refl _), List.take_of_length_le (by omega)]
theorem cutS_from {z : Str} {k : Nat} : tl (cutS z (some (k : Int)) none) = (tl z).drop k := by
  show ((tl z).drop (HT.sIx z.length 0 (some (k : Int)))).take (z.length - HT.sIx z.length 0 (some (k : Int))) = _
  rw [HT.sIx_nat, len_tl]
  by_cases h : k ≤ (tl z).length
  · rw [Nat.min_eq_left h, List.take_of_length_le (by rw [List.length_drop]; exact Nat.le_refl _)]
  · rw [Nat.min_eq_right (by omega), Nat.sub_self, List.take_zero, List.drop_eq_nil_of_le (by omega)]
theorem cutV_up {xs : List V} {k : Nat} : cutV xs none (some (k : Int)) = xs.take k := by
  show (xs.drop 0).take (HT.sIx xs.length xs.length (some (k : Int)) - 0) = _
  rw [HT.sIx_nat, List.drop_zero, Nat.sub_zero]
  by_cases h : k ≤ xs.length
  · rw [Nat.min_eq_left h]
  · rw [Nat.min_eq_right (by omega), List.take_of_length_le (Nat.le_refl _), List.take_of_length_le (by omega)]
theorem cutV_down {xs : List V} {k : Nat} : cutV xs (some (k : Int)) none = xs.drop k := by
  show (xs.drop (HT.sIx xs.length 0 (some (k : Int)))).take (xs.length - HT.sIx xs.length 0 (some (k : Int))) = _
  rw [HT.sIx_nat]
  by_cases h : k ≤ xs.length
  · rw [Nat.min_eq_left h, List.take_of_length_le (by rw [List.length_drop]; exact Nat.le_refl _)]
  · rw [Nat.min_eq_right (by omega), Nat.sub_self, List.take_zero, List.drop_eq_nil_of_le (by omega)]
end
end Hw
namespace Hw
open PySem PySem.Spec PyProof.Rows L2
section
noncomputable def top (i : Nat) : Stmt := PySem.Challenge.pw_handways_k12_texts_refused.main.body.getD i (.Pass ⟨0, 0, 0, 0⟩)
local macro_rules | `(tactic| walk_at "sz") => `(tactic| first | exact Nat.le_of_ble_eq_true rfl | exact small (by first | omega | (simp; done) | (simp; omega)))
local macro_rules | `(tactic| walk_at "szT") => `(tactic| first | exact Nat.lt_of_lt_of_le (Nat.lt_succ_self _) (Nat.le_of_ble_eq_true rfl) | exact smallT (by first | omega | (simp; done) | (simp; omega)))
local macro_rules | `(tactic| walk_at "cond") => `(tactic| first | decide | omega | (dsimp only; omega) | exact ⟨by omega, by omega⟩ | exact .inr ⟨by decide, by decide⟩)
local macro_rules | `(tactic| walk_at "sq") => `(tactic| first | assumption | exact SqL.of (by assumption) | exact SqT.of (by assumption))
local macro_rules | `(tactic| walk_at "ty") => `(tactic| first | (with_reducible assumption) | exact .base (.int _) | exact .base (.str _) | exact .base (.bl _) | exact .base .non | exact tyT (by walk_at "sq") | exact tyL (by walk_at "sq"))
local macro_rules | `(tactic| walk_at "rd") => `(tactic| repeat (first
  | ((with_reducible apply r_var); exact rfl)
  | ((with_reducible apply r_cons))
  | ((with_reducible apply r_c))
  | ((with_reducible apply r_op))
  | ((with_reducible apply r_nil))
  | ((with_reducible apply r_bl))
  | ((with_reducible apply r_seq))
  | ((with_reducible apply r_test))
  | ((with_reducible apply r_if))
  | ((with_reducible apply r_ixT); (walk_at "sq"); first | exact rfl | assumption)
  | ((with_reducible apply r_name))
  | ((with_reducible apply r_call))
  | ((fail_if_success (first | (with_reducible apply stopAsk) | (with_reducible intro _) | (with_reducible apply stopEx) | (with_reducible apply stopFor) | (with_reducible apply stopLc) | (with_reducible apply stopAnd) | (with_reducible apply stopOr))); first
    | ((with_reducible apply ite_t); (first | (with_reducible exact nRN) | (with_reducible exact nIN) | (with_reducible exact dNN) | decide +kernel))
    | ((with_reducible apply ite_f); (first | (with_reducible exact dRN) | (with_reducible exact dIN) | (with_reducible exact nNN) | decide +kernel))
    | ((with_reducible apply r_next))
    | ((with_reducible apply r_eq); exact rfl)
    | ((with_reducible apply new); (walk_at "sz"))
    | ((with_reducible apply r_ret))
    | ((with_reducible apply r_asg))
    | ((with_reducible apply r_cb))
    | ((with_reducible apply r_tup))
    | ((with_reducible apply r_B))
    | ((with_reducible apply r_I0))
    | ((with_reducible apply r_drop))
    | ((with_reducible apply r_isi); (walk_at "ty"); (decide +kernel))
    | ((with_reducible apply r_ixL); (walk_at "sq"); first | exact rfl | assumption)
    | ((with_reducible apply r_fld))
    | ((with_reducible apply r_fld1); assumption; assumption; assumption; (first | exact rfl | assumption))
    | ((with_reducible apply r_gcons))
    | ((with_reducible apply r_lst))
    | ((with_reducible apply r_not))
    | ((with_reducible apply r_for))
    | ((with_reducible apply r_isL); (walk_at "sq"))
    | ((with_reducible apply r_append))
    | ((with_reducible apply r_dgetS); assumption; (walk_at "dk"))
    | ((with_reducible apply r_app); assumption; (walk_at "szT"))
    | ((with_reducible apply r_dget))
    | ((with_reducible apply r_in); (first | exact .inl (by walk_at "sq") | exact .inr (by walk_at "sq")); exact rfl; (first | exact nums_flat | exact rfl))
    | ((with_reducible apply r_notN))
    | ((with_reducible apply r_ifE))
    | ((with_reducible apply r_sfld))
    | ((with_reducible apply r_sfld1); assumption; assumption; assumption; exact (by decide))
    | ((with_reducible apply r_lc))
    | ((with_reducible apply r_iTup))
    | ((with_reducible apply r_gtup); (walk_at "sq"); rfl)
    | ((with_reducible apply r_gnil))
    | ((with_reducible apply r_lenT); (walk_at "sq"))
    | ((with_reducible apply r_overT); (walk_at "sq"))
    | ((with_reducible apply r_I); (walk_at "cond"))
    | ((with_reducible apply acc); assumption; (walk_at "szT"))
    | ((with_reducible apply r_ne); exact rfl)
    | ((with_reducible apply r_tupL); (walk_at "sq"))
    | ((with_reducible apply r_isN))
    | ((with_reducible apply r_iRng1))
    | ((with_reducible apply r_rng); (first | decide | omega | (simp; omega)); (first | decide | omega | (simp; omega)))
    | ((with_reducible apply r_lenL); (walk_at "sq"))
    | ((with_reducible apply r_ixA); (first | exact .inl (by walk_at "sq") | exact .inr (by walk_at "sq")); first | exact rfl | assumption)
    | ((with_reducible apply r_isiT2); assumption; (walk_at "ty"); (decide +kernel); (decide +kernel))
    | ((with_reducible apply r_retN))
    | ((with_reducible apply r_int))
    | ((with_reducible apply r_intB))
    | ((with_reducible apply r_notV))
    | ((with_reducible apply r_andV))
    | ((with_reducible apply r_orV))
    | ((with_reducible apply r_chain))
    | ((with_reducible apply turn))
    | ((with_reducible apply r_iList))
    | ((with_reducible apply r_overL); (walk_at "sq"))
    | ((with_reducible apply r_sub))
    | ((with_reducible apply r_setL); assumption; exact rfl)
    | ((with_reducible apply r_par))
    | ((with_reducible apply r_par2))
    | ((with_reducible apply r_sl))
    | ((with_reducible apply r_part))
    | ((with_reducible apply r_part1))
    | ((with_reducible apply r_noPart))
    | ((with_reducible apply r_slL); (walk_at "sq"))
    | ((with_reducible apply r_slA); (walk_at "sq"))
    | ((with_reducible apply r_tupT); (walk_at "sq"))
    | ((with_reducible apply r_lstL); (walk_at "sq"))
    | ((with_reducible apply r_lstT); (walk_at "sq"))
    | ((with_reducible apply r_dput))
    | ((with_reducible apply r_dputS); assumption; (walk_at "szT"))
    | ((with_reducible apply r_disp))
    | ((with_reducible apply r_pnil))
    | ((with_reducible apply r_pcons)))))
section
variable {P : Program} {w : World} {K : PySem.W.Frag} {mg : Str → Option Value} {base : Heap}
/-- the script: locked, or written -/
noncomputable def Scr (K : PySem.W.Frag) (H : Hp) (a : Addr) (ns : List Int) : Prop := (∃ o, H a = some (.frz o (.lst (ns.map V.int)))) ∨ ((fun _ => none : Hp) a = none ∧ SqL K (fun _ => none) a (ns.map V.int))
theorem Scr.sq {H : Hp} {a : Addr} {ns : List Int} (h : Scr K H a ns) : SqL K H a (ns.map V.int) := by
  rcases h with ⟨o, h⟩ | ⟨_, h⟩
  · exact .inl (.inr ⟨o, h⟩)
  · rcases h with (h | ⟨o, h⟩) | h
    · cases h
    · cases h
    · exact .inr h
theorem Scr.ts {H H1 : Hp} {a : Addr} {ns : List Int} (h : Scr K H a ns) (t : Tst H H1) : Scr K H1 a ns := by
  rcases h with ⟨o, h⟩ | h
  · exact .inl ⟨o, t.2 _ _ _ h⟩
  · exact .inr h
noncomputable def Row (K : PySem.W.Frag) (H : Hp) (r : Addr) : Prop := ∃ (scr : Addr) (ns : List Int) (i m d : Int), H r = some (.lst [.ref scr, .int i, .int m, .int d]) ∧ Scr K H scr ns ∧ 0 ≤ i
theorem Row.keep {M : List Addr} {H H1 : Hp} {r : Addr} (h : Row K H r) (k : Keep M H H1) (n : r ∉ M) (t : Tst H H1) : Row K H1 r := by
  obtain ⟨scr, ns, i, m, d, hR, hS, i0⟩ := h
  exact ⟨scr, ns, i, m, d, k _ _ hR n, hS.ts t, i0⟩
theorem keep_ts0 {H H1 : Hp} (k : Keep [] H H1) : Tst H H1 := k.ts fun _ z => nomatch z
theorem Row.keep0 {H H1 : Hp} {r : Addr} (h : Row K H r) (k : Keep [] H H1) : Row K H1 r := h.keep k (by simp) (keep_ts0 k)
theorem Row.lo {H : Hp} {r : Addr} (h : Row K H r) : Lo H [r] := fun a ha => by
  obtain ⟨scr, ns, i, m, d, hR, hS, i0⟩ := h
  cases List.mem_singleton.mp ha
  exact .inl ⟨_, hR⟩
theorem Row.ts {H H1 : Hp} {r : Addr} (h : Row K H r) (k : Keep [r] H H1) : Tst H H1 := k.ts h.lo
theorem Row.ne {H : Hp} {r : Addr} (h : Row K H r) : H r ≠ none := by
  obtain ⟨scr, ns, i, m, d, hR, _⟩ := h
  rw [hR]
  exact fun z => nomatch z
noncomputable def spTaken (K : PySem.W.Frag) : Sp := fun vs H Q _ => ∃ (r : Addr) (many : Int), vs = [.ref r, .int many] ∧ 0 < many ∧ many ≤ 1000000 ∧ Row K H r ∧
  ∀ (v : Int) (H' : Hp), 0 ≤ v → v < many → Keep [r] H H' → Row K H' r → Q (.int v) H'
noncomputable abbrev sL_taken : Stmt := top 43
noncomputable abbrev nL_taken : List Str := ["_law_row", "_law_many", "_law_found", "_law_cell"]
noncomputable abbrev pL_taken : List Str := ["_law_row", "_law_many"]
theorem scL_taken : FnScope nL_taken pL_taken (defScope sL_taken) := ⟨rfl, rfl, rfl, by decide +kernel, rfl, by decide +kernel, by decide +kernel⟩
theorem okTaken (D : DefAt K mg "_law_taken" sL_taken pL_taken) (T : Blt mg) : Callee P w K mg base "_law_taken" 1 pL_taken (spTaken K) := by
  refine D.ok scL_taken (fun vs H Q E h => ?_) (fun f cdv A outer s H vs Q E hr h => ?_)
  · obtain ⟨r, many, rfl, _⟩ := h
    rfl
  obtain ⟨r, many, rfl, m0, m1, ⟨scr, ns, i, m, d, hR, hC, i0⟩, q⟩ := h
  have hS := hC.sq
  have lo : ∀ {H0 : Hp} {xs : List V}, H0 r = some (.lst xs) → Lo H0 [r] := fun e a ha => by
    cases List.mem_singleton.mp ha
    exact .inl ⟨_, e⟩
  refine ⟨_, (pss_cons (ps_if (pt_cmpR op_gt (pe_ix (ixL (K := K)) (pv 0) pe_int (fun _ _ => rfl)) pe_int (nomark _)) (pss_cons (ps_set (i := 2) scL_taken.nd rfl (Or.inl rfl) (pe_op op_mod (pe_ix (ixL (K := K)) (pv 0) pe_int (fun _ _ => rfl)) (pv 1)))
  (pss_cons (ps_asg (pe_op op_fdiv (pe_ix (ixL (K := K)) (pv 0) pe_int (fun _ _ => rfl)) (pv 1)) (pg_sub (pv 0) pe_int set_list))
  (pss_one (ps_ret (pv 2))))) pss_nil)
  (pss_cons (ps_asg (pe_op op_add (pe_ix (ixL (K := K)) (pv 0) pe_int (fun _ _ => rfl)) pe_int) (pg_sub (pv 0) pe_int set_list))
  (pss_cons (ps_if (pt_cmpR op_gt (pe_ix (ixL (K := K)) (pv 0) pe_int (fun _ _ => rfl)) (pe_callB (cLen (K := K)) (by rfl) T.len PySem.boot_len (pa_cons (pe_ix (ixL (K := K)) (pv 0) pe_int (fun _ _ => rfl)) pa_nil)) (nomark _)) (pss_cons (ps_asg (pe_op op_mod (pe_op op_add (pe_op op_mul (pe_ix (ixL (K := K)) (pv 0) pe_int (fun _ _ => rfl)) pe_int) pe_int) pe_int) (pg_sub (pv 0) pe_int set_list))
  (pss_one (ps_ret (pe_op op_mod (pe_op op_fdiv (pe_ix (ixL (K := K)) (pv 0) pe_int (fun _ _ => rfl)) pe_int) (pv 1))))) pss_nil)
  (pss_cons (ps_set (i := 3) scL_taken.nd rfl (Or.inl rfl) (pe_ix (ixL (K := K)) (pe_ix (ixL (K := K)) (pv 0) pe_int (fun _ _ => rfl)) (pe_op op_sub (pe_ix (ixL (K := K)) (pv 0) pe_int (fun _ _ => rfl)) pe_int) (fun _ _ => rfl)))
  (pss_cons (ps_asg (pe_op op_mod (pe_op op_add (pe_op op_add (pe_op op_mul (pe_ix (ixL (K := K)) (pv 0) pe_int (fun _ _ => rfl)) pe_int) (pv 3)) pe_int) pe_int) (pg_sub (pv 0) pe_int set_list))
  (pss_cons (ps_if (pt_cmpR op_ge (pv 3) (pe_op op_pow pe_int pe_int) (nomark _)) (pss_one (ps_asg (pe_op op_fdiv (pv 3) (pv 1)) (pg_sub (pv 0) pe_int set_list))) pss_nil)
  (pss_one (ps_ret (pe_op op_mod (pv 3) (pv 1)))))))))), ?_⟩
  walk_at "rd"
  refine ite2 (fun c => ?_) (fun c => ?_)
  · walk_at "rd"
    intro H1 h1 k1
    walk_at "rd"
    exact q _ _ (Int.emod_nonneg _ (by omega)) (Int.emod_lt_of_pos _ m0) k1 ⟨scr, ns, i, m, _, h1, hC.ts (k1.ts (lo hR)), i0⟩
  · walk_at "rd"
    intro H1 h1 k1
    have hC1 := hC.ts (k1.ts (lo hR))
    have hS1 := hC1.sq
    walk_at "rd"
    refine ite2 (fun c2 => ?_) (fun c2 => ?_)
    · walk_at "rd"
      intro H2 h2 k2
      walk_at "rd"
      exact q _ _ (Int.emod_nonneg _ (by omega)) (Int.emod_lt_of_pos _ m0) (k1.trans k2) ⟨scr, ns, i + 1, _, d, h2, hC1.ts (k2.ts (lo h1)), by omega⟩
    · have c3 : ¬ ((ns.map V.int).length : Int) < i + 1 := of_decide_eq_false (Bool.eq_false_iff.mpr c2)
      rw [List.length_map] at c3
      have e3 : atI (ns.map V.int) (i + 1 - 1) = some (V.int (ns.getD i.toNat 0)) := by
        have e4 : i + 1 - 1 = ((i.toNat : Nat) : Int) := by omega
        rw [e4]
        refine atI_nat ?_
        rw [List.getElem?_map, List.getElem?_eq_getElem (by omega), List.getD_eq_getElem?_getD, List.getElem?_eq_getElem (by omega)]
        rfl
      walk_at "rd"
      intro H2 h2 k2
      have hC2 := hC1.ts (k2.ts (lo h1))
      have hS2 := hC2.sq
      walk_at "rd"
      refine ite2 (fun c4 => ?_) (fun c4 => ?_)
      · walk_at "rd"
        intro H3 h3 k3
        walk_at "rd"
        exact q _ _ (Int.emod_nonneg _ (by omega)) (Int.emod_lt_of_pos _ m0) (k1.trans (k2.trans k3)) ⟨scr, ns, i + 1, _, _, h3, hC2.ts (k3.ts (lo h2)), by omega⟩
      · walk_at "rd"
        exact q _ _ (Int.emod_nonneg _ (by omega)) (Int.emod_lt_of_pos _ m0) (k1.trans k2) ⟨scr, ns, i + 1, _, _, h2, hC2, by omega⟩
end
end
local macro_rules | `(tactic| walk_at "sz") => `(tactic| first | exact Nat.le_of_ble_eq_true rfl | exact small (by first | omega | (simp; done) | (simp; omega)))
local macro_rules | `(tactic| walk_at "szT") => `(tactic| first | exact Nat.lt_of_lt_of_le (Nat.lt_succ_self _) (Nat.le_of_ble_eq_true rfl) | exact smallT (by first | omega | (simp; done) | (simp; omega)))
local macro_rules | `(tactic| walk_at "cond") => `(tactic| first | decide | omega | (dsimp only; omega) | exact ⟨by omega, by omega⟩ | exact .inr ⟨by decide, by decide⟩)
local macro_rules | `(tactic| walk_at "sq") => `(tactic| first | assumption | exact SqL.of (by assumption) | exact SqT.of (by assumption))
local macro_rules | `(tactic| walk_at "ty") => `(tactic| first | (with_reducible assumption) | exact .base (.int _) | exact .base (.str _) | exact .base (.bl _) | exact .base .non | exact tyT (by walk_at "sq") | exact tyL (by walk_at "sq"))
local macro_rules | `(tactic| walk_at "rd") => `(tactic| repeat (first
  | ((with_reducible apply r_var); exact rfl)
  | ((with_reducible apply r_cons))
  | ((with_reducible apply r_c))
  | ((with_reducible apply r_op))
  | ((with_reducible apply r_nil))
  | ((with_reducible apply r_bl))
  | ((with_reducible apply r_seq))
  | ((with_reducible apply r_test))
  | ((with_reducible apply r_if))
  | ((with_reducible apply r_ixT); (walk_at "sq"); first | exact rfl | assumption)
  | ((with_reducible apply r_name))
  | ((with_reducible apply r_call))
  | ((fail_if_success (first | (with_reducible apply stopAsk) | (with_reducible intro _) | (with_reducible apply stopEx) | (with_reducible apply stopFor) | (with_reducible apply stopLc) | (with_reducible apply stopAnd) | (with_reducible apply stopOr))); first
  | ((with_reducible apply ite_t); (first | (with_reducible exact nRN) | (with_reducible exact nIN) | (with_reducible exact dNN) | decide +kernel))
    | ((with_reducible apply ite_f); (first | (with_reducible exact dRN) | (with_reducible exact dIN) | (with_reducible exact nNN) | decide +kernel))
    | ((with_reducible apply r_next))
    | ((with_reducible apply r_eq); exact rfl)
    | ((with_reducible apply new); (walk_at "sz"))
    | ((with_reducible apply r_ret))
    | ((with_reducible apply r_asg))
    | ((with_reducible apply r_cb))
    | ((with_reducible apply r_tup))
    | ((with_reducible apply r_B))
    | ((with_reducible apply r_I0))
    | ((with_reducible apply r_drop))
    | ((with_reducible apply r_isi); (walk_at "ty"); (decide +kernel))
    | ((with_reducible apply r_ixL); (walk_at "sq"); first | exact rfl | assumption)
    | ((with_reducible apply r_fld))
    | ((with_reducible apply r_fld1); assumption; assumption; assumption; (first | exact rfl | assumption))
    | ((with_reducible apply r_fld1); assumption; assumption; assumption; (walk_at "lk"))
    | ((with_reducible apply r_gcons))
    | ((with_reducible apply r_lst))
    | ((with_reducible apply r_not))
    | ((with_reducible apply r_for))
    | ((with_reducible apply r_isL); (walk_at "sq"))
    | ((with_reducible apply r_append))
    | ((with_reducible apply r_dgetS); assumption; (walk_at "dk"))
    | ((with_reducible apply r_app); assumption; (walk_at "szT"))
    | ((with_reducible apply r_dget))
    | ((with_reducible apply r_in); (first | exact .inl (by walk_at "sq") | exact .inr (by walk_at "sq")); exact rfl; (first | exact nums_flat | exact rfl))
    | ((with_reducible apply r_notN))
    | ((with_reducible apply r_ifE))
    | ((with_reducible apply r_sfld))
    | ((with_reducible apply r_sfld1); assumption; assumption; assumption; exact (by decide))
    | ((with_reducible apply r_sfld1); assumption; assumption; assumption; exact Nat.le_of_ble_eq_true rfl)
    | ((with_reducible apply r_lc))
    | ((with_reducible apply r_iTup))
    | ((with_reducible apply r_gtup); (walk_at "sq"); rfl)
    | ((with_reducible apply r_gnil))
    | ((with_reducible apply r_lenT); (walk_at "sq"))
    | ((with_reducible apply r_overT); (walk_at "sq"))
    | ((with_reducible apply r_I); (walk_at "cond"))
    | ((with_reducible apply acc); assumption; (walk_at "szT"))
    | ((with_reducible apply r_ne); exact rfl)
    | ((with_reducible apply r_tupL); (walk_at "sq"))
    | ((with_reducible apply r_isN))
    | ((with_reducible apply r_iRng1))
    | ((with_reducible apply r_rng); (first | decide | omega | (simp; omega)); (first | decide | omega | (simp; omega)))
    | ((with_reducible apply r_lenL); (walk_at "sq"))
    | ((with_reducible apply r_ixA); (first | exact .inl (by walk_at "sq") | exact .inr (by walk_at "sq")); first | exact rfl | assumption)
    | ((with_reducible apply r_isiT2); assumption; (walk_at "ty"); (decide +kernel); (decide +kernel))
    | ((with_reducible apply r_retN))
    | ((with_reducible apply r_int))
    | ((with_reducible apply r_intB))
    | ((with_reducible apply r_notV))
    | ((with_reducible apply r_andV))
    | ((with_reducible apply r_orV))
    | ((with_reducible apply r_chain))
    | ((with_reducible apply turn))
    | ((with_reducible apply r_iList))
    | ((with_reducible apply r_overL); (walk_at "sq"))
    | ((with_reducible apply r_sub))
    | ((with_reducible apply r_setL); assumption; exact rfl)
    | ((with_reducible apply r_par))
    | ((with_reducible apply r_par2))
    | ((with_reducible apply r_sl))
    | ((with_reducible apply r_part))
    | ((with_reducible apply r_part1))
    | ((with_reducible apply r_noPart))
    | ((with_reducible apply r_slL); (walk_at "sq"))
    | ((with_reducible apply r_slA); (walk_at "sq"))
    | ((with_reducible apply r_tupT); (walk_at "sq"))
    | ((with_reducible apply r_lstL); (walk_at "sq"))
    | ((with_reducible apply r_lstT); (walk_at "sq"))
    | ((with_reducible apply r_dput))
    | ((with_reducible apply r_dputS); assumption; (walk_at "szT"))
    | ((with_reducible apply r_disp))
    | ((with_reducible apply r_pnil))
    | ((with_reducible apply r_pcons))
    | ((with_reducible apply r_enumT))
    | ((with_reducible apply r_overE); (walk_at "sq"))
    | ((with_reducible apply r_zipA))
    | ((with_reducible apply r_zipT); (walk_at "sq"); (walk_at "sq"))
    | ((with_reducible apply r_zip3))
    | ((with_reducible apply r_overZ3); (walk_at "sq"); (walk_at "sq"); (walk_at "sq"))
    | ((with_reducible apply r_make))
    | ((with_reducible apply r_isiC); assumption; assumption; assumption)
    | ((with_reducible apply r_popM))
    | ((with_reducible apply r_pop); assumption)
    | ((with_reducible apply r_tru))
    | ((with_reducible apply r_truL); (walk_at "sq"))
    | ((with_reducible apply r_str); (first | omega | assumption))
    | ((with_reducible apply r_lenS); (first | assumption | omega))
    | ((with_reducible apply r_m1))
    | ((with_reducible apply r_isS))
    | ((with_reducible apply r_un))
    | ((with_reducible apply r_neg))
    | ((with_reducible apply r_inS))
    | ((with_reducible apply r_star))
    | ((with_reducible apply r_spread); (walk_at "sq"))
    | ((with_reducible apply r_revA))
    | ((with_reducible apply r_overV); (walk_at "sq"))
    | ((with_reducible apply r_enumL))
    | ((with_reducible apply r_overEL); (walk_at "sq"))
    | ((with_reducible apply r_revR))
    | ((with_reducible apply r_revOf); (first | omega | decide))
    | ((with_reducible apply r_zipT3))
    | ((with_reducible apply r_overZT3); (walk_at "sq"); (walk_at "sq"); (walk_at "sq"))
    | ((with_reducible apply r_rep1); assumption; (first | omega | (simp; omega)))
    | ((with_reducible apply r_addS); (first | assumption | omega))
    | ((with_reducible apply r_slS); (first | assumption | omega))
    | ((with_reducible apply r_revL))
    | ((with_reducible apply r_revV); (walk_at "sq")))))
section
section
variable {P : Program} {w : World} {K : PySem.W.Frag} {mg : Str → Option Value} {base : Heap}
noncomputable def spThing (K : PySem.W.Frag) (n : Nat) : Sp := fun vs H Q _ => ∃ (r sz : Addr) (p o : Nat) (wi : Int), vs = [.ref r, .ref sz, .int wi] ∧ Row K H r ∧ SqT K H sz [.int (p : Int), .int (o : Int)] ∧ p ≤ 100 ∧ o ≤ 100 ∧ 0 ≤ wi ∧ wi < n ∧
  ∀ (v : V) (t : Th) (H' : Hp), Rp K H' v t.enc → t.ok p o (wi.toNat + 1) → Keep [r] H H' → Row K H' r → Q v H'
noncomputable abbrev sL_thing : Stmt := top 45
noncomputable abbrev nL_thing : List Str := ["_law_row", "_law_sizes", "_law_within", "_law_way"]
noncomputable abbrev pL_thing : List Str := ["_law_row", "_law_sizes", "_law_within"]
theorem scL_thing : FnScope nL_thing pL_thing (defScope sL_thing) := ⟨rfl, rfl, rfl, by decide +kernel, rfl, by decide +kernel, by decide +kernel⟩
noncomputable abbrev sL_place : Stmt := top 46
noncomputable abbrev nL_place : List Str := ["_law_row", "_law_sizes", "_law_within", "_law_thing_here"]
noncomputable abbrev pL_place : List Str := ["_law_row", "_law_sizes", "_law_within"]
theorem scL_place : FnScope nL_place pL_place (defScope sL_place) := ⟨rfl, rfl, rfl, by decide +kernel, rfl, by decide +kernel, by decide +kernel⟩
theorem okThing (D : DefAt K mg "_law_thing" sL_thing pL_thing) (T : Blt mg) (C_law_taken : Callee P w K mg base "_law_taken" 1 pL_taken (spTaken K)) : ∀ n : Nat, Callee P w K mg base "_law_thing" (n + 2) pL_thing (spThing K n)
  | 0 => D.none fun vs H Q E h => by
    obtain ⟨r, sz, p, o, wi, rfl, _, _, _, _, h1, h2, _⟩ := h
    omega
  | n + 1 => by
    have C_law_thing := okThing D T C_law_taken n
    refine D.ok scL_thing (fun vs H Q E h => ?_) (fun f cdv A outer s H vs Q E hr h => ?_)
    · obtain ⟨r, sz, p, o, wi, rfl, _⟩ := h
      rfl
    obtain ⟨r, sz, p, o, wi, rfl, hR, hsz, p1, o1, w0, w1, q⟩ := h
    have e1 : atI ([.int 5, .int 8] : List V) (if decide (0 < wi) = true then 1 else 0) = some (.int (if 0 < wi then 8 else 5)) := by
      by_cases h : 0 < wi
      · simp only [h, decide_true, if_true]; rfl
      · simp only [h, decide_false, if_false]; rfl
    refine ⟨_, (pss_cons (ps_set (i := 3) scL_thing.nd rfl (Or.inl rfl) (pcall C_law_taken (hr.mono (by first | exact Nat.le_of_ble_eq_true rfl | omega)) rfl (pa_cons (pv 0) (pa_cons (pe_ix (ixL (K := K)) (pe_lst (pa_cons pe_int (pa_cons pe_int pa_nil))) (pe_callTy c_int (by rfl) T.int (by decide +kernel) (pa_cons (pe_cmpR op_gt (pv 2) pe_int (nomark _)) pa_nil)) (fun _ _ => rfl)) pa_nil))))
  (pss_cons (ps_if (PW.pt (pw_and (pt_cmpR op_lt (pv 3) pe_int (nomark _)) (pw_and1 (pt_cmpR op_gt (pe_ix (ixT (K := K)) (pv 1) pe_int (fun _ _ => rfl)) pe_int (nomark _))))) (pss_one (ps_ret (pe_tup (pa_cons pe_str (pa_cons (pcall C_law_taken (hr.mono (by first | exact Nat.le_of_ble_eq_true rfl | omega)) rfl (pa_cons (pv 0) (pa_cons (pe_ix (ixT (K := K)) (pv 1) pe_int (fun _ _ => rfl)) pa_nil))) pa_nil))))) pss_nil)
  (pss_cons (ps_if (PW.pt (pw_and (pt_cmpR op_eq (pv 3) pe_int (nomark _)) (pw_and1 (pt_cmpR op_gt (pe_ix (ixT (K := K)) (pv 1) pe_int (fun _ _ => rfl)) pe_int (nomark _))))) (pss_one (ps_ret (pe_tup (pa_cons pe_str (pa_cons (pcall C_law_taken (hr.mono (by first | exact Nat.le_of_ble_eq_true rfl | omega)) rfl (pa_cons (pv 0) (pa_cons (pe_ix (ixT (K := K)) (pv 1) pe_int (fun _ _ => rfl)) pa_nil))) pa_nil))))) pss_nil)
  (pss_cons (ps_if (pt_cmpR op_gt (pv 3) pe_int (nomark _)) (pss_one (ps_ret (pe_tup (pa_cons pe_str (pa_cons (pcall C_law_thing (hr.mono (by first | exact Nat.le_of_ble_eq_true rfl | omega)) rfl (pa_cons (pv 0) (pa_cons (pv 1) (pa_cons (pe_op op_sub (pv 2) pe_int) pa_nil)))) (pa_cons (pcall C_law_thing (hr.mono (by first | exact Nat.le_of_ble_eq_true rfl | omega)) rfl (pa_cons (pv 0) (pa_cons (pv 1) (pa_cons (pe_op op_sub (pv 2) pe_int) pa_nil)))) pa_nil)))))) pss_nil)
  (pss_cons (ps_if (pt_cmpR op_gt (pv 3) pe_int (nomark _)) (pss_one (ps_ret (pe_tup (pa_cons pe_str (pa_cons (pe_ifExp (pt_cmpR op_gt (pv 2) pe_int (nomark _)) (pcall C_law_thing (hr.mono (by first | exact Nat.le_of_ble_eq_true rfl | omega)) rfl (pa_cons (pv 0) (pa_cons (pv 1) (pa_cons (pe_op op_sub (pv 2) pe_int) pa_nil)))) (pe_tup (pa_cons pe_str (pa_cons (pcall C_law_taken (hr.mono (by first | exact Nat.le_of_ble_eq_true rfl | omega)) rfl (pa_cons (pv 0) (pa_cons pe_int pa_nil))) pa_nil)))) pa_nil))))) pss_nil)
  (pss_one (ps_ret (pe_tup (pa_cons pe_str (pa_cons (pcall C_law_taken (hr.mono (by first | exact Nat.le_of_ble_eq_true rfl | omega)) rfl (pa_cons (pv 0) (pa_cons pe_int pa_nil))) pa_nil)))))))))), ?_⟩
    walk_at "rd"
    intro pl H1 n1 h1 k1
    walk_at "rd"
    refine ask ⟨r, _, rfl, by split <;> decide, by split <;> decide, hR.keep0 k1, fun v1 H2 v0 v1' k2 R2 => ?_⟩
    have kk2 : Keep [r] H H2 := (k1.mono (by simp)).trans k2
    have hs2 := (hR.ts kk2).sqT hsz
    walk_at "rd"
    refine r_andP (a := decide (v1 < 2)) (b := decide (0 < (p : Int))) (fun R hr => by walk_at "rd"; exact hr) (fun _ R hr => by walk_at "rd"; exact hr) ?_
    refine ite2 (fun c => ?_) (fun c => ?_)
    · -- a param
      rw [Bool.and_eq_true, decide_eq_true_eq, decide_eq_true_eq] at c
      walk_at "rd"
      refine ask ⟨r, _, rfl, c.2, by omega, R2, fun v3 H3 v30 v31 k3 R3 => ?_⟩
      obtain ⟨m, rfl⟩ : ∃ m : Nat, v3 = m := ⟨v3.toNat, by omega⟩
      walk_at "rd"
      intro pa H4 n4 h4 k4
      exact q _ (.par m) _ (.tup (SqT.of h4) (.cons (.str _) (.cons (.int _) .nil))) (Th.ok_par (by omega)) ((kk2.trans k3).trans (k4.mono (by simp))) (R3.keep0 k4)
    walk_at "rd"
    refine r_andP (a := decide (V.int v1 = V.int 2)) (b := decide (0 < (o : Int))) (fun R hr => by walk_at "rd"; exact hr) (fun _ R hr => by walk_at "rd"; exact hr) ?_
    refine ite2 (fun c2 => ?_) (fun c2 => ?_)
    · -- an own cell
      rw [Bool.and_eq_true, decide_eq_true_eq, decide_eq_true_eq] at c2
      walk_at "rd"
      refine ask ⟨r, _, rfl, c2.2, by omega, R2, fun v3 H3 v30 v31 k3 R3 => ?_⟩
      obtain ⟨m, rfl⟩ : ∃ m : Nat, v3 = m := ⟨v3.toNat, by omega⟩
      walk_at "rd"
      intro pa H4 n4 h4 k4
      exact q _ (.own m) _ (.tup (SqT.of h4) (.cons (.str _) (.cons (.int _) .nil))) (Th.ok_own (by omega)) ((kk2.trans k3).trans (k4.mono (by simp))) (R3.keep0 k4)
    walk_at "rd"
    refine ite2 (fun c3 => ?_) (fun c3 => ?_)
    · -- a sum
      have c3' := of_decide_eq_true c3
      have hw : 0 < wi := by
        by_cases h : 0 < wi
        · exact h
        · rw [if_neg h] at v1'; omega
      have eD : wi.toNat + 1 = ((wi - 1).toNat + 1) + 1 := by omega
      walk_at "rd"
      refine ask ⟨r, sz, p, o, _, rfl, R2, hs2, p1, o1, by omega, by omega, fun va ta H3 ra oa k3 R3 => ?_⟩
      have hs3 := (R2.ts k3).sqT hs2
      walk_at "rd"
      refine ask ⟨r, sz, p, o, _, rfl, R3, hs3, p1, o1, by omega, by omega, fun vb tb H4 rb ob k4 R4 => ?_⟩
      walk_at "rd"
      intro pa H5 n5 h5 k5
      have ra5 := (ra.ts (R3.ts k4)).ts (keep_ts0 k5)
      refine q _ (.sum ta tb) _ (.tup (SqT.of h5) (.cons (.str _) (.cons ra5 (.cons (rb.ts (keep_ts0 k5)) .nil)))) ?_ (((kk2.trans k3).trans k4).trans (k5.mono (by simp))) (R4.keep0 k5)
      rw [eD]
      exact ⟨oa, ob⟩
    walk_at "rd"
    refine ite2 (fun c4 => ?_) (fun c4 => ?_)
    · -- a common cell
      walk_at "rd"
      refine ite2 (fun hw => ?_) (fun hw => ?_)
      · have hw := of_decide_eq_true hw
        have eD : wi.toNat + 1 = ((wi - 1).toNat + 1) + 1 := by omega
        walk_at "rd"
        refine ask ⟨r, sz, p, o, _, rfl, R2, hs2, p1, o1, by omega, by omega, fun va ta H3 ra oa k3 R3 => ?_⟩
        walk_at "rd"
        intro pa H5 n5 h5 k5
        refine q _ (.cell ta) _ (.tup (SqT.of h5) (.cons (.str _) (.cons (ra.ts (keep_ts0 k5)) .nil))) ?_ ((kk2.trans k3).trans (k5.mono (by simp))) (R3.keep0 k5)
        rw [eD]
        exact oa
      · walk_at "rd"
        refine ask ⟨r, _, rfl, by decide, by decide, R2, fun v3 H3 v30 v31 k3 R3 => ?_⟩
        obtain ⟨m, rfl⟩ : ∃ m : Nat, v3 = m := ⟨v3.toNat, by omega⟩
        walk_at "rd"
        intro pa H4 n4 h4 k4
        walk_at "rd"
        intro pb H5 n5 h5 k5
        exact q _ (.cell (.num m)) _ (.tup (SqT.of h5) (.cons (.str _) (.cons (.tup (SqT.of (k5 _ _ h4 (by simp))) (.cons (.str _) (.cons (.int _) .nil))) .nil))) (show Th.ok p o _ (.num m) from Th.ok_num (by omega))
          (((kk2.trans k3).trans (k4.mono (by simp))).trans (k5.mono (by simp))) ((R3.keep0 k4).keep0 k5)
    · walk_at "rd"
      refine ask ⟨r, _, rfl, by decide, by decide, R2, fun v3 H3 v30 v31 k3 R3 => ?_⟩
      obtain ⟨m, rfl⟩ : ∃ m : Nat, v3 = m := ⟨v3.toNat, by omega⟩
      walk_at "rd"
      intro pa H4 n4 h4 k4
      exact q _ (.num m) _ (.tup (SqT.of h4) (.cons (.str _) (.cons (.int _) .nil))) (Th.ok_num (by omega)) ((kk2.trans k3).trans (k4.mono (by simp))) (R3.keep0 k4)
noncomputable def spPlace (K : PySem.W.Frag) : Sp := fun vs H Q _ => ∃ (r sz : Addr) (p o : Nat) (wi : Int), vs = [.ref r, .ref sz, .int wi] ∧ Row K H r ∧ SqT K H sz [.int (p : Int), .int (o : Int)] ∧ p ≤ 100 ∧ o ≤ 100 ∧ 0 ≤ wi ∧ wi < 3 ∧
  ∀ (v : V) (t : Th) (H' : Hp), Rp K H' v t.enc → t.isPlace = true → t.ok p o (wi.toNat + 2) → Keep [r] H H' → Row K H' r → Q v H'
theorem okPlace (D : DefAt K mg "_law_place" sL_place pL_place) (T : Blt mg) (C_law_thing : Callee P w K mg base "_law_thing" 5 pL_thing (spThing K 3)) : Callee P w K mg base "_law_place" 6 pL_place (spPlace K) := by
  refine D.ok scL_place (fun vs H Q E h => ?_) (fun f cdv A outer s H vs Q E hr h => ?_)
  · obtain ⟨r, sz, p, o, wi, rfl, _⟩ := h
    rfl
  obtain ⟨r, sz, p, o, wi, rfl, hR, hsz, p1, o1, w0, w1, q⟩ := h
  refine ⟨_, (pss_cons (ps_set (i := 3) scL_place.nd rfl (Or.inl rfl) (pcall C_law_thing (hr.mono (by first | exact Nat.le_of_ble_eq_true rfl | omega)) rfl (pa_cons (pv 0) (pa_cons (pv 1) (pa_cons (pv 2) pa_nil)))))
  (pss_one (ps_ret (pe_ifExp (pt_cmpR (opIn (K := K)) (pe_ix (ixT (K := K)) (pv 3) pe_int (fun _ _ => rfl)) (pe_tup (pa_cons pe_str (pa_cons pe_str (pa_cons pe_str pa_nil)))) (by with_unfolding_all rfl)) (pv 3) (pe_tup (pa_cons pe_str (pa_cons (pv 3) pa_nil))))))), ?_⟩
  walk_at "rd"
  refine ask ⟨r, sz, p, o, _, rfl, hR, hsz, p1, o1, by omega, by omega, fun va ta H1 ra oa k1 R1 => ?_⟩
  obtain ⟨a, xs, rfl, ha⟩ := Th.head ra
  have e0 := atI_zero (x := .str ta.word) (r := xs)
  walk_at "rd"
  intro pl H2 n2 h2 k2
  have ha2 := (keep_ts0 k2).sqT ha
  have ra2 := ra.ts (keep_ts0 k2)
  have eD : wi.toNat + 2 = (wi.toNat + 1) + 1 := rfl
  have kk2 : Keep [r] H H2 := k1.trans (k2.mono (by simp))
  have R2 := R1.keep0 k2
  have fin : ∀ pa H3, H2 pa = none → H3 pa = some (.tup [.str "cell", .ref a]) → Keep [] H2 H3 → Q (.ref pa) H3 := fun pa H3 n3 h3 k3 => by
    refine q _ (.cell ta) _ (.tup (SqT.of h3) (.cons (.str _) (.cons (ra2.ts (keep_ts0 k3)) .nil))) rfl ?_ (kk2.trans (k3.mono (by simp))) (R2.keep0 k3)
    rw [eD]
    exact oa
  cases ta with
  | num n => dsimp only [Th.word]; walk_at "rd"; exact fin
  | sum x y => dsimp only [Th.word]; walk_at "rd"; exact fin
  | cell x => dsimp only [Th.word]; walk_at "rd"; exact q _ _ _ ra2 rfl (oa.mono (by omega)) kk2 R2
  | own n => dsimp only [Th.word]; walk_at "rd"; exact q _ _ _ ra2 rfl (oa.mono (by omega)) kk2 R2
  | par n => dsimp only [Th.word]; walk_at "rd"; exact q _ _ _ ra2 rfl (oa.mono (by omega)) kk2 R2
end
end
section
section
variable {P : Program} {w : World} {K : PySem.W.Frag} {mg : Str → Option Value} {base : Heap}
/-- params and own cells of all works, a list of tuples -/
noncomputable def Shp (K : PySem.W.Frag) (H : Hp) (a : Addr) (sh : List (Nat × Nat)) : Prop := ∃ vs : List V, H a = some (.lst vs) ∧ vs.length = sh.length ∧ ∀ (i : Nat) (q : Nat × Nat), sh[i]? = some q → ∃ t : Addr, vs[i]? = some (V.ref t) ∧ SqT K H t [.int (q.1 : Int), .int (q.2 : Int)]
structure GS (K : PySem.W.Frag) (H : Hp) (r lf sa : Addr) (sh : List (Nat × Nat)) (a c : Nat) : Prop where
  row : Row K H r
  left : H lf = some (.lst [.int (a : Int), .int (c : Int)])
  shp : Shp K H sa sh
  n1 : lf ≠ r
  n2 : sa ≠ r
  n3 : sa ≠ lf
  few : sh.length ≤ 4
  small : ∀ q ∈ sh, q.1 ≤ 3 ∧ q.2 ≤ 10
theorem Shp.keep {H H1 : Hp} {a : Addr} {sh : List (Nat × Nat)} {M : List Addr} (h : Shp K H a sh) (k : Keep M H H1) (n : a ∉ M) (t : Tst H H1) : Shp K H1 a sh := by
  obtain ⟨vs, h1, h2, h3⟩ := h
  refine ⟨vs, k _ _ h1 n, h2, fun i q e => ?_⟩
  obtain ⟨u, e1, e2⟩ := h3 i q e
  exact ⟨u, e1, t.sqT e2⟩
theorem GS.lo {H : Hp} {r lf sa : Addr} {sh : List (Nat × Nat)} {a c : Nat} (g : GS K H r lf sa sh a c) : Lo H [r, lf] := fun x hx => by
  rcases List.mem_cons.mp hx with rfl | hx
  · exact g.row.lo _ (List.mem_singleton.mpr rfl)
  · cases List.mem_singleton.mp hx
    exact .inl ⟨_, g.left⟩
theorem GS.ts {H H1 : Hp} {r lf sa : Addr} {sh : List (Nat × Nat)} {a c : Nat} (g : GS K H r lf sa sh a c) (k : Keep [r, lf] H H1) : Tst H H1 := k.ts g.lo
/-- the row was drawn from -/
theorem GS.drew {H H1 : Hp} {r lf sa : Addr} {sh : List (Nat × Nat)} {a c : Nat} (g : GS K H r lf sa sh a c) (k : Keep [r] H H1) (R : Row K H1 r) : GS K H1 r lf sa sh a c :=
  ⟨R, k _ _ g.left (by simpa using g.n1), g.shp.keep k (by simpa using g.n2) (g.row.ts k), g.n1, g.n2, g.n3, g.few, g.small⟩
theorem GS.keep0 {H H1 : Hp} {r lf sa : Addr} {sh : List (Nat × Nat)} {a c : Nat} (g : GS K H r lf sa sh a c) (k : Keep [] H H1) : GS K H1 r lf sa sh a c :=
  ⟨g.row.keep0 k, k _ _ g.left (by simp), g.shp.keep k (by simp) (keep_ts0 k), g.n1, g.n2, g.n3, g.few, g.small⟩
/-- another list was changed -/
theorem GS.other {H H1 : Hp} {r lf sa l : Addr} {sh : List (Nat × Nat)} {a c : Nat} {xs : List V} (g : GS K H r lf sa sh a c) (k : Keep [l] H H1) (h : H l = some (.lst xs)) (h1 : l ≠ r) (h2 : l ≠ lf) (h3 : l ≠ sa) : GS K H1 r lf sa sh a c := by
  have t : Tst H H1 := k.ts fun x hx => by cases List.mem_singleton.mp hx; exact .inl ⟨_, h⟩
  exact ⟨g.row.keep k (by simpa using Ne.symm h1) t, k _ _ g.left (by simpa using Ne.symm h2), g.shp.keep k (by simpa using Ne.symm h3) t, g.n1, g.n2, g.n3, g.few, g.small⟩
theorem GS.ne {H : Hp} {r lf sa l : Addr} {sh : List (Nat × Nat)} {a c : Nat} (g : GS K H r lf sa sh a c) (h : H l = none) : l ≠ r ∧ l ≠ lf ∧ l ≠ sa := by
  refine ⟨fun e => ?_, fun e => ?_, fun e => ?_⟩
  · exact g.row.ne (e ▸ h)
  · have := g.left
    rw [← e, h] at this
    cases this
  · obtain ⟨vs, h1, _⟩ := g.shp
    rw [← e, h] at h1
    cases h1
/-- the left count is changed -/
theorem GS.lefts {H H1 : Hp} {r lf sa : Addr} {sh : List (Nat × Nat)} {a c a1 c1 : Nat} (g : GS K H r lf sa sh a c) (k : Keep [lf] H H1) (h : H1 lf = some (.lst [.int (a1 : Int), .int (c1 : Int)])) : GS K H1 r lf sa sh a1 c1 := by
  have t : Tst H H1 := k.ts fun x hx => by cases List.mem_singleton.mp hx; exact .inl ⟨_, g.left⟩
  exact ⟨g.row.keep k (by simpa using Ne.symm g.n1) t, h, g.shp.keep k (by simpa using g.n3) t, g.n1, g.n2, g.n3, g.few, g.small⟩
noncomputable def spStep (K : PySem.W.Frag) (n : Nat) : Sp := fun vs H Q _ => ∃ (r sa lf : Addr) (sh : List (Nat × Nat)) (at_ a c : Nat) (wi : Int), vs = [.ref r, .ref sa, .int (at_ : Int), .ref lf, .int wi] ∧ GS K H r lf sa sh a c ∧ at_ < sh.length ∧ 0 ≤ wi ∧ wi < n ∧
  ∀ (v : V) (s : St) (H' : Hp) (a1 c1 : Nat), Rp K H' v s.enc → St.okD sh at_ wi.toNat s → s.many + a1 ≤ a + 1 → s.calls + c1 ≤ c → Keep [r, lf] H H' → GS K H' r lf sa sh a1 c1 → Q v H'
noncomputable def spBody (K : PySem.W.Frag) (n : Nat) : Sp := fun vs H Q _ => ∃ (r sa lf : Addr) (sh : List (Nat × Nat)) (at_ a c : Nat) (wi : Int), vs = [.ref r, .ref sa, .int (at_ : Int), .ref lf, .int wi] ∧ GS K H r lf sa sh a c ∧ at_ < sh.length ∧ 0 ≤ wi ∧ wi < n ∧
  ∀ (v : V) (b : Sts) (H' : Hp) (a1 c1 : Nat), Rp K H' v (.tuple b.encs) → Sts.okD sh at_ wi.toNat b → b.many + a1 ≤ a → b.calls + c1 ≤ c → Keep [r, lf] H H' → GS K H' r lf sa sh a1 c1 → Q v H'
noncomputable abbrev sL_step : Stmt := top 47
noncomputable abbrev nL_step : List Str := ["_law_row", "_law_shapes", "_law_at", "_law_left", "_law_within", "_law_sizes", "_law_way", "_law_work", "_law_things", "_law_k", "_law_thing_here", "_law_first"]
noncomputable abbrev pL_step : List Str := ["_law_row", "_law_shapes", "_law_at", "_law_left", "_law_within"]
theorem scL_step : FnScope nL_step pL_step (defScope sL_step) := ⟨rfl, rfl, rfl, by decide +kernel, rfl, by decide +kernel, by decide +kernel⟩
noncomputable abbrev sL_body : Stmt := top 48
noncomputable abbrev nL_body : List Str := ["_law_row", "_law_shapes", "_law_at", "_law_left", "_law_within", "_law_found", "_law_turn"]
noncomputable abbrev pL_body : List Str := ["_law_row", "_law_shapes", "_law_at", "_law_left", "_law_within"]
theorem scL_body : FnScope nL_body pL_body (defScope sL_body) := ⟨rfl, rfl, rfl, by decide +kernel, rfl, by decide +kernel, by decide +kernel⟩
theorem okStep {n : Nat} (D : DefAt K mg "_law_step" sL_step pL_step) (T : Blt mg) (C_law_taken : Callee P w K mg base "_law_taken" 1 pL_taken (spTaken K)) (C_law_thing : Callee P w K mg base "_law_thing" 5 pL_thing (spThing K 3))
    (C_law_place : Callee P w K mg base "_law_place" 6 pL_place (spPlace K)) (C_law_body : Callee P w K mg base "_law_body" (2 * n + 8) pL_body (spBody K n)) : Callee P w K mg base "_law_step" (2 * n + 9) pL_step (spStep K (n + 1)) := by
  refine D.ok scL_step (fun vs H Q E h => ?_) (fun f cdv A outer s H vs Q E hr h => ?_)
  · obtain ⟨r, sa, lf, sh, at_, a, c, wi, rfl, _⟩ := h
    rfl
  obtain ⟨r, sa, lf, sh, at_, a, c, wi, rfl, g, hat, w0, w1, q⟩ := h
  refine ⟨_, (pss_cons (ps_set (i := 5) scL_step.nd rfl (Or.inl rfl) (pe_ix (ixL (K := K)) (pv 1) (pv 2) (fun _ _ => rfl)))
  (pss_cons (ps_set (i := 6) scL_step.nd rfl (Or.inl rfl) (pcall C_law_taken (hr.mono (by first | exact Nat.le_of_ble_eq_true rfl | omega)) rfl (pa_cons (pv 0) (pa_cons pe_int pa_nil))))
  (pss_cons (ps_if (PW.pt (pw_and (pt_cmpR op_gt (pv 6) pe_int (nomark _)) (pw_and (pt_cmpR op_lt (pe_op op_add (pv 2) pe_int) (pe_callB (cLen (K := K)) (by rfl) T.len PySem.boot_len (pa_cons (pv 1) pa_nil)) (nomark _)) (pw_and1 (pt_cmpR op_gt (pe_ix (ixL (K := K)) (pv 3) pe_int (fun _ _ => rfl)) pe_int (nomark _)))))) (pss_cons (ps_asg (pe_op op_sub (pe_ix (ixL (K := K)) (pv 3) pe_int (fun _ _ => rfl)) pe_int) (pg_sub (pv 3) pe_int set_list))
  (pss_cons (ps_set (i := 7) scL_step.nd rfl (Or.inl rfl) (pe_op op_add (pe_op op_add (pv 2) pe_int) (pcall C_law_taken (hr.mono (by first | exact Nat.le_of_ble_eq_true rfl | omega)) rfl (pa_cons (pv 0) (pa_cons (pe_op op_sub (pe_op op_sub (pe_callB (cLen (K := K)) (by rfl) T.len PySem.boot_len (pa_cons (pv 1) pa_nil)) (pv 2)) pe_int) pa_nil)))))
  (pss_cons (ps_set (i := 8) scL_step.nd rfl (Or.inl rfl) (pe_lst pa_nil))
  (pss_cons (ps_for PassesOwn.never rfl (pi_range1 rfl T.range (pa_cons (pe_ix (ixT (K := K)) (pe_ix (ixL (K := K)) (pv 1) (pv 7) (fun _ _ => rfl)) pe_int (fun _ _ => rfl)) pa_nil)) (pg_name (i := 9) scL_step.nd rfl (Or.inl rfl))
   (pss_cons (ps_set (i := 10) scL_step.nd rfl (Or.inl rfl) (pcall C_law_thing (hr.mono (by first | exact Nat.le_of_ble_eq_true rfl | omega)) rfl (pa_cons (pv 0) (pa_cons (pv 5) (pa_cons pe_int pa_nil)))))
  (pss_one (ps_expr (peApp (K := K) (pv 8) (pe_ifExp (pt_cmpR op_eq (pcall C_law_taken (hr.mono (by first | exact Nat.le_of_ble_eq_true rfl | omega)) rfl (pa_cons (pv 0) (pa_cons pe_int pa_nil))) pe_int (nomark _)) (pv 10) (pcall C_law_place (hr.mono (by first | exact Nat.le_of_ble_eq_true rfl | omega)) rfl (pa_cons (pv 0) (pa_cons (pv 5) (pa_cons pe_int pa_nil))))))))))
  (pss_one (ps_ret (pe_tup (pa_cons pe_str (pa_cons (pv 7) (pa_cons (pe_callTy (cTuple (K := K)) (by rfl) T.tuple (by decide +kernel) (pa_cons (pv 8) pa_nil)) pa_nil)))))))))) pss_nil)
  (pss_cons (ps_if (PW.pt (pw_and (pt_cmpR op_eq (pv 6) pe_int (nomark _)) (pw_and1 (pt_cmpR op_gt (pv 4) pe_int (nomark _))))) (pss_cons (ps_set (i := 11) scL_step.nd rfl (Or.inl rfl) (pcall C_law_body (hr.mono (by first | exact Nat.le_of_ble_eq_true rfl | omega)) rfl (pa_cons (pv 0) (pa_cons (pv 1) (pa_cons (pv 2) (pa_cons (pv 3) (pa_cons (pe_op op_sub (pv 4) pe_int) pa_nil)))))))
  (pss_one (ps_ret (pe_tup (pa_cons pe_str (pa_cons (pcall C_law_thing (hr.mono (by first | exact Nat.le_of_ble_eq_true rfl | omega)) rfl (pa_cons (pv 0) (pa_cons (pv 5) (pa_cons pe_int pa_nil)))) (pa_cons (pv 11) (pa_cons (pcall C_law_body (hr.mono (by first | exact Nat.le_of_ble_eq_true rfl | omega)) rfl (pa_cons (pv 0) (pa_cons (pv 1) (pa_cons (pv 2) (pa_cons (pv 3) (pa_cons (pe_op op_sub (pv 4) pe_int) pa_nil)))))) pa_nil)))))))) pss_nil)
  (pss_cons (ps_if (pt_cmpR op_eq (pv 6) pe_int (nomark _)) (pss_one (ps_ret (pe_tup (pa_cons pe_str (pa_cons (pcall C_law_thing (hr.mono (by first | exact Nat.le_of_ble_eq_true rfl | omega)) rfl (pa_cons (pv 0) (pa_cons (pv 5) (pa_cons pe_int pa_nil)))) pa_nil))))) pss_nil)
  (pss_one (ps_ret (pe_tup (pa_cons pe_str (pa_cons (pcall C_law_place (hr.mono (by first | exact Nat.le_of_ble_eq_true rfl | omega)) rfl (pa_cons (pv 0) (pa_cons (pv 5) (pa_cons pe_int pa_nil)))) (pa_cons (pcall C_law_thing (hr.mono (by first | exact Nat.le_of_ble_eq_true rfl | omega)) rfl (pa_cons (pv 0) (pa_cons (pv 5) (pa_cons pe_int pa_nil)))) pa_nil))))))))))), ?_⟩
  obtain ⟨vs, hs, hl, hv⟩ := id g.shp
  obtain ⟨sz, ez, tz⟩ := hv at_ _ (List.getElem?_eq_getElem hat)
  have ez' := atI_nat ez
  have hsm := g.small _ (List.getElem_mem hat)
  have eq : sh.getD at_ (0, 0) = sh[at_] := by rw [List.getD_eq_getElem?_getD, List.getElem?_eq_getElem hat]; rfl
  walk_at "rd"
  refine ask ⟨r, _, rfl, by decide, by decide, g.row, fun v1 H1 v10 v11 k1 R1 => ?_⟩
  have g1 := g.drew k1 R1
  have tz1 := (g.row.ts k1).sqT tz
  have hs1 := k1 _ _ hs (by simpa using g.n2)
  have gl1 := g1.left
  have kk1 : Keep [r, lf] H H1 := k1.mono (by simp)
  walk_at "rd"
  refine r_andP (a := decide (6 < v1)) (b := decide ((at_ : Int) + 1 < (vs.length : Int)) && decide (0 < (c : Int))) (fun R hr => by walk_at "rd"; exact hr) (fun _ R hr => ?_) ?_
  · exact r_andP (a := decide ((at_ : Int) + 1 < (vs.length : Int))) (b := decide (0 < (c : Int))) (fun R hr => by walk_at "rd"; exact hr) (fun _ R hr => by walk_at "rd"; exact hr) hr
  refine ite2 (fun c1 => ?_) (fun c1 => ?_)
  · -- a call
    simp only [Bool.and_eq_true, decide_eq_true_eq] at c1
    obtain ⟨c1a, c1b, c1c⟩ := c1
    rw [hl] at c1b
    walk_at "rd"
    intro H2 h2 k2
    have e2 : ((c - 1 : Nat) : Int) = (c : Int) - 1 := by omega
    have g2 := g1.lefts (a1 := a) (c1 := c - 1) k2 (by rw [e2]; exact h2)
    have kk2 : Keep [r, lf] H H2 := kk1.trans (k2.mono (by simp))
    have hs2 := kk2 _ _ hs (by simp [g.n2, g.n3])
    walk_at "rd"
    refine ask ⟨r, _, rfl, by rw [hl]; omega, by rw [hl]; have := g.few; omega, g2.row, fun v3 H3 v30 v31 k3 R3 => ?_⟩
    rw [hl] at v31
    have g3 := g2.drew k3 R3
    have kk3 : Keep [r, lf] H H3 := kk2.trans (k3.mono (by simp))
    obtain ⟨m, rfl⟩ : ∃ m : Nat, v3 = m := ⟨v3.toNat, by omega⟩
    have hw : at_ + 1 + m < sh.length := by omega
    obtain ⟨tw, ew, tw'⟩ := hv (at_ + 1 + m) _ (List.getElem?_eq_getElem hw)
    have hsw := g.small _ (List.getElem_mem hw)
    have en : ((at_ + 1 + m : Nat) : Int) = (at_ : Int) + 1 + (m : Int) := by omega
    have ew' : atI vs ((at_ : Int) + 1 + (m : Int)) = some (V.ref tw) := by
      rw [← en]
      exact atI_nat ew
    walk_at "rd"
    intro l H4 n4 h4 k4
    have nl0 : H l = none := kk3.free (fun x hx => by
      rcases List.mem_cons.mp hx with rfl | hx
      · exact g3.row.ne
      · cases List.mem_singleton.mp hx
        rw [g3.left]
        exact fun z => nomatch z) n4
    obtain ⟨nl1, nl2, nl3⟩ := g.ne nl0
    have g4 := g3.keep0 k4
    have kk4 : Keep [r, lf] H H4 := kk3.by0 k4
    have hs4 := kk4 _ _ hs (by simp [g.n2, g.n3])
    have tw4 := (g.ts kk4).sqT tw'
    walk_at "rd"
    refine forR (fun i σ H' => ∃ (x y : Option V) (xs : List V) (ts : List Th), σ = [some (.ref r), some (.ref sa), some (.int at_), some (.ref lf), some (.int wi), some (.ref sz), some (.int v1), some (.int ((at_ : Int) + 1 + (m : Int))), some (.ref l), x, y, none] ∧
      GS K H' r lf sa sh a (c - 1) ∧ Keep [r, lf] H H' ∧ H' l = some (.lst xs) ∧ Rps K H' xs (ts.map Th.enc) ∧ ts.length = i ∧ ∀ t ∈ ts, Th.ok sh[at_].1 sh[at_].2 3 t) ⟨none, none, [], [], rfl, g4, kk4, h4, .nil, rfl, by simp⟩ (fun i σ H' hi hp => ?_) (fun σ H' hp => ?_)
    · obtain ⟨x, y, xs, ts, rfl, g5, kk5, h5, hx5, ei, ho5⟩ := hp
      have lx : xs.length = i := by rw [hx5.length, List.length_map, ei]
      have lb : xs.length ≤ 10 := by omega
      have tz5 := (g.ts kk5).sqT tz
      walk_at "rd"
      refine ask ⟨r, sz, sh[at_].1, sh[at_].2, 1, rfl, g5.row, tz5, by omega, by omega, by decide, by decide, fun va ta H6 ra oa k6 R6 => ?_⟩
      have h6 := k6 _ _ h5 (by simpa using nl1)
      have g6 := g5.drew k6 R6
      have kk6 : Keep [r, lf] H H6 := kk5.trans (k6.mono (by simp))
      walk_at "rd"
      refine ask ⟨r, _, rfl, by decide, by decide, R6, fun v7 H7 v70 v71 k7 R7 => ?_⟩
      have h7 := k7 _ _ h6 (by simpa using nl1)
      have g7 := g6.drew k7 R7
      have kk7 : Keep [r, lf] H H7 := kk6.trans (k7.mono (by simp))
      walk_at "rd"
      refine ite2 (fun c7 => ?_) (fun c7 => ?_)
      · walk_at "rd"
        intro H8 h8 k8
        have t8 : Tst H7 H8 := k8.ts fun x hx => by cases List.mem_singleton.mp hx; exact .inl ⟨_, h7⟩
        refine ⟨_, _, xs ++ [va], ts ++ [ta], rfl, g7.other k8 h7 nl1 nl2 nl3, kk7.fresh1 k8 nl0, h8, ?_, by rw [List.length_append, ei]; rfl, ?_⟩
        · rw [List.map_append]
          exact (((hx5.ts (g5.row.ts k6)).ts (g6.row.ts k7)).ts t8).append (.cons ((ra.ts (R6.ts k7)).ts t8) .nil)
        · intro t ht
          rcases List.mem_append.mp ht with ht | ht
          · exact ho5 t ht
          · cases List.mem_singleton.mp ht
            exact oa.mono (by decide)
      · have tz7 := (g.ts kk7).sqT tz
        walk_at "rd"
        refine ask ⟨r, sz, sh[at_].1, sh[at_].2, 1, rfl, R7, tz7, by omega, by omega, by decide, by decide, fun vb tb H8 rb pb ob k8 R8 => ?_⟩
        have h8 := k8 _ _ h7 (by simpa using nl1)
        have g8 := g7.drew k8 R8
        have kk8 : Keep [r, lf] H H8 := kk7.trans (k8.mono (by simp))
        walk_at "rd"
        intro H9 h9 k9
        have t9 : Tst H8 H9 := k9.ts fun x hx => by cases List.mem_singleton.mp hx; exact .inl ⟨_, h8⟩
        refine ⟨_, _, xs ++ [vb], ts ++ [tb], rfl, g8.other k9 h8 nl1 nl2 nl3, kk8.fresh1 k9 nl0, h9, ?_, by rw [List.length_append, ei]; rfl, ?_⟩
        · rw [List.map_append]
          exact ((((hx5.ts (g5.row.ts k6)).ts (g6.row.ts k7)).ts (g7.row.ts k8)).ts t9).append (.cons (rb.ts t9) .nil)
        · intro t ht
          rcases List.mem_append.mp ht with ht | ht
          · exact ho5 t ht
          · cases List.mem_singleton.mp ht
            exact ob.mono (by decide)
    · obtain ⟨x, y, xs, ts, rfl, g5, kk5, h5, hx5, ei, ho5⟩ := hp
      walk_at "rd"
      intro pt H6 n6 h6 k6
      walk_at "rd"
      intro pc H7 n7 h7 k7
      have r6 : Rp K H6 (.ref pt) (.tuple (ts.map Th.enc)) := .tup (SqT.of h6) (hx5.ts (keep_ts0 k6))
      refine q _ (.call (at_ + 1 + m) ts) _ a (c - 1) (.tup (SqT.of h7) (.cons (.str _) (.cons (by rw [en]; exact .int _) (.cons (r6.ts (keep_ts0 k7)) .nil)))) ⟨St.ok_call (by omega) hw (by rw [ei, getD_at hw]; exact Int.toNat_natCast _) (by rw [eq]; exact fun t ht => (ho5 t ht).mono (by omega)), by unfold St.thin; exact fun t ht => Th.ok_dep (ho5 t ht)⟩ (by unfold St.many; omega) (by unfold St.calls; omega)
        ((kk5.by0 k6).by0 k7) ((g5.keep0 k6).keep0 k7)
  walk_at "rd"
  refine r_andP (a := decide (V.int v1 = V.int 6)) (b := decide (0 < wi)) (fun R hr => by walk_at "rd"; exact hr) (fun _ R hr => by walk_at "rd"; exact hr) ?_
  refine ite2 (fun c2 => ?_) (fun c2 => ?_)
  · -- an if
    simp only [Bool.and_eq_true, decide_eq_true_eq] at c2
    obtain ⟨c2a, c2b⟩ := c2
    have eD : wi.toNat = (wi - 1).toNat + 1 := by omega
    walk_at "rd"
    refine ask ⟨r, sa, lf, sh, at_, a, c, _, rfl, g1, hat, by omega, by omega, fun vb b1 H2 a2 c2 rb ob mb cb k2 g2 => ?_⟩
    have kk2 : Keep [r, lf] H H2 := kk1.trans k2
    have tz2 := (g.ts kk2).sqT tz
    walk_at "rd"
    refine ask ⟨r, sz, sh[at_].1, sh[at_].2, 1, rfl, g2.row, tz2, by omega, by omega, by decide, by decide, fun va ta H3 ra oa k3 R3 => ?_⟩
    have g3 := g2.drew k3 R3
    walk_at "rd"
    refine ask ⟨r, sa, lf, sh, at_, a2, c2, _, rfl, g3, hat, by omega, by omega, fun vd b2 H4 a4 c4 rd od md cd k4 g4 => ?_⟩
    walk_at "rd"
    intro pc H5 n5 h5 k5
    have rb5 := ((rb.ts (g2.row.ts k3)).ts (g3.ts k4)).ts (keep_ts0 k5)
    have ra5 := (ra.ts (g3.ts k4)).ts (keep_ts0 k5)
    refine q _ (.ite ta b1 b2) _ a4 c4 (.tup (SqT.of h5) (.cons (.str _) (.cons ra5 (.cons rb5 (.cons (rd.ts (keep_ts0 k5)) .nil))))) ?_ (by unfold St.many; omega) (by unfold St.calls; omega)
      (((kk2.trans (k3.mono (by simp))).trans k4).by0 k5) (g4.keep0 k5)
    rw [eD]
    refine ⟨St.ok_ite ?_ ob.1 od.1, by unfold St.thin; exact ⟨ob.2, od.2⟩⟩
    rw [eq]
    exact oa.mono (by decide)
  walk_at "rd"
  refine ite2 (fun c3 => ?_) (fun c3 => ?_)
  · -- say
    walk_at "rd"
    refine ask ⟨r, sz, sh[at_].1, sh[at_].2, 2, rfl, R1, tz1, by omega, by omega, by decide, by decide, fun va ta H3 ra oa k3 R3 => ?_⟩
    walk_at "rd"
    intro pc H5 n5 h5 k5
    refine q _ (.say ta) _ a c (.tup (SqT.of h5) (.cons (.str _) (.cons (ra.ts (keep_ts0 k5)) .nil))) ⟨St.ok_say ?_, by unfold St.thin; trivial⟩ (by unfold St.many; omega) (by unfold St.calls; omega) ((kk1.trans (k3.mono (by simp))).by0 k5) ((g1.drew k3 R3).keep0 k5)
    rw [eq]
    exact oa.mono (by decide)
  · -- set
    walk_at "rd"
    refine ask ⟨r, sz, sh[at_].1, sh[at_].2, 1, rfl, R1, tz1, by omega, by omega, by decide, by decide, fun vb tb H2 rb pb ob k2 R2 => ?_⟩
    have tz2 := (R1.ts k2).sqT tz1
    walk_at "rd"
    refine ask ⟨r, sz, sh[at_].1, sh[at_].2, 2, rfl, R2, tz2, by omega, by omega, by decide, by decide, fun va ta H3 ra oa k3 R3 => ?_⟩
    walk_at "rd"
    intro pc H5 n5 h5 k5
    refine q _ (.set tb ta) _ a c (.tup (SqT.of h5) (.cons (.str _) (.cons ((rb.ts (R2.ts k3)).ts (keep_ts0 k5)) (.cons (ra.ts (keep_ts0 k5)) .nil)))) ⟨St.ok_set pb ?_ ?_, by unfold St.thin; trivial⟩ (by unfold St.many; omega) (by unfold St.calls; omega)
      (((kk1.trans (k2.mono (by simp))).trans (k3.mono (by simp))).by0 k5) (((g1.drew k2 R2).drew k3 R3).keep0 k5)
    · rw [eq]
      exact ob.mono (by decide)
    · rw [eq]
      exact oa.mono (by decide)
end
end
section
section
variable {P : Program} {w : World} {K : PySem.W.Frag} {mg : Str → Option Value} {base : Heap}
theorem GS.free {H H1 : Hp} {r lf sa l : Addr} {sh : List (Nat × Nat)} {a c : Nat} (g : GS K H1 r lf sa sh a c) (k : Keep [r, lf] H H1) (h : H1 l = none) : H l = none := k.free (fun x hx => by
  rcases List.mem_cons.mp hx with rfl | hx
  · exact g.row.ne
  · cases List.mem_singleton.mp hx
    rw [g.left]
    exact fun z => nomatch z) h
theorem okBody {n : Nat} (D : DefAt K mg "_law_body" sL_body pL_body) (T : Blt mg) (C_law_taken : Callee P w K mg base "_law_taken" 1 pL_taken (spTaken K)) (C_law_step : Callee P w K mg base "_law_step" (2 * n + 7) pL_step (spStep K n)) : Callee P w K mg base "_law_body" (2 * n + 8) pL_body (spBody K n) := by
  refine D.ok scL_body (fun vs H Q E h => ?_) (fun f cdv A outer s H vs Q E hr h => ?_)
  · obtain ⟨r, sa, lf, sh, at_, a, c, wi, rfl, _⟩ := h
    rfl
  obtain ⟨r, sa, lf, sh, at_, a, c, wi, rfl, g, hat, w0, w1, q⟩ := h
  refine ⟨_, (pss_cons (ps_set (i := 5) scL_body.nd rfl (Or.inl rfl) (pe_lst pa_nil))
  (pss_cons (ps_for PassesOwn.never rfl (pi_range1 rfl T.range (pa_cons (pcall C_law_taken (hr.mono (by first | exact Nat.le_of_ble_eq_true rfl | omega)) rfl (pa_cons (pv 0) (pa_cons (pe_ix (ixL (K := K)) (pe_lst (pa_cons pe_int (pa_cons pe_int pa_nil))) (pe_callTy c_int (by rfl) T.int (by decide +kernel) (pa_cons (pe_cmpR op_gt (pe_ix (ixL (K := K)) (pv 3) pe_int (fun _ _ => rfl)) pe_int (nomark _)) pa_nil)) (fun _ _ => rfl)) pa_nil))) pa_nil)) (pg_name (i := 6) scL_body.nd rfl (Or.inl rfl))
   (pss_one (ps_if (pt_cmpR op_gt (pe_ix (ixL (K := K)) (pv 3) pe_int (fun _ _ => rfl)) pe_int (nomark _)) (pss_cons (ps_asg (pe_op op_sub (pe_ix (ixL (K := K)) (pv 3) pe_int (fun _ _ => rfl)) pe_int) (pg_sub (pv 3) pe_int set_list))
  (pss_one (ps_expr (peApp (K := K) (pv 5) (pcall C_law_step (hr.mono (by first | exact Nat.le_of_ble_eq_true rfl | omega)) rfl (pa_cons (pv 0) (pa_cons (pv 1) (pa_cons (pv 2) (pa_cons (pv 3) (pa_cons (pv 4) pa_nil)))))))))) pss_nil)))
  (pss_one (ps_ret (pe_callTy (cTuple (K := K)) (by rfl) T.tuple (by decide +kernel) (pa_cons (pv 5) pa_nil)))))), ?_⟩
  have e1 : atI ([.int 5, .int 14] : List V) (if decide (12 < (a : Int)) = true then 1 else 0) = some (.int (if 12 < (a : Int) then 14 else 5)) := by
    by_cases h : 12 < (a : Int)
    · simp only [h, decide_true, if_true]; rfl
    · simp only [h, decide_false, if_false]; rfl
  walk_at "rd"
  intro l H1 n1 h1 k1
  have g1 := g.keep0 k1
  have gl1 := g1.left
  obtain ⟨nl1, nl2, nl3⟩ := g.ne n1
  walk_at "rd"
  intro pl H2 n2 h2 k2
  have g2 := g1.keep0 k2
  have gl2 := g2.left
  walk_at "rd"
  refine ask ⟨r, _, rfl, by split <;> decide, by split <;> decide, g2.row, fun v3 H3 v30 v31 k3 R3 => ?_⟩
  have g3 := g2.drew k3 R3
  have kk3 : Keep [r, lf] H H3 := ((Keep.refl.by0 k1).by0 k2).trans (k3.mono (by simp))
  have h3 := k3 _ _ (k2 _ _ h1 (by simp)) (by simpa using nl1)
  have v32 : v3 < 14 := by split at v31 <;> omega
  walk_at "rd"
  refine forR (fun i σ H' => ∃ (y : Option V) (xs : List V) (b : Sts) (a1 c1 : Nat), σ = [some (.ref r), some (.ref sa), some (.int at_), some (.ref lf), some (.int wi), some (.ref l), y] ∧
    GS K H' r lf sa sh a1 c1 ∧ Keep [r, lf] H H' ∧ H' l = some (.lst xs) ∧ Rps K H' xs b.encs ∧ Sts.okD sh at_ wi.toNat b ∧ b.many + a1 ≤ a ∧ b.calls + c1 ≤ c ∧ xs.length ≤ i) ⟨none, [], .nil, a, c, rfl, g3, kk3, h3, .nil, Sts.okD_nil, by unfold Sts.many; omega, by unfold Sts.calls; omega, Nat.le_refl _⟩ (fun i σ H' hi hp => ?_) (fun σ H' hp => ?_)
  · obtain ⟨y, xs, b, a1, c1, rfl, g4, kk4, h4, hx4, ob4, mb4, cb4, lx⟩ := hp
    have gl4 := g4.left
    have lb : xs.length ≤ 20 := by omega
    walk_at "rd"
    refine ite2 (fun c5 => ?_) (fun c5 => ?_)
    · have c5' := of_decide_eq_true c5
      walk_at "rd"
      intro H5 h5 k5
      have e5 : ((a1 - 1 : Nat) : Int) = (a1 : Int) - 1 := by omega
      have g5 := g4.lefts (a1 := a1 - 1) (c1 := c1) k5 (by rw [e5]; exact h5)
      have t5 : Tst H' H5 := g4.ts (k5.mono (by simp))
      have hl5 := k5 _ _ h4 (by simpa using nl2)
      have kk5 : Keep [r, lf] H H5 := kk4.trans (k5.mono (by simp))
      walk_at "rd"
      refine ask ⟨r, sa, lf, sh, at_, a1 - 1, c1, wi, rfl, g5, hat, w0, w1, fun vs6 s6 H6 a6 c6 rs6 os6 ms6 cs6 k6 g6 => ?_⟩
      have hl6 := k6 _ _ hl5 (by simp [nl1, nl2])
      have kk6 := kk5.trans k6
      walk_at "rd"
      intro H7 h7 k7
      have t7 : Tst H6 H7 := k7.ts fun x hx => by cases List.mem_singleton.mp hx; exact .inl ⟨_, hl6⟩
      refine ⟨_, xs ++ [vs6], b.app (.cons s6 .nil), a6, c6, rfl, g6.other k7 hl6 nl1 nl2 nl3, kk6.fresh1 k7 n1, h7, ?_, Sts.okD_app ob4 (Sts.okD_one os6), ?_, ?_, by rw [List.length_append, List.length_singleton]; omega⟩
      · rw [Sts.encs_app]
        exact (((hx4.ts t5).ts (g5.ts k6)).ts t7).append (.cons (rs6.ts t7) .nil)
      · rw [Sts.many_app]
        have : (Sts.cons s6 .nil).many = s6.many := by unfold Sts.many; show s6.many + 0 = _; omega
        omega
      · rw [Sts.calls_app]
        have : (Sts.cons s6 .nil).calls = s6.calls := by unfold Sts.calls; show s6.calls + 0 = _; omega
        omega
    · walk_at "rd"
      exact ⟨_, xs, b, a1, c1, rfl, g4, kk4, h4, hx4, ob4, mb4, cb4, by omega⟩
  · obtain ⟨y, xs, b, a1, c1, rfl, g4, kk4, h4, hx4, ob4, mb4, cb4, lx⟩ := hp
    walk_at "rd"
    intro pt H6 n6 h6 k6
    exact q _ b _ a1 c1 (.tup (SqT.of h6) (hx4.ts (keep_ts0 k6))) ob4 mb4 cb4 (kk4.by0 k6) (g4.keep0 k6)
theorem okSteps (DS : DefAt K mg "_law_step" sL_step pL_step) (DB : DefAt K mg "_law_body" sL_body pL_body) (T : Blt mg) (C_law_taken : Callee P w K mg base "_law_taken" 1 pL_taken (spTaken K)) (C_law_thing : Callee P w K mg base "_law_thing" 5 pL_thing (spThing K 3))
    (C_law_place : Callee P w K mg base "_law_place" 6 pL_place (spPlace K)) : ∀ n : Nat, Callee P w K mg base "_law_step" (2 * n + 7) pL_step (spStep K n) ∧ Callee P w K mg base "_law_body" (2 * n + 8) pL_body (spBody K n)
  | 0 => by
    have h0 : Callee P w K mg base "_law_step" (2 * 0 + 7) pL_step (spStep K 0) := DS.none fun vs H Q E h => by
      obtain ⟨r, sa, lf, sh, at_, a, c, wi, rfl, g, hat, w0, w1, q⟩ := h
      omega
    exact ⟨h0, okBody DB T C_law_taken h0⟩
  | n + 1 => by
    have ih := okSteps DS DB T C_law_taken C_law_thing C_law_place n
    have h1 : Callee P w K mg base "_law_step" (2 * (n + 1) + 7) pL_step (spStep K (n + 1)) := okStep DS T C_law_taken C_law_thing C_law_place ih.2
    exact ⟨h1, okBody DB T C_law_taken h1⟩
end
end
section
section
variable {P : Program} {w : World} {K : PySem.W.Frag} {mg : Str → Option Value} {base : Heap}
theorem Shp.snoc {H H1 : Hp} {a t : Addr} {sh : List (Nat × Nat)} {vs : List V} {p o : Nat} (hl : vs.length = sh.length) (hv : ∀ (i : Nat) (q : Nat × Nat), sh[i]? = some q → ∃ t : Addr, vs[i]? = some (V.ref t) ∧ SqT K H t [.int (q.1 : Int), .int (q.2 : Int)])
    (ts : Tst H H1) (h1 : H1 a = some (.lst (vs ++ [.ref t]))) (ht : SqT K H1 t [.int (p : Int), .int (o : Int)]) : Shp K H1 a (sh ++ [(p, o)]) := by
  refine ⟨_, h1, by rw [List.length_append, List.length_append, hl]; rfl, fun i q e => ?_⟩
  by_cases hi : i < sh.length
  · rw [List.getElem?_append_left hi] at e
    obtain ⟨u, e1, e2⟩ := hv i q e
    exact ⟨u, by rw [List.getElem?_append_left (by omega)]; exact e1, ts.sqT e2⟩
  · rw [List.getElem?_append_right (by omega)] at e
    have : i - sh.length = 0 := by
      have := (List.getElem?_eq_some_iff.mp e).1
      simp at this
      omega
    rw [this] at e
    cases e
    exact ⟨t, by rw [List.getElem?_append_right (by omega), hl, this]; rfl, ht⟩
structure Lp (K : PySem.W.Frag) (H H' : Hp) (r sa l : Addr) (sh : List (Nat × Nat)) (xs : List V) (ws : List Wk) : Prop where
  row : Row K H' r
  keep : Keep [r] H H'
  shp : Shp K H' sa sh
  lst : H' l = some (.lst xs)
  rps : Rps K H' xs (ws.map Wk.enc)
  n0 : H sa = none
  n1 : H l = none
  nr : sa ≠ r
  nl : l ≠ r
  sl : sa ≠ l
  few : sh.length ≤ 4
  small : ∀ q ∈ sh, q.1 ≤ 3 ∧ q.2 ≤ 10
theorem Lp.drew {H H1 H2 : Hp} {r sa l : Addr} {sh : List (Nat × Nat)} {xs : List V} {ws : List Wk} (g : Lp K H H1 r sa l sh xs ws) (k : Keep [r] H1 H2) (R : Row K H2 r) : Lp K H H2 r sa l sh xs ws :=
  ⟨R, g.keep.trans k, g.shp.keep k (by simpa using g.nr) (g.row.ts k), k _ _ g.lst (by simpa using g.nl), g.rps.ts (g.row.ts k), g.n0, g.n1, g.nr, g.nl, g.sl, g.few, g.small⟩
theorem Lp.keep0 {H H1 H2 : Hp} {r sa l : Addr} {sh : List (Nat × Nat)} {xs : List V} {ws : List Wk} (g : Lp K H H1 r sa l sh xs ws) (k : Keep [] H1 H2) : Lp K H H2 r sa l sh xs ws :=
  ⟨g.row.keep0 k, g.keep.by0 k, g.shp.keep k (by simp) (keep_ts0 k), k _ _ g.lst (by simp), g.rps.ts (keep_ts0 k), g.n0, g.n1, g.nr, g.nl, g.sl, g.few, g.small⟩
/-- a new list was changed -/
theorem Lp.other {H H1 H2 : Hp} {r sa l e : Addr} {sh : List (Nat × Nat)} {xs ys : List V} {ws : List Wk} (g : Lp K H H1 r sa l sh xs ws) (k : Keep [e] H1 H2) (h : H1 e = some (.lst ys)) (n : H e = none) (n1 : e ≠ r) (n2 : e ≠ sa) (n3 : e ≠ l) : Lp K H H2 r sa l sh xs ws := by
  have t : Tst H1 H2 := k.ts fun x hx => by cases List.mem_singleton.mp hx; exact .inl ⟨_, h⟩
  exact ⟨g.row.keep k (by simpa using Ne.symm n1) t, g.keep.fresh1 k n, g.shp.keep k (by simpa using Ne.symm n2) t, k _ _ g.lst (by simpa using Ne.symm n3), g.rps.ts t, g.n0, g.n1, g.nr, g.nl, g.sl, g.few, g.small⟩
theorem Lp.free {H H1 : Hp} {r sa l e : Addr} {sh : List (Nat × Nat)} {xs : List V} {ws : List Wk} (g : Lp K H H1 r sa l sh xs ws) (h : H1 e = none) : H e = none ∧ e ≠ r ∧ e ≠ sa ∧ e ≠ l := by
  refine ⟨g.keep.free (fun x hx => by cases List.mem_singleton.mp hx; exact g.row.ne) h, fun z => g.row.ne (z ▸ h), fun z => ?_, fun z => ?_⟩
  · obtain ⟨vs, h1, _⟩ := g.shp
    rw [← z, h] at h1
    cases h1
  · have := g.lst
    rw [← z, h] at this
    cases this
noncomputable def spProgram (K : PySem.W.Frag) : Sp := fun vs H Q _ => ∃ (r : Addr) (most : Nat), vs = [.ref r, .int (most : Int)] ∧ 1 ≤ most ∧ most ≤ 60 ∧ Row K H r ∧
  ∀ (v : V) (P : List Wk) (H' : Hp), Rp K H' v (encP P) → Drawn P (most + 2) → Keep [r] H H' → Row K H' r → Q v H'
noncomputable abbrev sL_program : Stmt := top 49
noncomputable abbrev nL_program : List Str := ["_law_row", "_law_most", "_law_shapes", "_law_k", "_law_owns", "_law_found", "_law_at", "_law_body_here", "_law_things"]
noncomputable abbrev pL_program : List Str := ["_law_row", "_law_most"]
theorem scL_program : FnScope nL_program pL_program (defScope sL_program) := ⟨rfl, rfl, rfl, by decide +kernel, rfl, by decide +kernel, by decide +kernel⟩
theorem okProgram (D : DefAt K mg "_law_program" sL_program pL_program) (T : Blt mg) (C_law_taken : Callee P w K mg base "_law_taken" 1 pL_taken (spTaken K))
    (C_law_place : Callee P w K mg base "_law_place" 6 pL_place (spPlace K)) (C_law_body : Callee P w K mg base "_law_body" 14 pL_body (spBody K 3)) : Callee P w K mg base "_law_program" 15 pL_program (spProgram K) := by
  refine D.ok scL_program (fun vs H Q E h => ?_) (fun f cdv A outer s H vs Q E hr h => ?_)
  · obtain ⟨r, most, rfl, _⟩ := h
    rfl
  obtain ⟨r, most, rfl, m1, m2, hR, q⟩ := h
  refine ⟨_, (pss_cons (ps_set (i := 2) scL_program.nd rfl (Or.inr rfl) (pe_lst (pa_cons (pe_tup (pa_cons pe_int (pa_cons (pcall C_law_taken (hr.mono (by first | exact Nat.le_of_ble_eq_true rfl | omega)) rfl (pa_cons (pv 0) (pa_cons pe_int pa_nil))) pa_nil))) pa_nil)))
  (pss_cons (ps_for PassesOwn.never rfl (pi_range1 rfl T.range (pa_cons (pcall C_law_taken (hr.mono (by first | exact Nat.le_of_ble_eq_true rfl | omega)) rfl (pa_cons (pv 0) (pa_cons pe_int pa_nil))) pa_nil)) (pg_name (i := 3) scL_program.nd rfl (Or.inl rfl))
   (pss_cons (ps_set (i := 4) scL_program.nd rfl (Or.inl rfl) (pcall C_law_taken (hr.mono (by first | exact Nat.le_of_ble_eq_true rfl | omega)) rfl (pa_cons (pv 0) (pa_cons (pe_ix (ixL (K := K)) (pe_lst (pa_cons pe_int (pa_cons pe_int (pa_cons pe_int (pa_cons pe_int (pa_cons pe_int (pa_cons pe_int pa_nil))))))) (pcall C_law_taken (hr.mono (by first | exact Nat.le_of_ble_eq_true rfl | omega)) rfl (pa_cons (pv 0) (pa_cons pe_int pa_nil))) (fun _ _ => rfl)) pa_nil))))
  (pss_one (ps_expr (peApp (K := K) (pv 2) (pe_tup (pa_cons (pe_ix (ixL (K := K)) (pe_lst (pa_cons pe_int (pa_cons pe_int (pa_cons pe_int (pa_cons pe_int (pa_cons pe_int pa_nil)))))) (pcall C_law_taken (hr.mono (by first | exact Nat.le_of_ble_eq_true rfl | omega)) rfl (pa_cons (pv 0) (pa_cons pe_int pa_nil))) (fun _ _ => rfl)) (pa_cons (pv 4) pa_nil))))))))
  (pss_cons (ps_set (i := 5) scL_program.nd rfl (Or.inl rfl) (pe_lst pa_nil))
  (pss_cons (ps_for PassesOwn.never rfl (pi_range1 rfl T.range (pa_cons (pe_callB (cLen (K := K)) (by rfl) T.len PySem.boot_len (pa_cons (pv 2) pa_nil)) pa_nil)) (pg_name (i := 6) scL_program.nd rfl (Or.inr rfl))
   (pss_cons (ps_set (i := 7) scL_program.nd rfl (Or.inl rfl) (pcall C_law_body (hr.mono (by first | exact Nat.le_of_ble_eq_true rfl | omega)) rfl (pa_cons (pv 0) (pa_cons (pv 2) (pa_cons (pv 6) (pa_cons (pe_lst (pa_cons (pv 1) (pa_cons pe_int pa_nil))) (pa_cons pe_int pa_nil)))))))
  (Evl.pss_cut (ps_if (PW.pt (pw_and (pt_cmpR op_lt (pe_op op_add (pv 6) pe_int) (pe_callB (cLen (K := K)) (by rfl) T.len PySem.boot_len (pa_cons (pv 2) pa_nil)) (nomark _)) (pw_and1 (pt_cmpR op_gt (pcall C_law_taken (hr.mono (by first | exact Nat.le_of_ble_eq_true rfl | omega)) rfl (pa_cons (pv 0) (pa_cons pe_int pa_nil))) pe_int (nomark _))))) (pss_cons (ps_set (i := 8) scL_program.nd rfl (Or.inl rfl) (pe_callTy (cTuple (K := K)) (by rfl) T.tuple (by decide +kernel) (pa_cons (pe_lc (own := [("_law_k", 3)]) (g := gName 3) (by rfl) scL_program.nd (pi_range1 rfl T.range (pa_cons (pe_ix (ixT (K := K)) (pe_ix (ixL (K := K)) (pv 2) (pe_op op_add (pv 6) pe_int) (fun _ _ => rfl)) pe_int (fun _ _ => rfl)) pa_nil)) (blkOk_by (own := [("_law_k", 3)]) (N := nL_program) (sc := defScope sL_program) (by decide +kernel)) (fun _ _ _ _ _ => (pg_name (i := 3) scL_program.nd rfl (Or.inl rfl))) (fun _ _ _ _ _ => pts_nil) (fun _ _ _ _ _ => (pcall C_law_place (hr.mono (by first | exact Nat.le_of_ble_eq_true rfl | omega)) rfl (pa_cons (pv 0) (pa_cons (pe_ix (ixL (K := K)) (pv 2) (pv 6) (fun _ _ => rfl)) (pa_cons pe_int pa_nil)))))) pa_nil)))
  (pss_one (ps_set (i := 7) scL_program.nd rfl (Or.inl rfl) (pe_op (opCatA (K := K)) (pe_slice (slA (K := K)) (pv 7) po_none (po_some (pe_op op_sub (pv 1) pe_int))) (pe_tup (pa_cons (pe_tup (pa_cons pe_str (pa_cons (pe_op op_add (pv 6) pe_int) (pa_cons (pv 8) pa_nil)))) pa_nil)))))) pss_nil)
  (Evl.pss_cut (ps_if (PW.pt (pw_and (pt_cmpR op_gt (pv 6) pe_int (nomark _)) (pw_and (pt_cmpR op_gt (pe_ix (ixT (K := K)) (pe_ix (ixL (K := K)) (pv 2) (pv 6) (fun _ _ => rfl)) pe_int (fun _ _ => rfl)) pe_int (nomark _)) (pw_and1 (pt_cmpR op_eq (pcall C_law_taken (hr.mono (by first | exact Nat.le_of_ble_eq_true rfl | omega)) rfl (pa_cons (pv 0) (pa_cons pe_int pa_nil))) pe_int (nomark _)))))) (pss_one (ps_set (i := 7) scL_program.nd rfl (Or.inl rfl) (pe_op (opCatA (K := K)) (pe_slice (slA (K := K)) (pv 7) po_none (po_some (pe_op op_sub (pv 1) pe_int))) (pe_tup (pa_cons (pe_tup (pa_cons pe_str (pa_cons (pe_tup (pa_cons pe_str (pa_cons pe_int pa_nil))) (pa_cons (pe_tup (pa_cons pe_str (pa_cons (pe_tup (pa_cons pe_str (pa_cons pe_int pa_nil))) (pa_cons (pe_tup (pa_cons pe_str (pa_cons pe_int pa_nil))) pa_nil)))) pa_nil)))) pa_nil))))) pss_nil)
  (pss_one (ps_expr (peApp (K := K) (pv 5) (pe_op (opCatA (K := K)) (pe_ix (ixL (K := K)) (pv 2) (pv 6) (fun _ _ => rfl)) (pe_tup (pa_cons (pv 7) pa_nil))))))))))
  (pss_one (ps_ret (pe_callTy (cTuple (K := K)) (by rfl) T.tuple (by decide +kernel) (pa_cons (pv 5) pa_nil)))))))), ?_⟩
  walk_at "rd"
  refine ask ⟨r, _, rfl, by decide, by decide, hR, fun v1 H1 v10 v11 k1 R1 => ?_⟩
  obtain ⟨o1, rfl⟩ : ∃ m : Nat, v1 = m := ⟨v1.toNat, by omega⟩
  walk_at "rd"
  intro t1 H2 n2 h2 k2
  walk_at "rd"
  intro sa H3 n3 h3 k3
  have R3 := (R1.keep0 k2).keep0 k3
  have kk3 : Keep [r] H H3 := (k1.by0 k2).by0 k3
  have nsr : sa ≠ r := fun z => (R1.keep0 k2).ne (z ▸ n3)
  have ns0 : H sa = none := (k1.by0 k2).free (fun x hx => by cases List.mem_singleton.mp hx; exact (R1.keep0 k2).ne) n3
  have s3 : Shp K H3 sa [(0, o1)] := ⟨_, h3, rfl, fun i qq e => by
    match i, e with
    | 0, e => cases e; exact ⟨t1, rfl, SqT.of (k3 _ _ h2 (by simp))⟩⟩
  walk_at "rd"
  refine ask ⟨r, _, rfl, by decide, by decide, R3, fun v4 H4 v40 v41 k4 R4 => ?_⟩
  have s4 := s3.keep k4 (by simpa using nsr) (R3.ts k4)
  have kk4 := kk3.trans k4
  walk_at "rd"
  refine forR (fun i σ H' => ∃ (x y : Option V) (sh : List (Nat × Nat)), σ = [some (.ref r), some (.int most), some (.ref sa), x, y, none, none, none, none] ∧ Row K H' r ∧ Keep [r] H H' ∧ Shp K H' sa sh ∧ sh.length = i + 1 ∧ (∀ q ∈ sh, q.1 ≤ 3 ∧ q.2 ≤ 10) ∧ ∀ q, sh[0]? = some q → q.1 = 0)
    ⟨none, none, _, rfl, R4, kk4, s4, rfl, by simp; omega, fun q e => by cases e; rfl⟩ (fun i σ H' hi hp => ?_) (fun σ H' hp => ?_)
  · obtain ⟨x, y, sh, rfl, R5, kk5, s5, ls, ss, s0⟩ := hp
    walk_at "rd"
    intro p6 H6 n6 h6 k6
    walk_at "rd"
    refine ask ⟨r, _, rfl, by decide, by decide, R5.keep0 k6, fun v7 H7 v70 v71 k7 R7 => ?_⟩
    have h67 := k7 _ _ h6 (by simpa using fun z => R5.ne (by rw [← z]; exact n6))
    obtain ⟨z7, e7, z70⟩ := atI_ints (ns := [3, 3, 3, 3, 3, 11]) v70 (by simpa using v71)
    have z71 : 3 ≤ z7 ∧ z7 ≤ 11 := by simp at z70; omega
    walk_at "rd"
    refine ask ⟨r, _, rfl, by omega, by omega, R7, fun v8 H8 v80 v81 k8 R8 => ?_⟩
    obtain ⟨o8, rfl⟩ : ∃ m : Nat, v8 = m := ⟨v8.toNat, by omega⟩
    have kk8 : Keep [r] H H8 := ((kk5.by0 k6).trans k7).trans k8
    have s8 := ((s5.keep k6 (by simp) (keep_ts0 k6)).keep k7 (by simpa using nsr) ((R5.keep0 k6).ts k7)).keep k8 (by simpa using nsr) (R7.ts k8)
    obtain ⟨vs8, hs8, hl8, hv8⟩ := id s8
    have lb8 : vs8.length ≤ 10 := by omega
    walk_at "rd"
    intro p9 H9 n9 h9 k9
    walk_at "rd"
    refine ask ⟨r, _, rfl, by decide, by decide, R8.keep0 k9, fun v10 H10 v100 v101 k10 R10 => ?_⟩
    have h910 := k10 _ _ h9 (by simpa using fun z => R8.ne (by rw [← z]; exact n9))
    obtain ⟨z10, e10, z100⟩ := atI_ints (ns := [1, 2, 2, 3, 0]) v100 (by simpa using v101)
    have z101 : 0 ≤ z10 ∧ z10 ≤ 3 := by simp at z100; omega
    obtain ⟨p10, rfl⟩ : ∃ m : Nat, z10 = m := ⟨z10.toNat, by omega⟩
    have hs10 := k10 _ _ (k9 _ _ hs8 (by simp)) (by simpa using nsr)
    have t10 : Tst H8 H10 := (keep_ts0 k9).trans ((R8.keep0 k9).ts k10)
    walk_at "rd"
    intro t11 H11 n11 h11 k11
    have hs11 := k11 _ _ hs10 (by simp)
    have t11' := t10.trans (keep_ts0 k11)
    have R11 := R10.keep0 k11
    have kk11 : Keep [r] H H11 := ((kk8.by0 k9).trans k10).by0 k11
    walk_at "rd"
    intro H12 h12 k12
    have t12 : Tst H11 H12 := k12.ts fun x hx => by cases List.mem_singleton.mp hx; exact .inl ⟨_, hs11⟩
    refine ⟨_, _, sh ++ [(p10, o8)], rfl, R11.keep k12 (by simpa using Ne.symm nsr) t12, kk11.fresh1 k12 ns0, Shp.snoc hl8 hv8 (t11'.trans t12) h12 (t12.sqT (SqT.of h11)), by rw [List.length_append, ls]; rfl, fun qq hq => ?_, fun qq e => ?_⟩
    · rcases List.mem_append.mp hq with hq | hq
      · exact ss qq hq
      · cases List.mem_singleton.mp hq
        exact ⟨by show p10 ≤ 3; omega, by show o8 ≤ 10; omega⟩
    · rw [List.getElem?_append_left (by omega)] at e
      exact s0 qq e
  obtain ⟨x, y, sh, rfl, R5, kk5, s5, ls, ss, s0⟩ := hp
  have lf4 : sh.length ≤ 4 := by omega
  walk_at "rd"
  intro l H6 n6 h6 k6
  have s6 := s5.keep k6 (by simp) (keep_ts0 k6)
  have nlr : l ≠ r := fun z => R5.ne (z ▸ n6)
  have nl0 : H l = none := kk5.free (fun x hx => by cases List.mem_singleton.mp hx; exact R5.ne) n6
  have nsl : sa ≠ l := fun z => by
    obtain ⟨vs, h1, _⟩ := s5
    rw [z, n6] at h1
    cases h1
  have g6 : Lp K H H6 r sa l sh [] [] := ⟨R5.keep0 k6, kk5.by0 k6, s6, h6, .nil, ns0, nl0, nsr, nlr, nsl, lf4, ss⟩
  obtain ⟨vs6, hs6, hl6, hv6⟩ := id s6
  walk_at "rd"
  have fewI : (vs6.length : Int) < 10 := by omega
  refine forR (fun i σ H' => ∃ (x3 x4 x6 x7 x8 : Option V) (xs : List V) (ws : List Wk), σ = [some (.ref r), some (.int most), some (.ref sa), x3, x4, some (.ref l), x6, x7, x8] ∧ Lp K H H' r sa l sh xs ws ∧ ws.length = i ∧ shapes ws = sh.take i ∧ (∀ (j : Nat) (w : Wk), ws[j]? = some w → Sts.okD sh j 2 w.body) ∧ ∀ w ∈ ws, w.body.many ≤ most + 2 ∧ w.body.calls ≤ 4)
    ⟨_, _, _, _, _, [], [], rfl, g6, rfl, by rw [List.take_zero]; rfl, fun j w e => by simp at e, fun w hw => by cases hw⟩ (fun i σ H' hi hp => ?_) (fun σ H' hp => ?_)
  · obtain ⟨x3, x4, x6, x7, x8, xs, ws, rfl, g7, lw, sw, ow, mw⟩ := hp
    have hi' : i < sh.length := by omega
    walk_at "rd"
    intro lf H8 n8 h8 k8
    have g8 := g7.keep0 k8
    obtain ⟨f1, f2, f3, f4⟩ := g7.free n8
    walk_at "rd"
    refine ask ⟨r, sa, lf, sh, i, most, 3, 2, rfl, ⟨g8.row, h8, g8.shp, f2, nsr, Ne.symm f3, lf4, ss⟩, hi', by decide, by decide, fun vb b H9 a9 c9 rb ob mb cb k9 gs9 => ?_⟩
    have g9 : Lp K H H9 r sa l sh xs ws := by
      have t9 : Tst H8 H9 := k9.ts fun x hx => by
        rcases List.mem_cons.mp hx with rfl | hx
        · exact g8.row.lo _ (List.mem_singleton.mpr rfl)
        · cases List.mem_singleton.mp hx
          exact .inl ⟨_, h8⟩
      refine ⟨gs9.row, ?_, gs9.shp, k9 _ _ g8.lst (by simp [nlr, Ne.symm f4]), g8.rps.ts t9, ns0, nl0, nsr, nlr, nsl, lf4, ss⟩
      have k9' : Keep [lf, r] H8 H9 := k9.mono (fun x hx => by
        rcases List.mem_cons.mp hx with rfl | hx
        · simp
        · cases List.mem_singleton.mp hx
          simp)
      exact ((g8.keep.mono (M' := [lf, r]) (by simp)).trans k9').less f1
    obtain ⟨ab, xb, rfl, hab, hxb⟩ := rb.tup_inv
    have lxb : xb.length ≤ most := by
      rw [hxb.length, Sts.encs_len]
      have := Sts.len_le_many b
      omega
    obtain ⟨vs9, hs9, hl9, hv9⟩ := id g9.shp
    walk_at "rd"
    refine cut (fun σ' H' => ∃ (y3 y8 : Option V) (ac : Addr) (xc : List V) (bc : Sts), σ' = [some (.ref r), some (.int most), some (.ref sa), y3, x4, some (.ref l), some (.int i), some (.ref ac), y8] ∧ Lp K H H' r sa l sh xs ws ∧ SqT K H' ac xc ∧ Rps K H' xc bc.encs ∧ Sts.okD sh i 2 bc ∧ bc.many ≤ most + 1 ∧ bc.calls ≤ 4) ?_ ?_
    · refine r_if ?_
      refine r_andI (a := decide ((i : Int) + 1 < (vs9.length : Int))) (fun R hr => by walk_at "rd"; exact hr) (fun c10 => ?_) (fun c10 => ?_)
      · have c10' := of_decide_eq_true c10
        have hw : i + 1 < sh.length := by omega
        walk_at "rd"
        refine ask ⟨r, _, rfl, by decide, by decide, g9.row, fun v11 H11 v110 v111 k11 R11 => ?_⟩
        have g11 := g9.drew k11 R11
        have t11 := g9.row.ts k11
        walk_at "rd"
        refine ite2 (fun c12 => ?_) (fun c12 => ?_)
        · obtain ⟨tn, en, tn'⟩ := hv9 (i + 1) _ (List.getElem?_eq_getElem hw)
          obtain ⟨tc, ec, tc'⟩ := hv9 i _ (List.getElem?_eq_getElem hi')
          have en' : atI vs9 ((i : Int) + 1) = some (V.ref tn) := by
            have := atI_nat en
            rw [show ((i + 1 : Nat) : Int) = (i : Int) + 1 by omega] at this
            exact this
          have ec' := atI_nat ec
          have hs11 := k11 _ _ hs9 (by simpa using nsr)
          have tn11 := t11.sqT tn'
          have hsn := ss _ (List.getElem_mem hw)
          have hsc := ss _ (List.getElem_mem hi')
          walk_at "rd"
          refine lcR (fun E j H' => ∃ (ys : List V) (ts : List Th), Lp K H H' r sa l sh xs ws ∧ Tst H11 H' ∧ H E = none ∧ E ≠ r ∧ E ≠ sa ∧ E ≠ l ∧ H' E = some (.lst ys) ∧ H' sa = some (.lst vs9) ∧ Rps K H' ys (ts.map Th.enc) ∧ ts.length = j ∧ ∀ t ∈ ts, Th.ok sh[i].1 sh[i].2 3 t)
            (fun E H12 n12 h12 k12 => ?_) (fun E j H12 hj hp => ?_) (fun E H12 hp => ?_)
          · obtain ⟨e1, e2, e3, e4⟩ := g11.free n12
            exact ⟨[], [], g11.keep0 k12, keep_ts0 k12, e1, e2, e3, e4, h12, k12 _ _ hs11 (by simp), .nil, rfl, by simp⟩
          · obtain ⟨ys, ts, g12, t12, e1, e2, e3, e4, h12, hs12, hy12, lt, ot⟩ := hp
            have lys : ys.length ≤ 10 := by
              rw [hy12.length, List.length_map]
              omega
            have tc12 := t12.sqT (t11.sqT tc')
            walk_at "rd"
            refine ⟨rfl, ?_⟩
            walk_at "rd"
            refine ask ⟨r, tc, sh[i].1, sh[i].2, 1, rfl, g12.row, tc12, by omega, by omega, by decide, by decide, fun vp tp H13 rp pp op k13 R13 => ?_⟩
            have h13 := k13 _ _ h12 (by simpa using e2)
            have g13 := g12.drew k13 R13
            have t13 := g12.row.ts k13
            walk_at "rd"
            intro H14 h14 k14
            have t14 : Tst H13 H14 := k14.ts fun x hx => by cases List.mem_singleton.mp hx; exact .inl ⟨_, h13⟩
            refine ⟨_, ts ++ [tp], g13.other k14 h13 e1 e2 e3 e4, (t12.trans t13).trans t14, e1, e2, e3, e4, h14, k14 _ _ (k13 _ _ hs12 (by simpa using nsr)) (by simpa using Ne.symm e3), ?_, by rw [List.length_append, lt]; rfl, fun t ht => ?_⟩
            · rw [List.map_append]
              exact ((hy12.ts t13).ts t14).append (.cons (rp.ts t14) .nil)
            · rcases List.mem_append.mp ht with ht | ht
              · exact ot t ht
              · cases List.mem_singleton.mp ht
                exact op.mono (by decide)
          · obtain ⟨ys, ts, g12, t12, e1, e2, e3, e4, h12, hs12, hy12, lt, ot⟩ := hp
            walk_at "rd"
            intro pt H13 n13 h13 k13
            have t13 := (t11.trans t12).trans (keep_ts0 k13)
            have hab13 := t13.sqT hab
            walk_at "rd"
            intro pa H14 s14 k14 f14
            rw [cutV_to (by omega)] at s14
            walk_at "rd"
            intro pc H15 n15 h15 k15
            walk_at "rd"
            intro pd H16 n16 h16 k16
            have s16 := (keep_ts0 k16).sqT ((keep_ts0 k15).sqT s14)
            have lx2 : (xb.take ((most : Int) - 1).toNat).length ≤ most := by rw [List.length_take]; omega
            refine r_catA s16 (SqT.of h16) (by rw [List.length_singleton]; exact small (by omega)) fun pe H17 s17 k17 f17 => ?_
            have t17 := (((t13.trans (keep_ts0 k14)).trans (keep_ts0 k15)).trans (keep_ts0 k16)).trans (keep_ts0 k17)
            have rpt : Rp K H14 (.ref pt) (.tuple (ts.map Th.enc)) := .tup ((keep_ts0 k14).sqT (SqT.of h13)) ((hy12.ts (keep_ts0 k13)).ts (keep_ts0 k14))
            have rpc : Rp K H15 (.ref pc) (St.enc (.call (i + 1) ts)) := .tup (SqT.of h15) (.cons (.str _) (.cons (by rw [show (((i + 1 : Nat) : Int)) = (i : Int) + 1 by omega]; exact .int _) (.cons (rpt.ts (keep_ts0 k15)) .nil)))
            refine ⟨_, _, pe, _, (b.take ((most : Int) - 1).toNat).app (.cons (.call (i + 1) ts) .nil), rfl, ((((g12.keep0 k13).keep0 k14).keep0 k15).keep0 k16).keep0 k17, s17, ?_, Sts.okD_app (Sts.okD_take _ ob) ?_, ?_, ?_⟩
            · rw [Sts.encs_app, Sts.encs_take]
              exact ((hxb.ts t17).take _).append (.cons ((rpc.ts (keep_ts0 k16)).ts (keep_ts0 k17)) .nil)
            · exact Sts.okD_one ⟨St.ok_call (by omega) hw (by rw [lt, getD_at hw]; exact Int.toNat_natCast _) (by rw [getD_at hi']; exact fun t ht => (ot t ht).mono (by omega)), by unfold St.thin; exact fun t ht => Th.ok_dep (ot t ht)⟩
            · rw [Sts.many_app]
              have := Sts.many_take ((most : Int) - 1).toNat b
              have : (Sts.cons (.call (i + 1) ts) .nil).many = 1 := rfl
              omega
            · rw [Sts.calls_app]
              have := Sts.calls_take ((most : Int) - 1).toNat b
              have : (Sts.cons (.call (i + 1) ts) .nil).calls = 1 := rfl
              omega
        · walk_at "rd"
          exact ⟨_, _, ab, xb, b, rfl, g11, t11.sqT hab, hxb.ts t11, ob, by omega, by omega⟩
      · walk_at "rd"
        exact ⟨_, _, ab, xb, b, rfl, g9, hab, hxb, ob, by omega, by omega⟩
    · rintro σ' H10 ⟨y3, y8, ac, xc, bc, rfl, g10, hac, hxc, oc, mc, cc⟩
      have lxc : xc.length ≤ most + 1 := by
        rw [hxc.length, Sts.encs_len]
        have := Sts.len_le_many bc
        omega
      obtain ⟨vs10, hs10, hl10, hv10⟩ := id g10.shp
      obtain ⟨tc, ec, tc'⟩ := hv10 i _ (List.getElem?_eq_getElem hi')
      have ec' := atI_nat ec
      have hsc := ss _ (List.getElem_mem hi')
      refine cut (fun σ' H' => ∃ (ad : Addr) (xd : List V) (bd : Sts), σ' = [some (.ref r), some (.int most), some (.ref sa), y3, x4, some (.ref l), some (.int i), some (.ref ad), y8] ∧ Lp K H H' r sa l sh xs ws ∧ Tst H10 H' ∧ H' sa = some (.lst vs10) ∧ SqT K H' ad xd ∧ Rps K H' xd bd.encs ∧ Sts.okD sh i 2 bd ∧ bd.many ≤ most + 2 ∧ bd.calls ≤ 4) ?_ ?_
      · refine r_if ?_
        have no : ∀ H', Lp K H H' r sa l sh xs ws → Tst H10 H' → H' sa = some (.lst vs10) → ∃ (ad : Addr) (xd : List V) (bd : Sts), ([some (.ref r), some (.int most), some (.ref sa), y3, x4, some (.ref l), some (.int i), some (.ref ac), y8] : List (Option V)) = [some (.ref r), some (.int most), some (.ref sa), y3, x4, some (.ref l), some (.int i), some (.ref ad), y8] ∧ Lp K H H' r sa l sh xs ws ∧ Tst H10 H' ∧ H' sa = some (.lst vs10) ∧ SqT K H' ad xd ∧ Rps K H' xd bd.encs ∧ Sts.okD sh i 2 bd ∧ bd.many ≤ most + 2 ∧ bd.calls ≤ 4 :=
          fun H' g t e => ⟨ac, xc, bc, rfl, g, t, e, t.sqT hac, hxc.ts t, oc, by omega, cc⟩
        refine r_andI (a := decide (0 < (i : Int))) (fun R hr => by walk_at "rd"; exact hr) (fun c11 => ?_) (fun c11 => by walk_at "rd"; exact no _ g10 Tst.refl hs10)
        refine r_andI (a := decide (0 < (sh[i].1 : Int))) (fun R hr => by walk_at "rd"; exact hr) (fun c12 => ?_) (fun c12 => by walk_at "rd"; exact no _ g10 Tst.refl hs10)
        have c12' := of_decide_eq_true c12
        walk_at "rd"
        refine ask ⟨r, _, rfl, by decide, by decide, g10.row, fun v13 H13 v130 v131 k13 R13 => ?_⟩
        have g13 := g10.drew k13 R13
        have t13 := g10.row.ts k13
        have hs13 := k13 _ _ hs10 (by simpa using nsr)
        walk_at "rd"
        refine ite2 (fun c14 => ?_) (fun c14 => by walk_at "rd"; exact no _ g13 t13 hs13)
        have hac13 := t13.sqT hac
        walk_at "rd"
        intro pa H14 s14 k14 f14
        rw [cutV_to (by omega)] at s14
        walk_at "rd"
        intro p1 H15 n15 h15 k15
        walk_at "rd"
        intro p2 H16 n16 h16 k16
        walk_at "rd"
        intro p3 H17 n17 h17 k17
        walk_at "rd"
        intro p4 H18 n18 h18 k18
        walk_at "rd"
        intro p5 H19 n19 h19 k19
        walk_at "rd"
        intro p6 H20 n20 h20 k20
        have t15 := keep_ts0 k15
        have t16 := keep_ts0 k16
        have t17 := keep_ts0 k17
        have t18 := keep_ts0 k18
        have t19 := keep_ts0 k19
        have t20 := keep_ts0 k20
        have s20 := t20.sqT (t19.sqT (t18.sqT (t17.sqT (t16.sqT (t15.sqT s14)))))
        have lx2 : (xc.take ((most : Int) - 1).toNat).length ≤ most := by rw [List.length_take]; omega
        refine r_catA s20 (SqT.of h20) (by rw [List.length_singleton]; exact small (by omega)) fun pe H21 s21 k21 f21 => ?_
        have t21 := ((((((t13.trans (keep_ts0 k14)).trans t15).trans t16).trans t17).trans t18).trans t19).trans (t20.trans (keep_ts0 k21))
        have r1 : Rp K H15 (.ref p1) (Th.enc (.par 0)) := .tup (SqT.of h15) (.cons (.str _) (.cons (.int _) .nil))
        have r2 : Rp K H16 (.ref p2) (Th.enc (.par 0)) := .tup (SqT.of h16) (.cons (.str _) (.cons (.int _) .nil))
        have r3 : Rp K H17 (.ref p3) (Th.enc (.num 1)) := .tup (SqT.of h17) (.cons (.str _) (.cons (.int _) .nil))
        have r4 : Rp K H18 (.ref p4) (Th.enc (.sum (.par 0) (.num 1))) := .tup (SqT.of h18) (.cons (.str _) (.cons ((r2.ts t17).ts t18) (.cons (r3.ts t18) .nil)))
        have r5 : Rp K H19 (.ref p5) (St.enc (.set (.par 0) (.sum (.par 0) (.num 1)))) := .tup (SqT.of h19) (.cons (.str _) (.cons ((((r1.ts t16).ts t17).ts t18).ts t19) (.cons (r4.ts t19) .nil)))
        refine ⟨pe, _, (bc.take ((most : Int) - 1).toNat).app (.cons (.set (.par 0) (.sum (.par 0) (.num 1))) .nil), rfl, (((((((g13.keep0 k14).keep0 k15).keep0 k16).keep0 k17).keep0 k18).keep0 k19).keep0 k20).keep0 k21, t21, ?_, s21, ?_, Sts.okD_app (Sts.okD_take _ oc) ?_, ?_, ?_⟩
        · exact k21 _ _ (k20 _ _ (k19 _ _ (k18 _ _ (k17 _ _ (k16 _ _ (k15 _ _ (k14 _ _ hs13 (by simp)) (by simp)) (by simp)) (by simp)) (by simp)) (by simp)) (by simp)) (by simp)
        · rw [Sts.encs_app, Sts.encs_take]
          exact ((hxc.ts t21).take _).append (.cons ((r5.ts t20).ts (keep_ts0 k21)) .nil)
        · refine Sts.okD_one ⟨St.ok_set rfl ?_ ?_, by unfold St.thin; trivial⟩
          · rw [getD_at hi']
            exact Th.ok_par (by omega)
          · rw [getD_at hi']
            exact ⟨Th.ok_par (by omega), Th.ok_num (by decide)⟩
        · rw [Sts.many_app]
          have := Sts.many_take ((most : Int) - 1).toNat bc
          have : (Sts.cons (.set (.par 0) (.sum (.par 0) (.num 1))) .nil).many = 1 := rfl
          omega
        · rw [Sts.calls_app]
          have := Sts.calls_take ((most : Int) - 1).toNat bc
          have : (Sts.cons (.set (.par 0) (.sum (.par 0) (.num 1))) .nil).calls = 0 := rfl
          omega
      · rintro σ' H11 ⟨ad, xd, bd, rfl, g11, t11, hs11, had, hxd, od, md, cd⟩
        have gl11 := g11.lst
        have lxs : xs.length ≤ 10 := by
          rw [g11.rps.length, List.length_map]
          omega
        walk_at "rd"
        intro pt H12 n12 h12 k12
        have tc12 := (keep_ts0 k12).sqT (t11.sqT tc')
        refine r_catA tc12 (SqT.of h12) (by simp; decide) fun pw H13 s13 k13 f13 => ?_
        have g13 := (g11.keep0 k12).keep0 k13
        have gl13 := g13.lst
        walk_at "rd"
        intro H14 h14 k14
        have t14 : Tst H13 H14 := k14.ts fun x hx => by cases List.mem_singleton.mp hx; exact .inl ⟨_, gl13⟩
        have rw13 : Rp K H13 (.ref pw) (Wk.enc ⟨sh[i].1, sh[i].2, bd⟩) := .tup s13 (.cons (.int _) (.cons (.int _) (.cons (.tup ((keep_ts0 k13).sqT ((keep_ts0 k12).sqT had)) ((hxd.ts (keep_ts0 k12)).ts (keep_ts0 k13))) .nil)))
        refine ⟨_, _, _, _, _, xs ++ [.ref pw], ws ++ [⟨sh[i].1, sh[i].2, bd⟩], rfl, ⟨g13.row.keep k14 (by simpa using Ne.symm nlr) t14, g13.keep.fresh1 k14 nl0, g13.shp.keep k14 (by simpa using nsl) t14, h14, ?_, ns0, nl0, nsr, nlr, nsl, lf4, ss⟩, by rw [List.length_append, lw]; rfl, ?_, fun j w' e => ?_, fun w' hw' => ?_⟩
        · rw [List.map_append]
          exact (g13.rps.ts t14).append (.cons (rw13.ts t14) .nil)
        · unfold shapes at sw ⊢
          rw [List.map_append, sw, List.take_succ, List.getElem?_eq_getElem hi']
          rfl
        · by_cases hj : j < ws.length
          · rw [List.getElem?_append_left hj] at e
            exact ow j w' e
          · rw [List.getElem?_append_right (by omega)] at e
            have hj2 := (List.getElem?_eq_some_iff.mp e).1
            simp at hj2
            have ej : j = i := by omega
            have ez : j - ws.length = 0 := by omega
            rw [ez] at e
            cases e
            rw [ej]
            exact od
        · rcases List.mem_append.mp hw' with hw' | hw'
          · exact mw w' hw'
          · cases List.mem_singleton.mp hw'
            exact ⟨md, cd⟩
  · obtain ⟨x3, x4, x6, x7, x8, xs, ws, rfl, g7, lw, sw, ow, mw⟩ := hp
    have gl7 := g7.lst
    have lw' : ws.length = sh.length := by rw [lw, hl6]; exact Int.toNat_natCast _
    have esh : shapes ws = sh := by rw [sw, ← lw, lw', List.take_length]
    walk_at "rd"
    intro pt H8 n8 h8 k8
    have inS : ∀ w ∈ ws, (w.params, w.owns) ∈ sh := fun w hw => by
      rw [← esh]
      exact List.mem_map_of_mem hw
    refine q _ ws _ (.tup (SqT.of h8) (g7.rps.ts (keep_ts0 k8))) ⟨⟨by omega, by omega, fun w' e => ?_, fun w' hw => (ss _ (inS w' hw)).1, fun w' hw => Nat.le_trans (ss _ (inS w' hw)).2 (by decide), fun j w' e => by rw [esh]; exact (ow j w' e).1, fun w' hw => (mw w' hw).1, fun w' hw => (mw w' hw).2⟩, fun w' hw => by
      obtain ⟨j, hj⟩ := List.mem_iff_getElem?.mp hw
      exact (ow j w' hj).2, fun w' hw => (ss _ (inS w' hw)).2⟩ (g7.keep.by0 k8) (g7.row.keep0 k8)
    refine s0 (w'.params, w'.owns) ?_
    rw [← esh]
    unfold shapes
    rw [List.getElem?_map, e]
    rfl
end
end
section
section
variable {P : Program} {w : World} {K : PySem.W.Frag} {mg : Str → Option Value} {base : Heap}
section
variable {H H1 : Hp}
mutual
theorem Dp.keep0 (k : Keep [] H H1) : ∀ {d : PyData} {v : V}, Dp K H v d → Dp K H1 v d
  | .none, _, h => by cases h; exact .non
  | .bool b, _, h => by cases h; exact .bl b
  | .int i, _, h => by cases h; exact .int i
  | .str x, _, h => by cases h; exact .str x
  | .tuple ds, _, h => by
    cases h with
    | tup hs ha => exact .tup ((keep_ts0 k).sqT hs) (DpAll.keep0 k ha)
  | .list ds, _, h => by
    cases h with
    | lst hs ha => exact .lst (k.sqL (by simp) hs) (DpAll.keep0 k ha)
  | .dict _, _, h => by cases h
theorem DpAll.keep0 (k : Keep [] H H1) : ∀ {ds : List PyData} {vs : List V}, DpAll K H vs ds → DpAll K H1 vs ds
  | [], _, h => by cases h; exact .nil
  | d :: ds, _, h => by
    cases h with
    | cons h1 h2 => exact .cons (Dp.keep0 k h1) (DpAll.keep0 k h2)
end
theorem DpAll.length : ∀ {ds : List PyData} {vs : List V}, DpAll K H vs ds → vs.length = ds.length
  | [], _, h => by cases h; rfl
  | d :: ds, _, h => by
    cases h with
    | cons h1 h2 => rw [List.length_cons, List.length_cons, DpAll.length h2]
theorem DpAll.get : ∀ {ds : List PyData} {vs : List V} {i : Nat} {d : PyData}, DpAll K H vs ds → ds[i]? = some d → ∃ v, vs[i]? = some v ∧ Dp K H v d
  | [], _, _, _, _, e => by simp at e
  | d :: ds, _, 0, _, h, e => by
    cases h with
    | cons h1 h2 =>
      simp at e
      subst e
      exact ⟨_, rfl, h1⟩
  | d :: ds, _, i + 1, d', h, e => by
    cases h with
    | cons h1 h2 =>
      obtain ⟨v, q1, q2⟩ := DpAll.get (i := i) h2 (by simpa using e)
      exact ⟨v, by simpa using q1, q2⟩
end
noncomputable def plain : Nat → PyData → Prop
  | 0, _ => False
  | n + 1, .list ds => ds.length ≤ 90000 ∧ ∀ e ∈ ds, plain n e
  | n + 1, .tuple ds => ds.length ≤ 90000 ∧ ∀ e ∈ ds, plain n e
  | _ + 1, .dict _ => False
  | _ + 1, _ => True
noncomputable def spAlike (K : PySem.W.Frag) (n : Nat) : Sp := fun vs H Q _ => ∃ (x y : V) (d : PyData), vs = [x, y] ∧ Dp K H x d ∧ Dp K H y d ∧ plain n d ∧ ∀ H', Keep [] H H' → Q (.bl true) H'
noncomputable abbrev sL_alike : Stmt := top 44
noncomputable abbrev nL_alike : List Str := ["_law_found", "_law_due", "_law_k"]
noncomputable abbrev pL_alike : List Str := ["_law_found", "_law_due"]
theorem scL_alike : FnScope nL_alike pL_alike (defScope sL_alike) := ⟨rfl, rfl, rfl, by decide +kernel, rfl, by decide +kernel, by decide +kernel⟩
theorem okAlike (D : DefAt K mg "_law_alike" sL_alike pL_alike) (T : Blt mg) : ∀ n : Nat, Callee P w K mg base "_law_alike" (n + 1) pL_alike (spAlike K n)
  | 0 => D.none fun vs H Q E h => by
    obtain ⟨x, y, d, rfl, _, _, h, _⟩ := h
    exact h
  | n + 1 => by
    have C_law_alike := okAlike D T n
    refine D.ok scL_alike (fun vs H Q E h => ?_) (fun f cdv A outer s H vs Q E hr h => ?_)
    · obtain ⟨x, y, d, rfl, _⟩ := h
      rfl
    obtain ⟨x, y, d, rfl, hx, hy, hp, q⟩ := h
    refine ⟨_, (pss_cons (ps_if (PW.pt (pw_or (pt_val (pe_callB (cIsi (K := K)) (by rfl) T.isinstance (by decide +kernel) (pa_cons (pv 1) (pa_cons (pe_bltn rfl T.tuple (by decide +kernel) (v := .ty "tuple") rfl) pa_nil)))) (pw_or1 (pt_val (pe_callB (cIsi (K := K)) (by rfl) T.isinstance (by decide +kernel) (pa_cons (pv 1) (pa_cons (pe_bltn rfl T.list (by decide +kernel) (v := .ty "list") rfl) pa_nil))))))) (pss_cons (ps_if (PW.pt (pw_or (pt_cmpR op_ne (pe_callB (cIsi (K := K)) (by rfl) T.isinstance (by decide +kernel) (pa_cons (pv 0) (pa_cons (pe_bltn rfl T.tuple (by decide +kernel) (v := .ty "tuple") rfl) pa_nil))) (pe_callB (cIsi (K := K)) (by rfl) T.isinstance (by decide +kernel) (pa_cons (pv 1) (pa_cons (pe_bltn rfl T.tuple (by decide +kernel) (v := .ty "tuple") rfl) pa_nil))) (nomark _)) (pw_or1 (pt_not (pt_val (pe_callB (cIsiT (K := K)) (by rfl) T.isinstance (by decide +kernel) (pa_cons (pv 0) (pa_cons (pe_tup (pa_cons (pe_bltn rfl T.tuple (by decide +kernel) (v := .ty "tuple") rfl) (pa_cons (pe_bltn rfl T.list (by decide +kernel) (v := .ty "list") rfl) pa_nil))) pa_nil)))))))) (pss_one (ps_ret pe_bl)) pss_nil)
  (pss_cons (ps_if (pt_cmpR op_ne (pe_callB (cLen (K := K)) (by rfl) T.len PySem.boot_len (pa_cons (pv 0) pa_nil)) (pe_callB (cLen (K := K)) (by rfl) T.len PySem.boot_len (pa_cons (pv 1) pa_nil)) (nomark _)) (pss_one (ps_ret pe_bl)) pss_nil)
  (pss_one (ps_ret (pe_cmpR (opEqD (K := K) hr.units) (pe_lc (own := [("_law_k", 2)]) (g := gName 2) (by rfl) scL_alike.nd (pi_range1 rfl T.range (pa_cons (pe_callB (cLen (K := K)) (by rfl) T.len PySem.boot_len (pa_cons (pv 1) pa_nil)) pa_nil)) (blkOk_by (own := [("_law_k", 2)]) (N := nL_alike) (sc := defScope sL_alike) (by decide +kernel)) (fun _ _ _ _ _ => (pg_name (i := 2) scL_alike.nd rfl (Or.inl rfl))) (fun _ _ _ _ _ => (pts_one (pt_not (pt_val (pcall C_law_alike (hr.mono (by first | exact Nat.le_of_ble_eq_true rfl | omega)) rfl (pa_cons (pe_ix (ixA (K := K)) (pv 0) (pv 2) (fun _ _ => rfl)) (pa_cons (pe_ix (ixA (K := K)) (pv 1) (pv 2) (fun _ _ => rfl)) pa_nil))))))) (fun _ _ _ _ _ => (pv 2))) (pe_lst pa_nil) (nomark _)))))) pss_nil)
  (pss_cons (ps_if (PW.pt (pw_or (pt_cmpR op_isN1 (pv 1) pe_non (nomark _)) (pw_or1 (pt_cmpR op_isN1 (pv 0) pe_non (nomark _))))) (pss_one (ps_ret (pe_and (pe_cmpR op_isN1 (pv 1) pe_non (nomark _)) (pe_one (pe_cmpR op_isN1 (pv 0) pe_non (nomark _)))))) pss_nil)
  (pss_cons (ps_if (PW.pt (pw_or (pt_val (pe_callB (cIsi (K := K)) (by rfl) T.isinstance (by decide +kernel) (pa_cons (pv 1) (pa_cons (pe_bltn rfl T.bool (by decide +kernel) (v := .ty "bool") rfl) pa_nil)))) (pw_or1 (pt_val (pe_callB (cIsi (K := K)) (by rfl) T.isinstance (by decide +kernel) (pa_cons (pv 0) (pa_cons (pe_bltn rfl T.bool (by decide +kernel) (v := .ty "bool") rfl) pa_nil))))))) (pss_one (ps_ret (pe_and (pe_callB (cIsi (K := K)) (by rfl) T.isinstance (by decide +kernel) (pa_cons (pv 1) (pa_cons (pe_bltn rfl T.bool (by decide +kernel) (v := .ty "bool") rfl) pa_nil))) (pe_and (pe_callB (cIsi (K := K)) (by rfl) T.isinstance (by decide +kernel) (pa_cons (pv 0) (pa_cons (pe_bltn rfl T.bool (by decide +kernel) (v := .ty "bool") rfl) pa_nil))) (pe_one (pe_cmpR op_eq (pv 0) (pv 1) (nomark _))))))) pss_nil)
  (pss_cons (ps_if (pt_val (pe_callB (cIsi (K := K)) (by rfl) T.isinstance (by decide +kernel) (pa_cons (pv 1) (pa_cons (pe_bltn rfl T.str (by decide +kernel) (v := .ty "str") rfl) pa_nil)))) (pss_one (ps_ret (pe_and (pe_callB (cIsi (K := K)) (by rfl) T.isinstance (by decide +kernel) (pa_cons (pv 0) (pa_cons (pe_bltn rfl T.str (by decide +kernel) (v := .ty "str") rfl) pa_nil))) (pe_one (pe_cmpR op_eq (pv 0) (pv 1) (nomark _)))))) pss_nil)
  (pss_one (ps_ret (pe_and (pe_callB (cIsi (K := K)) (by rfl) T.isinstance (by decide +kernel) (pa_cons (pv 0) (pa_cons (pe_bltn rfl T.int (by decide +kernel) (v := .ty "int") rfl) pa_nil))) (pe_one (pe_cmpR op_eq (pv 0) (pv 1) (nomark _)))))))))), ?_⟩
    walk_at "rd"
    -- items one by one
    have items : ∀ (H0 : Hp) (a b : Addr) (xs ys : List V) (ds : List PyData) (Q0 : VK), Keep [] H H0 → (SqL K H0 a xs ∨ SqT K H0 a xs) → (SqL K H0 b ys ∨ SqT K H0 b ys) → DpAll K H0 xs ds → DpAll K H0 ys ds → ds.length ≤ 90000 → (∀ e ∈ ds, plain n e) → (∀ (E : Addr) (H1 : Hp), H1 E = some (.lst []) → Keep [] H0 H1 → Q0 (.ref E) H1) →
        LcIt (Itr 0 ((ys.length : Nat) : Int).toNat) (gName 2) (tNot (tB (tCall (spAlike K n) [] E0 (tCons (tOp (rIxA K) (tVar 0) (tVar 2)) (tCons (tOp (rIxA K) (tVar 1) (tVar 2)) tNil))))) (tVar 2) [2] [some (.ref a), some (.ref b), none] H0 Q0 := by
      intro H0 a b xs ys ds Q0 k0 ha hb hxs hys lds pds fin
      refine lcRi (fun E j H1 => H0 E = none ∧ Keep [] H0 H1 ∧ H1 E = some (.lst [])) (fun E H1 n1 h1 k1 => ⟨n1, k1, h1⟩) (fun E j H1 hj hp => ?_) (fun E H1 hp => fin E H1 hp.2.2 hp.2.1)
      obtain ⟨n1, k1, h1⟩ := hp
      have hj' : j < ds.length := by
        have := DpAll.length hys
        omega
      obtain ⟨u, eu, du⟩ := DpAll.get hxs (List.getElem?_eq_getElem hj')
      obtain ⟨v, ev, dv⟩ := DpAll.get hys (List.getElem?_eq_getElem hj')
      have eu' := atI_nat eu
      have ev' := atI_nat ev
      have ha1 : SqL K H1 a xs ∨ SqT K H1 a xs := ha.imp (k1.sqL (by simp)) ((keep_ts0 k1).sqT)
      have hb1 : SqL K H1 b ys ∨ SqT K H1 b ys := hb.imp (k1.sqL (by simp)) ((keep_ts0 k1).sqT)
      walk_at "rd"
      refine ⟨rfl, ?_⟩
      walk_at "rd"
      refine r_ixA ha1 eu' ?_
      walk_at "rd"
      refine r_ixA hb1 ev' ?_
      walk_at "rd"
      refine ask ⟨u, v, ds[j], rfl, Dp.keep0 k1 du, Dp.keep0 k1 dv, pds _ (List.getElem_mem hj'), fun H2 k2 => ?_⟩
      walk_at "rd"
      exact ⟨n1, k1.trans k2, k2 _ _ h1 (by simp)⟩
    cases d with
    | none =>
      cases hx
      cases hy
      refine r_orP (a := kb "NoneType" "tuple") (b := kb "NoneType" "list") (fun R hr => by walk_at "rd"; exact hr) (fun _ R hr => by walk_at "rd"; exact hr) ?_
      walk_at "rd"
      refine r_orP (a := decide (V.non = V.non)) (b := decide (V.non = V.non)) (fun R hr => by walk_at "rd"; exact hr) (fun _ R hr => by walk_at "rd"; exact hr) ?_
      walk_at "rd"
      exact q _ Keep.refl
    | bool b =>
      cases hx
      cases hy
      refine r_orP (a := kb "bool" "tuple") (b := kb "bool" "list") (fun R hr => by walk_at "rd"; exact hr) (fun _ R hr => by walk_at "rd"; exact hr) ?_
      walk_at "rd"
      refine r_orP (a := decide (V.bl b = V.non)) (b := decide (V.bl b = V.non)) (fun R hr => by walk_at "rd"; exact hr) (fun _ R hr => by walk_at "rd"; exact hr) ?_
      refine ite_f rfl ?_
      walk_at "rd"
      refine r_orP (a := kb "bool" "bool") (b := kb "bool" "bool") (fun R hr => by walk_at "rd"; exact hr) (fun _ R hr => by walk_at "rd"; exact hr) ?_
      walk_at "rd"
      exact (by rw [decide_eq_true (rfl : V.bl b = V.bl b)]; exact q _ Keep.refl : Q (V.bl (decide (V.bl b = V.bl b))) H)
    | int i =>
      cases hx
      cases hy
      refine r_orP (a := kb "int" "tuple") (b := kb "int" "list") (fun R hr => by walk_at "rd"; exact hr) (fun _ R hr => by walk_at "rd"; exact hr) ?_
      walk_at "rd"
      refine r_orP (a := decide (V.int i = V.non)) (b := decide (V.int i = V.non)) (fun R hr => by walk_at "rd"; exact hr) (fun _ R hr => by walk_at "rd"; exact hr) ?_
      refine ite_f rfl ?_
      walk_at "rd"
      refine r_orP (a := kb "int" "bool") (b := kb "int" "bool") (fun R hr => by walk_at "rd"; exact hr) (fun _ R hr => by walk_at "rd"; exact hr) ?_
      walk_at "rd"
      exact (by rw [decide_eq_true (rfl : V.int i = V.int i)]; exact q _ Keep.refl : Q (V.bl (decide (V.int i = V.int i))) H)
    | str z =>
      cases hx
      cases hy
      refine r_orP (a := kb "str" "tuple") (b := kb "str" "list") (fun R hr => by walk_at "rd"; exact hr) (fun _ R hr => by walk_at "rd"; exact hr) ?_
      walk_at "rd"
      refine r_orP (a := decide (V.str z = V.non)) (b := decide (V.str z = V.non)) (fun R hr => by walk_at "rd"; exact hr) (fun _ R hr => by walk_at "rd"; exact hr) ?_
      refine ite_f rfl ?_
      walk_at "rd"
      refine r_orP (a := kb "str" "bool") (b := kb "str" "bool") (fun R hr => by walk_at "rd"; exact hr) (fun _ R hr => by walk_at "rd"; exact hr) ?_
      walk_at "rd"
      exact (by rw [decide_eq_true (rfl : V.str z = V.str z)]; exact q _ Keep.refl : Q (V.bl (decide (V.str z = V.str z))) H)
    | list ds =>
      cases hx with
      | lst ha hxs =>
      cases hy with
      | lst hb hys =>
      rename_i a xs b ys
      have lxy : xs.length = ys.length := by rw [DpAll.length hxs, DpAll.length hys]
      have hp' : ds.length ≤ 90000 ∧ ∀ e ∈ ds, plain n e := hp
      have lys : ys.length ≤ 90000 := by rw [DpAll.length hys]; exact hp'.1
      refine r_orP (a := kb "list" "tuple") (b := kb "list" "list") (fun R hr => by walk_at "rd"; exact hr) (fun _ R hr => by walk_at "rd"; exact hr) ?_
      walk_at "rd"
      refine r_orI (a := !decide (V.bl (kb "list" "tuple") = V.bl (kb "list" "tuple"))) (fun R hr => by walk_at "rd"; exact hr) (fun _ => ?_) (fun h => absurd h (by decide +kernel))
      walk_at "rd"
      intro tp H1 n1 h1 k1
      have ha1 := k1.sqL (by simp) ha
      have hb1 := k1.sqL (by simp) hb
      walk_at "rd"
      refine ite_f (by rw [lxy]; simp) ?_
      walk_at "rd"
      refine items H1 a b xs ys ds _ k1 (.inl ha1) (.inl hb1) (DpAll.keep0 k1 hxs) (DpAll.keep0 k1 hys) hp'.1 hp'.2 fun E H2 h2 k2 => ?_
      walk_at "rd"
      intro e2 H3 n3 h3 k3
      refine ⟨.list [], .list [], .lst (SqL.of (k3 _ _ h2 (by simp))) .nil, .lst (SqL.of h3) .nil, rfl, rfl, ?_⟩
      exact q _ ((k1.trans k2).trans k3)
    | tuple ds =>
      cases hx with
      | tup ha hxs =>
      cases hy with
      | tup hb hys =>
      rename_i a xs b ys
      have lxy : xs.length = ys.length := by rw [DpAll.length hxs, DpAll.length hys]
      have hp' : ds.length ≤ 90000 ∧ ∀ e ∈ ds, plain n e := hp
      have lys : ys.length ≤ 90000 := by rw [DpAll.length hys]; exact hp'.1
      refine r_orP (a := kb "tuple" "tuple") (b := kb "tuple" "list") (fun R hr => by walk_at "rd"; exact hr) (fun _ R hr => by walk_at "rd"; exact hr) ?_
      walk_at "rd"
      refine r_orI (a := !decide (V.bl (kb "tuple" "tuple") = V.bl (kb "tuple" "tuple"))) (fun R hr => by walk_at "rd"; exact hr) (fun _ => ?_) (fun h => absurd h (by decide +kernel))
      walk_at "rd"
      intro tp H1 n1 h1 k1
      have ha1 := (keep_ts0 k1).sqT ha
      have hb1 := (keep_ts0 k1).sqT hb
      walk_at "rd"
      refine ite_f (by rw [lxy]; simp) ?_
      walk_at "rd"
      refine items H1 a b xs ys ds _ k1 (.inr ha1) (.inr hb1) (DpAll.keep0 k1 hxs) (DpAll.keep0 k1 hys) hp'.1 hp'.2 fun E H2 h2 k2 => ?_
      walk_at "rd"
      intro e2 H3 n3 h3 k3
      refine ⟨.list [], .list [], .lst (SqL.of (k3 _ _ h2 (by simp))) .nil, .lst (SqL.of h3) .nil, rfl, rfl, ?_⟩
      exact q _ ((k1.trans k2).trans k3)
    | dict _ => cases hx
end
end
section
section
variable {K : PySem.W.Frag}
theorem free0 {H H1 : Hp} {p : Addr} (k : Keep [] H H1) (h : H1 p = none) : H p = none := k.free (fun _ z => nomatch z) h
theorem at0 {x : V} {r : List V} : atI (x :: r) 0 = some x := atI_nat (xs := x :: r) (j := 0) rfl
theorem at1 {x y : V} {r : List V} : atI (x :: y :: r) 1 = some y := atI_nat (xs := x :: y :: r) (j := 1) rfl
theorem at2 {x y z : V} {r : List V} : atI (x :: y :: z :: r) 2 = some z := atI_nat (xs := x :: y :: z :: r) (j := 2) rfl
theorem at3 {x y z u : V} {r : List V} : atI (x :: y :: z :: u :: r) 3 = some u := atI_nat (xs := x :: y :: z :: u :: r) (j := 3) rfl
end
section
variable {P : Program} {w : World} {K : PySem.W.Frag} {mg : Str → Option Value} {base : Heap}
/-- the program's own numbers -/
structure Nrs (tk : Nat → Tok) (mg : Str → Option Value) : Prop extends Blt mg where
  NUMBERS : mg "NUMBERS" = some (.int 3 (tk 0))
  MOST_WORKS : mg "MOST_WORKS" = some (.int 4 (tk 1))
  MOST_PARAMS : mg "MOST_PARAMS" = some (.int 3 (tk 2))
  MOST_OWNS : mg "MOST_OWNS" = some (.int 99 (tk 3))
  MOST_STEPS : mg "MOST_STEPS" = some (.int 100 (tk 4))
  MOST_OTHERS : mg "MOST_OTHERS" = some (.int 4 (tk 5))
noncomputable def belowD (k : Int) : PyData → Bool
  | .int n => decide (0 ≤ n) && decide (n < k)
  | _ => false
noncomputable def spIsBelow (K : PySem.W.Frag) : Sp := fun vs H Q _ => ∃ (v : V) (d : PyData) (k : Int), vs = [v, .int k] ∧ Dp K H v d ∧ Q (.bl (belowD k d)) H
noncomputable def spIsNumber (K : PySem.W.Frag) : Sp := fun vs H Q _ => ∃ (v : V) (d : PyData), vs = [v] ∧ Dp K H v d ∧ Q (.bl (belowD 3 d)) H
noncomputable abbrev sis_below : Stmt := top 14
noncomputable abbrev nis_below : List Str := ["value", "limit"]
noncomputable abbrev pis_below : List Str := ["value", "limit"]
theorem scis_below : FnScope nis_below pis_below (defScope sis_below) := ⟨rfl, rfl, rfl, by decide +kernel, rfl, by decide +kernel, by decide +kernel⟩
noncomputable abbrev sis_number : Stmt := top 15
noncomputable abbrev nis_number : List Str := ["value"]
noncomputable abbrev pis_number : List Str := ["value"]
theorem scis_number : FnScope nis_number pis_number (defScope sis_number) := ⟨rfl, rfl, rfl, by decide +kernel, rfl, by decide +kernel, by decide +kernel⟩
noncomputable abbrev sis_shaped : Stmt := top 16
noncomputable abbrev nis_shaped : List Str := ["value", "word", "size"]
noncomputable abbrev pis_shaped : List Str := ["value", "word", "size"]
theorem scis_shaped : FnScope nis_shaped pis_shaped (defScope sis_shaped) := ⟨rfl, rfl, rfl, by decide +kernel, rfl, by decide +kernel, by decide +kernel⟩
theorem cases_b {C : Prop} (b : Bool) (h : b = true → C) (h' : b = false → C) : C := by
  cases b with
  | true => exact h rfl
  | false => exact h' rfl
theorem okIsBelow (D : DefAt K mg "is_below" sis_below pis_below) (T : Blt mg) : Callee P w K mg base "is_below" 1 pis_below (spIsBelow K) := by
  refine D.ok scis_below (fun vs H Q E h => ?_) (fun f cdv A outer s H vs Q E hr h => ?_)
  · obtain ⟨v, d, k, rfl, _⟩ := h
    rfl
  obtain ⟨v, d, k, rfl, hd, q⟩ := h
  refine ⟨_, (pss_cons (ps_if (PW.pt (pw_or (pt_val (pe_callB (cIsi (K := K)) (by rfl) T.isinstance (by decide +kernel) (pa_cons (pv 0) (pa_cons (pe_bltn rfl T.bool (by decide +kernel) (v := .ty "bool") rfl) pa_nil)))) (pw_or1 (pt_not (pt_val (pe_callB (cIsi (K := K)) (by rfl) T.isinstance (by decide +kernel) (pa_cons (pv 0) (pa_cons (pe_bltn rfl T.int (by decide +kernel) (v := .ty "int") rfl) pa_nil)))))))) (pss_one (ps_ret pe_bl)) pss_nil)
  (pss_one (ps_ret (pe_chain op_le op_lt pe_int (pv 0) (pv 1))))), ?_⟩
  walk_at "rd"
  cases d with
  | none =>
    cases hd
    refine r_orP (a := kb "NoneType" "bool") (b := !kb "NoneType" "int") (fun R hr => by walk_at "rd"; exact hr) (fun _ R hr => by walk_at "rd"; exact hr) ?_
    rw [if_pos (by decide +kernel)]
    walk_at "rd"
    exact q
  | bool b =>
    cases hd
    refine r_orP (a := kb "bool" "bool") (b := !kb "bool" "int") (fun R hr => by walk_at "rd"; exact hr) (fun _ R hr => by walk_at "rd"; exact hr) ?_
    rw [if_pos (by decide +kernel)]
    walk_at "rd"
    exact q
  | str x =>
    cases hd
    refine r_orP (a := kb "str" "bool") (b := !kb "str" "int") (fun R hr => by walk_at "rd"; exact hr) (fun _ R hr => by walk_at "rd"; exact hr) ?_
    rw [if_pos (by decide +kernel)]
    walk_at "rd"
    exact q
  | int n =>
    cases hd
    refine r_orP (a := kb "int" "bool") (b := !kb "int" "int") (fun R hr => by walk_at "rd"; exact hr) (fun _ R hr => by walk_at "rd"; exact hr) ?_
    rw [if_neg (by decide +kernel)]
    walk_at "rd"
    refine cases_b (decide (0 ≤ n)) (fun c => ?_) (fun c => ?_)
    · rw [if_pos c]
      walk_at "rd"
      have e : belowD k (.int n) = (decide (0 ≤ n) && decide (n < k)) := rfl
      rw [e, c, Bool.true_and] at q
      exact q
    · rw [if_neg (by rw [c]; exact Bool.false_ne_true)]
      have e : belowD k (.int n) = (decide (0 ≤ n) && decide (n < k)) := rfl
      rw [e, c, Bool.false_and] at q
      exact q
  | tuple ds =>
    cases hd with
    | tup hs ha =>
      refine r_orP (a := kb "tuple" "bool") (b := !kb "tuple" "int") (fun R hr => by walk_at "rd"; exact hr) (fun _ R hr => by walk_at "rd"; exact hr) ?_
      rw [if_pos (by decide +kernel)]
      walk_at "rd"
      exact q
  | list ds =>
    cases hd with
    | lst hs ha =>
      refine r_orP (a := kb "list" "bool") (b := !kb "list" "int") (fun R hr => by walk_at "rd"; exact hr) (fun _ R hr => by walk_at "rd"; exact hr) ?_
      rw [if_pos (by decide +kernel)]
      walk_at "rd"
      exact q
  | dict _ => cases hd
theorem okIsNumber {tk : Nat → Tok} (D : DefAt K mg "is_number" sis_number pis_number) (T : Nrs tk mg) (C_is_below : Callee P w K mg base "is_below" 1 pis_below (spIsBelow K)) :
    Callee P w K mg base "is_number" 2 pis_number (spIsNumber K) := by
  refine D.ok scis_number (fun vs H Q E h => ?_) (fun f cdv A outer s H vs Q E hr h => ?_)
  · obtain ⟨v, d, rfl, _⟩ := h
    rfl
  obtain ⟨v, d, rfl, hd, q⟩ := h
  refine ⟨_, (pss_one (ps_ret (pcall C_is_below (hr.mono (by first | exact Nat.le_of_ble_eq_true rfl | omega)) rfl (pa_cons (pv 0) (pa_cons (pe_glob (v := .int 3) rfl T.NUMBERS ⟨_, rfl⟩) pa_nil))))), ?_⟩
  walk_at "rd"
  refine ask ⟨v, d, 3, rfl, hd, ?_⟩
  exact q
noncomputable def shapedD (wd : PyData) (k : Int) : PyData → Bool
  | .tuple ds => decide ((ds.length : Int) = k) && ((ds.head?.map fun d => PyData.eqv d wd).getD false)
  | _ => false
noncomputable def headOk : PyData → Prop
  | .tuple (d :: _) => SeqAt.shaped d = true ∨ ∃ ds, d = .tuple ds
  | _ => True
noncomputable def spIsShaped (K : PySem.W.Frag) : Sp := fun vs H Q _ => ∃ (v : V) (d : PyData) (x : Str) (k : Int), vs = [v, .str x, .int k] ∧ Dp K H v d ∧ headOk d ∧ SeqAt.shaped (.str x) = true ∧ 0 < k ∧ Q (.bl (shapedD (.str x) k d)) H
theorem okIsShaped (D : DefAt K mg "is_shaped" sis_shaped pis_shaped) (T : Blt mg) : Callee P w K mg base "is_shaped" 1 pis_shaped (spIsShaped K) := by
  refine D.ok scis_shaped (fun vs H Q E h => ?_) (fun f cdv A outer s H vs Q E hr h => ?_)
  · obtain ⟨v, d, x, k, rfl, _⟩ := h
    rfl
  obtain ⟨v, d, x, k, rfl, hd, ho, hw, k0, q⟩ := h
  refine ⟨_, (pss_one (ps_ret (pe_and (pe_callB (cIsi (K := K)) (by rfl) T.isinstance (by decide +kernel) (pa_cons (pv 0) (pa_cons (pe_bltn rfl T.tuple (by decide +kernel) (v := .ty "tuple") rfl) pa_nil))) (pe_and (pe_cmpR op_eq (pe_callB (cLen (K := K)) (by rfl) T.len PySem.boot_len (pa_cons (pv 0) pa_nil)) (pv 2) (nomark _)) (pe_one (pe_cmpR (opEqS (K := K) hr.units) (pe_ix (ixT (K := K)) (pv 0) pe_int (fun _ _ => rfl)) (pv 1) (nomark _))))))), ?_⟩
  walk_at "rd"
  cases d with
  | none =>
    cases hd
    walk_at "rd"
    exact q
  | bool b =>
    cases hd
    walk_at "rd"
    exact q
  | int n =>
    cases hd
    walk_at "rd"
    exact q
  | str y =>
    cases hd
    walk_at "rd"
    exact q
  | list ds =>
    cases hd with
    | lst hs ha =>
      walk_at "rd"
      exact q
  | tuple ds =>
    cases hd with
    | @tup p xs _ hs ha =>
      have len := DpAll.length ha
      walk_at "rd"
      by_cases c : (xs.length : Int) = k
      · rw [if_pos (decide_eq_true (congrArg V.int c))]
        cases ds with
        | nil =>
          rw [len] at c
          exact absurd c (by simp; omega)
        | cons d0 ds =>
          cases ha with
          | @cons v0 vs _ _ h0 h1 =>
            have e0 : atI (v0 :: vs) 0 = some v0 := atI_nat (xs := v0 :: vs) (j := 0) rfl
            walk_at "rd"
            have e : shapedD (.str x) k (.tuple (d0 :: ds)) = PyData.eqv d0 (.str x) := by
              rw [len] at c
              show (decide (((d0 :: ds).length : Int) = k) && _) = _
              rw [decide_eq_true c]
              rfl
            rw [e] at q
            rcases ho with ho | ⟨es, rfl⟩
            · exact .inl ⟨d0, .str x, h0, .str x, ho, hw, q⟩
            · cases h0 with
              | tup g0 g1 => exact .inr ⟨_, _, x, rfl, rfl, g0, q⟩
      · rw [if_neg (by
          rw [decide_eq_false (fun z => c (V.int.inj z))]
          exact Bool.false_ne_true)]
        have e : shapedD (.str x) k (.tuple ds) = false := by
          rw [len] at c
          show (decide ((ds.length : Int) = k) && _) = _
          rw [decide_eq_false c]
          rfl
        rw [e] at q
        exact q
  | dict _ => cases hd
end
end
section
section
variable {P : Program} {w : World} {K : PySem.W.Frag} {mg : Str → Option Value} {base : Heap}
noncomputable def item1 : PyData → PyData
  | .tuple (_ :: d :: _) => d
  | _ => .none
theorem shaped2 {H : Hp} {v : V} {d wd : PyData} (hd : Dp K H v d) (e : shapedD wd 2 d = true) : ∃ (p : Addr) (v0 v1 : V), v = .ref p ∧ SqT K H p [v0, v1] ∧ atI [v0, v1] 1 = some v1 ∧ Dp K H v1 (item1 d) := by
  cases d with
  | tuple ds =>
    have e1 : (decide ((ds.length : Int) = 2) && ((ds.head?.map fun d => PyData.eqv d wd).getD false)) = true := e
    have e2 : (ds.length : Int) = 2 := of_decide_eq_true (Bool.and_eq_true_iff.mp e1).1
    cases hd with
    | @tup p xs _ hs ha =>
      cases ha with
      | nil => cases e2
      | @cons v0 vs _ _ h0 h1 =>
        cases h1 with
        | nil => cases e2
        | @cons v1 vs1 _ _ h1 h2 =>
          cases h2 with
          | nil => exact ⟨p, v0, v1, rfl, hs, atI_nat (xs := [v0, v1]) (j := 1) rfl, h1⟩
          | cons h2 h3 =>
            simp at e2
            omega
  | _ => cases e
noncomputable def plainD (ps os : Int) (d : PyData) : Bool :=
  if shapedD (.str "num") 2 d then belowD 3 (item1 d) else if shapedD (.str "own") 2 d then belowD os (item1 d) else shapedD (.str "par") 2 d && belowD ps (item1 d)
noncomputable def spIsPlain (K : PySem.W.Frag) : Sp := fun vs H Q _ => ∃ (wp : Addr) (v b : V) (d : PyData) (ps os : Int), vs = [.ref wp, v] ∧ SqT K H wp [.int ps, .int os, b] ∧ Dp K H v d ∧ headOk d ∧ Q (.bl (plainD ps os d)) H
noncomputable abbrev sis_plain : Stmt := top 24
noncomputable abbrev nis_plain : List Str := ["work", "thing"]
noncomputable abbrev pis_plain : List Str := ["work", "thing"]
theorem scis_plain : FnScope nis_plain pis_plain (defScope sis_plain) := ⟨rfl, rfl, rfl, by decide +kernel, rfl, by decide +kernel, by decide +kernel⟩
theorem okIsPlain (D : DefAt K mg "is_plain" sis_plain pis_plain) (T : Blt mg) (C_is_below : Callee P w K mg base "is_below" 1 pis_below (spIsBelow K))
    (C_is_number : Callee P w K mg base "is_number" 2 pis_number (spIsNumber K)) (C_is_shaped : Callee P w K mg base "is_shaped" 1 pis_shaped (spIsShaped K)) :
    Callee P w K mg base "is_plain" 3 pis_plain (spIsPlain K) := by
  refine D.ok scis_plain (fun vs H Q E h => ?_) (fun f cdv A outer s H vs Q E hr h => ?_)
  · obtain ⟨wp, v, b, d, ps, os, rfl, _⟩ := h
    rfl
  obtain ⟨wp, v, b, d, ps, os, rfl, hW, hd, ho, q⟩ := h
  have a0 : atI [.int ps, .int os, b] 0 = some (.int ps) := atI_nat (xs := [.int ps, .int os, b]) (j := 0) rfl
  have a1 : atI [.int ps, .int os, b] 1 = some (.int os) := atI_nat (xs := [.int ps, .int os, b]) (j := 1) rfl
  refine ⟨_, (pss_cons (ps_if (pt_val (pcall C_is_shaped (hr.mono (by first | exact Nat.le_of_ble_eq_true rfl | omega)) rfl (pa_cons (pv 1) (pa_cons pe_str (pa_cons pe_int pa_nil))))) (pss_one (ps_ret (pcall C_is_number (hr.mono (by first | exact Nat.le_of_ble_eq_true rfl | omega)) rfl (pa_cons (pe_ix (ixT (K := K)) (pv 1) pe_int (fun _ _ => rfl)) pa_nil)))) pss_nil)
  (pss_cons (ps_if (pt_val (pcall C_is_shaped (hr.mono (by first | exact Nat.le_of_ble_eq_true rfl | omega)) rfl (pa_cons (pv 1) (pa_cons pe_str (pa_cons pe_int pa_nil))))) (pss_one (ps_ret (pcall C_is_below (hr.mono (by first | exact Nat.le_of_ble_eq_true rfl | omega)) rfl (pa_cons (pe_ix (ixT (K := K)) (pv 1) pe_int (fun _ _ => rfl)) (pa_cons (pe_ix (ixT (K := K)) (pv 0) pe_int (fun _ _ => rfl)) pa_nil))))) pss_nil)
  (pss_one (ps_ret (pe_and (pcall C_is_shaped (hr.mono (by first | exact Nat.le_of_ble_eq_true rfl | omega)) rfl (pa_cons (pv 1) (pa_cons pe_str (pa_cons pe_int pa_nil)))) (pe_one (pcall C_is_below (hr.mono (by first | exact Nat.le_of_ble_eq_true rfl | omega)) rfl (pa_cons (pe_ix (ixT (K := K)) (pv 1) pe_int (fun _ _ => rfl)) (pa_cons (pe_ix (ixT (K := K)) (pv 0) pe_int (fun _ _ => rfl)) pa_nil))))))))), ?_⟩
  walk_at "rd"
  refine ask ⟨v, d, "num", 2, rfl, hd, ho, by decide +kernel, by decide, ?_⟩
  walk_at "rd"
  refine ite2 (fun c => ?_) (fun c => ?_)
  · obtain ⟨p, v0, v1, rfl, hT, at1, h1⟩ := shaped2 hd c
    walk_at "rd"
    refine ask ⟨v1, item1 d, rfl, h1, ?_⟩
    have e : plainD ps os d = belowD 3 (item1 d) := if_pos c
    rw [e] at q
    walk_at "rd"
    exact q
  have e : plainD ps os d = if shapedD (.str "own") 2 d then belowD os (item1 d) else shapedD (.str "par") 2 d && belowD ps (item1 d) := if_neg c
  rw [e] at q
  walk_at "rd"
  refine ask ⟨v, d, "own", 2, rfl, hd, ho, by decide +kernel, by decide, ?_⟩
  walk_at "rd"
  refine ite2 (fun c => ?_) (fun c => ?_)
  · obtain ⟨p, v0, v1, rfl, hT, at1, h1⟩ := shaped2 hd c
    walk_at "rd"
    refine ask ⟨v1, item1 d, os, rfl, h1, ?_⟩
    rw [if_pos c] at q
    walk_at "rd"
    exact q
  rw [if_neg c] at q
  walk_at "rd"
  refine ask ⟨v, d, "par", 2, rfl, hd, ho, by decide +kernel, by decide, ?_⟩
  walk_at "rd"
  refine ite2 (fun c => ?_) (fun c => ?_)
  · obtain ⟨p, v0, v1, rfl, hT, at1, h1⟩ := shaped2 hd c
    rw [c, Bool.true_and] at q
    walk_at "rd"
    refine ask ⟨v1, item1 d, ps, rfl, h1, ?_⟩
    walk_at "rd"
    exact q
  · rw [Bool.eq_false_iff.mpr c, Bool.false_and] at q
    walk_at "rd"
    exact q
end
end
section
section
variable {P : Program} {w : World} {K : PySem.W.Frag} {mg : Str → Option Value} {base : Heap}
section
variable {H : Hp}
mutual
theorem Rp.dp : ∀ {d : PyData} {v : V}, Rp K H v d → Dp K H v d
  | .none, _, h => by cases h; exact .non
  | .bool b, _, h => by cases h; exact .bl b
  | .int i, _, h => by cases h; exact .int i
  | .str x, _, h => by cases h; exact .str x
  | .tuple ds, _, h => by
    cases h with
    | tup hs ha => exact .tup hs (Rps.dp ha)
  | .list _, _, h => by cases h
  | .dict _, _, h => by cases h
theorem Rps.dp : ∀ {ds : List PyData} {vs : List V}, Rps K H vs ds → DpAll K H vs ds
  | [], _, h => by cases h; exact .nil
  | d :: ds, _, h => by
    cases h with
    | cons h1 h2 => exact .cons (Rp.dp h1) (Rps.dp h2)
end
end
noncomputable def Th.size : Th → Int
  | .sum _ _ => 3
  | _ => 2
theorem shapedD_str {y x : Str} {ds : List PyData} {k : Int} : shapedD (.str x) k (.tuple (.str y :: ds)) = (decide (((PyData.str y :: ds).length : Int) = k) && (y == x)) := rfl
theorem Th.shaped {x : Str} {k : Int} : ∀ t : Th, shapedD (.str x) k t.enc = (decide (t.size = k) && (t.word == x))
  | .num _ => shapedD_str
  | .sum _ _ => shapedD_str
  | .cell _ => shapedD_str
  | .own _ => shapedD_str
  | .par _ => shapedD_str
theorem Th.headOk : ∀ t : Th, headOk t.enc
  | .num _ => .inl (by decide +kernel : SeqAt.shaped (.str "num") = true)
  | .sum _ _ => .inl (by decide +kernel : SeqAt.shaped (.str "sum") = true)
  | .cell _ => .inl (by decide +kernel : SeqAt.shaped (.str "cell") = true)
  | .own _ => .inl (by decide +kernel : SeqAt.shaped (.str "own") = true)
  | .par _ => .inl (by decide +kernel : SeqAt.shaped (.str "par") = true)
theorem sd_sum_sum (a b : Th) : shapedD (.str "sum") 3 (Th.sum a b).enc = true :=
  (Th.shaped _).trans (show (decide ((3 : Int) = 3) && (("sum" : Str) == "sum")) = true by decide +kernel)
theorem sd_cell_sum (a : Th) : shapedD (.str "sum") 3 (Th.cell a).enc = false :=
  (Th.shaped _).trans (show (decide ((2 : Int) = 3) && (("cell" : Str) == "sum")) = false by decide +kernel)
theorem sd_cell_cell (a : Th) : shapedD (.str "cell") 2 (Th.cell a).enc = true :=
  (Th.shaped _).trans (show (decide ((2 : Int) = 2) && (("cell" : Str) == "cell")) = true by decide +kernel)
noncomputable abbrev sneed_thing : Stmt := top 23
noncomputable abbrev nneed_thing : List Str := ["work", "thing", "others"]
noncomputable abbrev pneed_thing : List Str := ["work", "thing", "others"]
theorem scneed_thing : FnScope nneed_thing pneed_thing (defScope sneed_thing) := ⟨rfl, rfl, rfl, by decide +kernel, rfl, by decide +kernel, by decide +kernel⟩
end
end
section
section
variable {P : Program} {w : World} {K : PySem.W.Frag} {mg : Str → Option Value} {base : Heap}
/-- the program's own numbers and tuples -/
structure Cst (K : PySem.W.Frag) (tk : Nat → Tok) (aP aW : Addr) (mg : Str → Option Value) : Prop extends Nrs tk mg where
  PLACES : mg "PLACES" = some (.ref aP)
  sqP : SqT K (fun _ => none) aP [.str "cell", .str "own", .str "par"]
theorem sqT_of_none {a : Addr} {xs : List V} {H : Hp} (h : SqT K (fun _ => none) a xs) : SqT K H a xs := by
  rcases h with (h | ⟨o, h⟩) | h
  · cases h
  · cases h
  · exact .inr h
noncomputable abbrev sneed_place : Stmt := top 22
noncomputable abbrev nneed_place : List Str := ["work", "place"]
noncomputable abbrev pneed_place : List Str := ["work", "place"]
theorem scneed_place : FnScope nneed_place pneed_place (defScope sneed_place) := ⟨rfl, rfl, rfl, by decide +kernel, rfl, by decide +kernel, by decide +kernel⟩
noncomputable abbrev sneed_call : Stmt := top 21
noncomputable abbrev nneed_call : List Str := ["program", "at", "called", "things", "thing"]
noncomputable abbrev pneed_call : List Str := ["program", "at", "called", "things"]
theorem scneed_call : FnScope nneed_call pneed_call (defScope sneed_call) := ⟨rfl, rfl, rfl, by decide +kernel, rfl, by decide +kernel, by decide +kernel⟩
theorem encP_at {H : Hp} {v : V} {P : List Wk} (h : Rp K H v (encP P)) : ∃ a xs, v = .ref a ∧ SqT K H a xs ∧ xs.length = P.length ∧ ∀ (i : Nat) (wk : Wk), P[i]? = some wk → ∃ wp b, atI xs (i : Int) = some (.ref wp) ∧ SqT K H wp [.int (wk.params : Int), .int (wk.owns : Int), b] ∧ Rp K H b (.tuple wk.body.encs) := by
  obtain ⟨a, xs, rfl, hT, hx⟩ := h.tup_inv
  refine ⟨a, xs, rfl, hT, hx.length.trans (List.length_map _), fun i wk e => ?_⟩
  obtain ⟨u, eu, hu⟩ := hx.get (i := i) (d := wk.enc) (by rw [List.getElem?_map, e]; rfl)
  obtain ⟨wp, ys, rfl, hW, hy⟩ := Rp.tup_inv hu
  obtain ⟨v0, r0, rfl, g0, gr⟩ := hy.inv
  obtain ⟨v1, r1, rfl, g1, gr1⟩ := gr.inv
  obtain ⟨v2, r2, rfl, g2, gr2⟩ := gr1.inv
  cases gr2.inv0
  cases g0.int_inv
  cases g1.int_inv
  exact ⟨wp, v2, atI_nat eu, hW, g2⟩
end
end
section
section
variable {P : Program} {w : World} {K : PySem.W.Frag} {mg : Str → Option Value} {base : Heap}
theorem St.headOk : ∀ s : St, headOk s.enc
  | .set _ _ => .inl (by decide +kernel : SeqAt.shaped (.str "set") = true)
  | .say _ => .inl (by decide +kernel : SeqAt.shaped (.str "say") = true)
  | .ite _ _ _ => .inl (by decide +kernel : SeqAt.shaped (.str "if") = true)
  | .call _ _ => .inl (by decide +kernel : SeqAt.shaped (.str "call") = true)
theorem ss_set_set (p t : Th) : shapedD (.str "set") 3 (St.set p t).enc = true :=
  shapedD_str.trans (show (decide ((3 : Int) = 3) && (("set" : Str) == "set")) = true by decide +kernel)
theorem ss_say_set (t : Th) : shapedD (.str "set") 3 (St.say t).enc = false :=
  shapedD_str.trans (show (decide ((2 : Int) = 3) && (("say" : Str) == "set")) = false by decide +kernel)
theorem ss_say_say (t : Th) : shapedD (.str "say") 2 (St.say t).enc = true :=
  shapedD_str.trans (show (decide ((2 : Int) = 2) && (("say" : Str) == "say")) = true by decide +kernel)
theorem ss_ite_set (t : Th) (a b : Sts) : shapedD (.str "set") 3 (St.ite t a b).enc = false :=
  shapedD_str.trans (show (decide ((4 : Int) = 3) && (("if" : Str) == "set")) = false by decide +kernel)
theorem ss_ite_say (t : Th) (a b : Sts) : shapedD (.str "say") 2 (St.ite t a b).enc = false :=
  shapedD_str.trans (show (decide ((4 : Int) = 2) && (("if" : Str) == "say")) = false by decide +kernel)
theorem ss_ite_ite (t : Th) (a b : Sts) : shapedD (.str "if") 4 (St.ite t a b).enc = true :=
  shapedD_str.trans (show (decide ((4 : Int) = 4) && (("if" : Str) == "if")) = true by decide +kernel)
theorem ss_call_set (k : Nat) (ts : List Th) : shapedD (.str "set") 3 (St.call k ts).enc = false :=
  shapedD_str.trans (show (decide ((3 : Int) = 3) && (("call" : Str) == "set")) = false by decide +kernel)
theorem ss_call_say (k : Nat) (ts : List Th) : shapedD (.str "say") 2 (St.call k ts).enc = false :=
  shapedD_str.trans (show (decide ((3 : Int) = 2) && (("call" : Str) == "say")) = false by decide +kernel)
theorem ss_call_ite (k : Nat) (ts : List Th) : shapedD (.str "if") 4 (St.call k ts).enc = false :=
  shapedD_str.trans (show (decide ((3 : Int) = 4) && (("call" : Str) == "if")) = false by decide +kernel)
noncomputable abbrev sneed_step : Stmt := top 20
noncomputable abbrev nneed_step : List Str := ["program", "at", "step", "others", "count", "work"]
noncomputable abbrev pneed_step : List Str := ["program", "at", "step", "others", "count"]
theorem scneed_step : FnScope nneed_step pneed_step (defScope sneed_step) := ⟨rfl, rfl, rfl, by decide +kernel, rfl, by decide +kernel, by decide +kernel⟩
noncomputable abbrev sneed_body : Stmt := top 19
noncomputable abbrev nneed_body : List Str := ["program", "at", "body", "others", "count", "step"]
noncomputable abbrev pneed_body : List Str := ["program", "at", "body", "others", "count"]
theorem scneed_body : FnScope nneed_body pneed_body (defScope sneed_body) := ⟨rfl, rfl, rfl, by decide +kernel, rfl, by decide +kernel, by decide +kernel⟩
end
end
section
section
variable {P : Program} {w : World} {K : PySem.W.Frag} {mg : Str → Option Value} {base : Heap}
noncomputable abbrev sneed_head : Stmt := top 18
noncomputable abbrev nneed_head : List Str := ["at", "work", "most"]
noncomputable abbrev pneed_head : List Str := ["at", "work"]
theorem scneed_head : FnScope nneed_head pneed_head (defScope sneed_head) := ⟨rfl, rfl, rfl, by decide +kernel, rfl, by decide +kernel, by decide +kernel⟩
end
end
local macro_rules | `(tactic| walk_at "lk") => `(tactic| first | (with_reducible exact cell_number) | (with_reducible exact cell_loans) | (with_reducible exact frame_owns) | (with_reducible exact frame_handed) | (with_reducible exact frame_roads) | (with_reducible exact want_thing) | (with_reducible exact want_frame) | (with_reducible exact run_program) | (with_reducible exact run_ways) | (with_reducible exact run_commons) | (with_reducible exact run_said) | (with_reducible exact run_lent) | (with_reducible exact run_mixed))
section
section
variable {P : Program} {w : World} {K : PySem.W.Frag} {mg : Str → Option Value} {base : Heap}
noncomputable abbrev sneed_program : Stmt := top 17
noncomputable abbrev nneed_program : List Str := ["program", "at", "work"]
noncomputable abbrev pneed_program : List Str := ["program"]
theorem scneed_program : FnScope nneed_program pneed_program (defScope sneed_program) := ⟨rfl, rfl, rfl, by decide +kernel, rfl, by decide +kernel, by decide +kernel⟩
end
end
section
section
variable {P : Program} {w : World} {K : PySem.W.Frag} {mg : Str → Option Value} {base : Heap}
theorem ItAt.ts {H H1 : Hp} {cI l : Addr} {xs : List V} {x : Itm} {v : V} (h : ItAt K H cI x v) (hl : H l = some (.lst xs)) (k : Keep [l] H H1) : ItAt K H1 cI x v := by
  obtain ⟨a, dx, tv, rfl, h1, h2⟩ := h
  refine ⟨a, dx, tv, rfl, k _ _ h1 ?_, h2.ts (k.ts fun x hx => by cases List.mem_singleton.mp hx; exact .inl ⟨_, hl⟩)⟩
  rw [List.mem_singleton]
  exact ne_of h1 hl (fun z => by cases z)
theorem ItAt.keep0 {H H1 : Hp} {cI : Addr} {x : Itm} {v : V} (h : ItAt K H cI x v) (k : Keep [] H H1) : ItAt K H1 cI x v := by
  obtain ⟨a, dx, tv, rfl, h1, h2⟩ := h
  exact ⟨a, dx, tv, rfl, k _ _ h1 (by simp), h2.ts (keep_ts0 k)⟩
theorem ItAts.ts {H H1 : Hp} {cI l : Addr} {ys : List V} (hl : H l = some (.lst ys)) (k : Keep [l] H H1) : ∀ {L : List Itm} {xs : List V}, ItAts K H cI L xs → ItAts K H1 cI L xs
  | _, _, .nil => .nil
  | _, _, .cons a r => .cons (a.ts hl k) (r.ts hl k)
theorem ItAts.keep0 {H H1 : Hp} {cI : Addr} (k : Keep [] H H1) : ∀ {L : List Itm} {xs : List V}, ItAts K H cI L xs → ItAts K H1 cI L xs
  | _, _, .nil => .nil
  | _, _, .cons a r => .cons (a.keep0 k) (r.keep0 k)
noncomputable abbrev vws' (ws : List Str) : List V := ws.map V.str
noncomputable def spItem (K : PySem.W.Frag) (cI : Addr) : Sp := fun vs H Q _ => ∃ (p dx : Addr) (k : Str) (tv : V) (d : PyData), vs = [.ref p, .str k, tv] ∧ H p = some (.ins cI dx []) ∧ Rp K H tv d ∧ ∀ H', Keep [p] H H' → ItAt K H' cI (k, d) (.ref p) → Q .non H'
noncomputable def spIsKind (K : PySem.W.Frag) (cI : Addr) : Sp := fun vs H Q _ => ∃ (v : V) (x : Itm) (k : Str), vs = [v, .str k] ∧ ItAt K H cI x v ∧ Q (.bl (isKind x k)) H
noncomputable def spToldAs (K : PySem.W.Frag) (cI : Addr) : Sp := fun vs H Q _ => ∃ (v : V) (x : Itm) (k : Str), vs = [v, .str k] ∧ ItAt K H cI x v ∧ ∀ (tv : V) (H' : Hp), Keep [] H H' → Rp K H' tv (toldAs x k) → Q tv H'
noncomputable abbrev sItem_init : Stmt := inClass (top 31) 0
noncomputable abbrev nItem_init : List Str := ["self", "kind", "told"]
noncomputable abbrev pItem_init : List Str := ["self", "kind", "told"]
theorem scItem_init : FnScope nItem_init pItem_init (defScope sItem_init) := ⟨rfl, rfl, rfl, by decide +kernel, rfl, by decide +kernel, by decide +kernel⟩
noncomputable abbrev sis_kind : Stmt := top 40
noncomputable abbrev nis_kind : List Str := ["item", "kind"]
noncomputable abbrev pis_kind : List Str := ["item", "kind"]
theorem scis_kind : FnScope nis_kind pis_kind (defScope sis_kind) := ⟨rfl, rfl, rfl, by decide +kernel, rfl, by decide +kernel, by decide +kernel⟩
noncomputable abbrev stold_as : Stmt := top 41
noncomputable abbrev ntold_as : List Str := ["item", "kind"]
noncomputable abbrev ptold_as : List Str := ["item", "kind"]
theorem sctold_as : FnScope ntold_as ptold_as (defScope stold_as) := ⟨rfl, rfl, rfl, by decide +kernel, rfl, by decide +kernel, by decide +kernel⟩
noncomputable abbrev staken : Stmt := top 38
noncomputable abbrev ntaken : List Str := ["items", "kinds", "told", "kind"]
noncomputable abbrev ptaken : List Str := ["items", "kinds"]
theorem sctaken : FnScope ntaken ptaken (defScope staken) := ⟨rfl, rfl, rfl, by decide +kernel, rfl, by decide +kernel, by decide +kernel⟩
noncomputable abbrev staken_all : Stmt := top 39
noncomputable abbrev ntaken_all : List Str := ["items", "kind", "told"]
noncomputable abbrev ptaken_all : List Str := ["items", "kind"]
theorem sctaken_all : FnScope ntaken_all ptaken_all (defScope staken_all) := ⟨rfl, rfl, rfl, by decide +kernel, rfl, by decide +kernel, by decide +kernel⟩
theorem okItem {cI : Addr} (D : ClassAt K mg "Item" "Item.__init__" cI sItem_init pItem_init) (O : ItC K cI) : Maker P w K mg base "Item" cI 1 pItem_init (spItem K cI) := by
  refine D.ok scItem_init (fun vs H Q E h => ?_) (fun f cdv A outer s H vs Q E hr h => ?_)
  · obtain ⟨p, dx, k, tv, d, rfl, _⟩ := h
    rfl
  obtain ⟨p, dx, k, tv, d, rfl, hp, ht, q⟩ := h
  refine ⟨_, (pss_cons (psFld (K := K) (pv 0) (pv 1) rfl)
  (pss_one (psFld (K := K) (pv 0) (pv 2) rfl))), ?_⟩
  have cl := O.cl
  have a1 := O.kind
  have a2 := O.told
  walk_at "rd"
  intro H1 e1 k1
  rw [putF_nil] at e1
  walk_at "rd"
  intro H2 e2 k2
  rw [putF_skip (by decide +kernel), putF_nil] at e2
  walk_at "rd"
  have t1 : Tst H H1 := k1.ts fun x hx => by cases List.mem_singleton.mp hx; exact .inr (.inr ⟨_, _, _, hp⟩)
  have t2 : Tst H1 H2 := k2.ts fun x hx => by cases List.mem_singleton.mp hx; exact .inr (.inr ⟨_, _, _, e1⟩)
  exact q H2 (k1.trans k2) ⟨p, dx, tv, rfl, e2, (ht.ts t1).ts t2⟩
theorem okIsKind {cI : Addr} (D : DefAt K mg "is_kind" sis_kind pis_kind) (O : ItC K cI) : Callee P w K mg base "is_kind" 1 pis_kind (spIsKind K cI) := by
  refine D.ok scis_kind (fun vs H Q E h => ?_) (fun f cdv A outer s H vs Q E hr h => ?_)
  · obtain ⟨v, x, k, rfl, _⟩ := h
    rfl
  obtain ⟨v, x, k, rfl, ⟨a, dx, tv, rfl, h1, h2⟩, q⟩ := h
  have cl := O.cl
  have a1 := O.kind
  have l1 := it_kind (k := x.1) (tv := tv)
  refine ⟨_, (pss_one (ps_ret (pe_or (pe_cmpR op_eq (peFld (K := K) (pv 0) rfl) (pv 1) (nomark _)) (pe_one (pe_and (pe_cmpR op_eq (peFld (K := K) (pv 0) rfl) pe_str (nomark _)) (pe_one (pe_cmpR op_eq (pv 1) pe_str (nomark _)))))))), ?_⟩
  have e : isKind x k = (decide (V.str x.1 = V.str k) || (decide (V.str x.1 = V.str "number") && decide (V.str k = V.str "thing"))) := by
    unfold isKind
    have z : ∀ p q : Str, decide (V.str p = V.str q) = decide (p = q) := fun p q => by
      rw [Bool.eq_iff_iff, decide_eq_true_eq, decide_eq_true_eq]
      exact ⟨V.str.inj, congrArg V.str⟩
    rw [z, z, z]
  rw [e] at q
  walk_at "rd"
  refine ite2 (fun c => ?_) (fun c => ?_)
  · rw [c, Bool.true_or] at q
    exact q
  rw [Bool.eq_false_iff.mpr c, Bool.false_or] at q
  walk_at "rd"
  refine ite2 (fun c2 => ?_) (fun c2 => ?_)
  · rw [c2, Bool.true_and] at q
    walk_at "rd"
    exact q
  · rw [Bool.eq_false_iff.mpr c2, Bool.false_and] at q
    exact q
theorem okToldAs {cI : Addr} (D : DefAt K mg "told_as" stold_as ptold_as) (O : ItC K cI) : Callee P w K mg base "told_as" 1 ptold_as (spToldAs K cI) := by
  refine D.ok sctold_as (fun vs H Q E h => ?_) (fun f cdv A outer s H vs Q E hr h => ?_)
  · obtain ⟨v, x, k, rfl, _⟩ := h
    rfl
  obtain ⟨v, x, k, rfl, ⟨a, dx, tv, rfl, h1, h2⟩, q⟩ := h
  have cl := O.cl
  have a1 := O.kind
  have a2 := O.told
  have l1 := it_kind (k := x.1) (tv := tv)
  have l2 := it_told (k := x.1) (tv := tv)
  refine ⟨_, (pss_cons (ps_if (PW.pt (pw_and (pt_cmpR op_eq (peFld (K := K) (pv 0) rfl) pe_str (nomark _)) (pw_and1 (pt_cmpR op_eq (pv 1) pe_str (nomark _))))) (pss_one (ps_ret (pe_tup (pa_cons pe_str (pa_cons (peFld (K := K) (pv 0) rfl) pa_nil))))) pss_nil)
  (pss_one (ps_ret (peFld (K := K) (pv 0) rfl)))), ?_⟩
  walk_at "rd"
  refine r_andP (a := decide (V.str x.1 = V.str "number")) (b := decide (V.str k = V.str "thing")) (fun R0 hR => by walk_at "rd"; exact hR) (fun _ R0 hR => by walk_at "rd"; exact hR) ?_
  refine ite2 (fun c => ?_) (fun c => ?_)
  · rw [Bool.and_eq_true, decide_eq_true_eq, decide_eq_true_eq] at c
    walk_at "rd"
    intro b H1 nb hb k1
    have e : toldAs x k = .tuple [.str "num", x.2] := if_pos ⟨V.str.inj c.1, V.str.inj c.2⟩
    exact q _ H1 k1 (by rw [e]; exact .tup (SqT.of hb) (.cons (.str _) (.cons (h2.ts (keep_ts0 k1)) .nil)))
  · rw [Bool.and_eq_true, decide_eq_true_eq, decide_eq_true_eq] at c
    walk_at "rd"
    have e : toldAs x k = x.2 := if_neg fun z => c ⟨congrArg V.str z.1, congrArg V.str z.2⟩
    exact q _ H Keep.refl (by rw [e]; exact h2)
noncomputable def spTakenK (K : PySem.W.Frag) (cI : Addr) : Sp := fun vs H Q _ => ∃ (l c : Addr) (ks : List Str) (L : List Itm) (xs : List V), vs = [.ref l, .ref c] ∧ H l = some (.lst xs) ∧ ItAts K H cI L xs ∧ SqT K H c (vws' ks) ∧ ks.length ≤ 3 ∧ L.length ≤ 100000 ∧
  match takeK ks L with
  | some r => ∀ (a : Addr) (ys : List V) (H' : Hp) (xs' : List V), Keep [l] H H' → H a = none → H' a = some (.lst ys) → Rps K H' ys r.1 → H' l = some (.lst xs') → ItAts K H' cI r.2 xs' → Q (.ref a) H'
  | none => ∀ (H' : Hp) (xs' : List V) (L' : List Itm), Keep [l] H H' → H' l = some (.lst xs') → ItAts K H' cI L' xs' → L'.length ≤ L.length → Q .non H'
noncomputable def spTakenAll (K : PySem.W.Frag) (cI : Addr) : Sp := fun vs H Q _ => ∃ (l : Addr) (k : Str) (L : List Itm) (xs : List V), vs = [.ref l, .str k] ∧ H l = some (.lst xs) ∧ ItAts K H cI L xs ∧ L.length ≤ 100000 ∧
  ∀ (a : Addr) (ys : List V) (H' : Hp) (xs' : List V), Keep [l] H H' → H a = none → SqT K H' a ys → Rps K H' ys (takeAll k L).1 → H' l = some (.lst xs') → ItAts K H' cI (takeAll k L).2 xs' → Q (.ref a) H'
/-- what is taken so far, what is left to be taken -/
theorem takeK_step {ks : List Str} {L : List Itm} {j : Nat} {k : Str} (hk : ks[j]? = some k) : ∀ {x : Itm} {L' : List Itm}, L = x :: L' → takeK (ks.drop j) L = if isKind x k = true then (takeK (ks.drop (j + 1)) L').map fun r => (toldAs x k :: r.1, r.2) else none := fun {x L'} e => by
  have d : ks.drop j = k :: ks.drop (j + 1) := by
    have hj := (List.getElem?_eq_some_iff.mp hk).1
    rw [List.drop_eq_getElem_cons hj]
    rw [(List.getElem?_eq_some_iff.mp hk).2]
  rw [d, e]
  rfl
theorem takeK_none {ks : List Str} {j : Nat} {k : Str} (hk : ks[j]? = some k) : takeK (ks.drop j) [] = none := by
  have hj := (List.getElem?_eq_some_iff.mp hk).1
  rw [List.drop_eq_getElem_cons hj]
  rfl
theorem okTakenK {cI : Addr} (D : DefAt K mg "taken" staken ptaken) (C_is_kind : Callee P w K mg base "is_kind" 1 pis_kind (spIsKind K cI)) (C_told_as : Callee P w K mg base "told_as" 1 ptold_as (spToldAs K cI)) : Callee P w K mg base "taken" 2 ptaken (spTakenK K cI) := by
  refine D.ok sctaken (fun vs H Q E h => ?_) (fun f cdv A outer s H vs Q E hr h => ?_)
  · obtain ⟨l, c, ks, L, xs, rfl, _⟩ := h
    rfl
  obtain ⟨l, c, ks, L, xs, rfl, hl, it, hc, k3, L1, q⟩ := h
  refine ⟨_, (pss_cons (ps_set (i := 2) sctaken.nd rfl (Or.inl rfl) (pe_lst pa_nil))
  (pss_cons (ps_for PassesOwn.never rfl (piTup (K := K) (pv 1)) (pg_name (i := 3) sctaken.nd rfl (Or.inl rfl))
   (pss_cons (ps_if (PW.pt (pw_or (pt_not (ptTruL (K := K) (pv 0))) (pw_or1 (pt_not (pt_val (pcall C_is_kind (hr.mono (by first | exact Nat.le_of_ble_eq_true rfl | omega)) rfl (pa_cons (pe_ix (ixL (K := K)) (pv 0) (pe_un un_minus pe_int) (fun _ _ => rfl)) (pa_cons (pv 3) pa_nil)))))))) (pss_one (ps_ret pe_non)) pss_nil)
  (pss_one (ps_expr (peApp (K := K) (pv 2) (pcall C_told_as (hr.mono (by first | exact Nat.le_of_ble_eq_true rfl | omega)) rfl (pa_cons (pePop (K := K) (pv 0)) (pa_cons (pv 3) pa_nil))))))))
  (pss_one (ps_ret (pv 2))))), ?_⟩
  walk_at "rd"
  intro b H1 nb hb k1
  have bl : b ≠ l := fun z => by rw [z, hl] at nb; cases nb
  have hl1 := k1 _ _ hl (by simp)
  have it1 := it.keep0 k1
  have hc1 := (keep_ts0 k1).sqT hc
  walk_at "rd"
  have tsk : ∀ {H2 : Hp}, Keep [l, b] H1 H2 → Tst H1 H2 := fun k => k.ts fun x hx => by
    rcases List.mem_cons.mp hx with rfl | hx
    · exact .inl ⟨_, hl1⟩
    · cases List.mem_singleton.mp hx; exact .inl ⟨_, hb⟩
  refine forT (xs := vws' ks) (fun j σ H' => ∃ (x3 : Option V) (ys : List V) (ds : List PyData) (L' : List Itm) (xs' : List V), σ = [some (.ref l), some (.ref c), some (.ref b), x3] ∧ Keep [l, b] H1 H' ∧ H' b = some (.lst ys) ∧ Rps K H' ys ds ∧ ys.length = j ∧ H' l = some (.lst xs') ∧ ItAts K H' cI L' xs' ∧ L'.length ≤ L.length ∧ takeK ks L = (takeK (ks.drop j) L').map fun r => (ds ++ r.1, r.2)) ⟨_, [], [], L, xs, rfl, Keep.refl, hb, .nil, rfl, hl1, it1, Nat.le_refl _, by rw [List.drop_zero]; cases takeK ks L <;> rfl⟩ (fun j σ H' _ hp => ?_) (fun j x σ H2 hx hp => ?_) (fun σ H' hp => ?_)
  · obtain ⟨_, _, _, _, _, rfl, k, _⟩ := hp
    exact (tsk k).sqT hc1
  · obtain ⟨x3, ys, ds, L', xs', rfl, k2, hb2, rys, ly, hl2, it2, lL, et⟩ := hp
    have hk : ∃ k, ks[j]? = some k ∧ x = .str k := by
      rw [show (vws' ks)[j]? = ks[j]?.map V.str from List.getElem?_map ..] at hx
      obtain ⟨k, e1, e2⟩ := Option.map_eq_some_iff.mp hx
      exact ⟨k, e1, e2.symm⟩
    obtain ⟨k, ek, rfl⟩ := hk
    have kH : Keep [l] H H2 := ((k1.mono (by simp) : Keep [l, b] H H1).trans k2).loseN fun x hx => by
      rcases List.mem_cons.mp hx with rfl | hx
      · exact .inl (List.mem_singleton.mpr rfl)
      · cases List.mem_singleton.mp hx; exact .inr nb
    walk_at "rd"
    cases it2 with
    | nil =>
      have e0 : takeK ks L = none := by rw [et, takeK_none ek]; rfl
      rw [e0] at q
      refine r_or ?_
      walk_at "rd"
      exact q H2 [] [] kH hl2 .nil (Nat.zero_le _)
    | @cons y v L2 xs2 iy it2 =>
      have ne : (xs2 ++ [v]).isEmpty = false := by cases xs2 <;> rfl
      have la := last_at (xs := xs2) (v := v)
      refine r_or ?_
      walk_at "rd"
      rw [ne]
      walk_at "rd"
      refine ask ⟨v, y, k, rfl, iy, ?_⟩
      walk_at "rd"
      refine ite2 (fun c => ?_) (fun c => ?_)
      · have c' : isKind y k = false := by rw [Bool.not_eq_true'] at c; exact c
        have e0 : takeK ks L = none := by rw [et, takeK_step ek rfl, c', if_neg Bool.false_ne_true]; rfl
        rw [e0] at q
        walk_at "rd"
        exact q H2 _ (y :: L2) kH hl2 (.cons iy it2) lL
      have c' : isKind y k = true := by rw [Bool.not_eq_true'] at c; exact Bool.not_eq_false _ |>.mp c
      rw [takeK_step ek rfl, if_pos c'] at et
      walk_at "rd"
      intro H3 h3 k3
      have iy3 := iy.ts hl2 k3
      have it3 := it2.ts hl2 k3
      have bl' : b ∉ [l] := by rw [List.mem_singleton]; exact bl
      have hb3 := k3 _ _ hb2 bl'
      have t23 : Tst H2 H3 := k3.ts fun x hx => by cases List.mem_singleton.mp hx; exact .inl ⟨_, hl2⟩
      walk_at "rd"
      refine ask ⟨v, y, k, rfl, iy3, fun tv H4 k4 rt => ?_⟩
      have hb4 := k4 _ _ hb3 (by simp)
      have h4 := k4 _ _ h3 (by simp)
      have lt : ys.length ≤ 1000 := by
        have : j < ks.length := (List.getElem?_eq_some_iff.mp ek).1
        omega
      walk_at "rd"
      intro H5 h5 k5
      walk_at "rd"
      have lb' : l ∉ [b] := by rw [List.mem_singleton]; exact Ne.symm bl
      have t34 := keep_ts0 k4
      have t45 : Tst H4 H5 := k5.ts fun x hx => by cases List.mem_singleton.mp hx; exact .inl ⟨_, hb4⟩
      have it5 := (it3.keep0 k4).ts hb4 k5
      refine ⟨_, ys ++ [tv], ds ++ [toldAs y k], L2, xs2, rfl, ((k2.trans (k3.mono (by simp))).trans (k4.mono (by simp))).trans (k5.mono (by simp)), h5, ((((rys.ts t23).ts t34).ts t45).append (.cons (rt.ts t45) .nil)), by rw [List.length_append, ly]; rfl, k5 _ _ h4 lb', it5, by rw [List.length_cons] at lL; omega, ?_⟩
      rw [et]
      cases takeK (ks.drop (j + 1)) L2 with
      | none => rfl
      | some r => show some (ds ++ (toldAs y k :: r.1), r.2) = some (ds ++ [toldAs y k] ++ r.1, r.2); rw [List.append_assoc]; rfl
  · obtain ⟨x3, ys, ds, L', xs', rfl, k2, hb2, rys, ly, hl2, it2, lL, et⟩ := hp
    have e0 : takeK ks L = some (ds, L') := by
      rw [et, List.drop_eq_nil_of_le (by rw [show (vws' ks).length = ks.length from List.length_map _]; exact Nat.le_refl _)]
      show some (ds ++ [], L') = _
      rw [List.append_nil]
    rw [e0] at q
    walk_at "rd"
    refine q b ys H' xs' (((k1.mono (by simp) : Keep [l, b] H H1).trans k2).loseN fun x hx => ?_) nb hb2 rys hl2 it2
    rcases List.mem_cons.mp hx with rfl | hx
    · exact .inl (List.mem_singleton.mpr rfl)
    · cases List.mem_singleton.mp hx; exact .inr nb
theorem takeAll_step {k : Str} {x : Itm} {L : List Itm} (h : isKind x k = true) : takeAll k (x :: L) = (toldAs x k :: (takeAll k L).1, (takeAll k L).2) := if_pos h
theorem takeAll_stop {k : Str} {x : Itm} {L : List Itm} (h : isKind x k = false) : takeAll k (x :: L) = ([], x :: L) := if_neg (by rw [h]; exact Bool.false_ne_true)
theorem okTakenAll {cI : Addr} (D : DefAt K mg "taken_all" staken_all ptaken_all) (T : Blt mg) (C_is_kind : Callee P w K mg base "is_kind" 1 pis_kind (spIsKind K cI)) (C_told_as : Callee P w K mg base "told_as" 1 ptold_as (spToldAs K cI)) : Callee P w K mg base "taken_all" 2 ptaken_all (spTakenAll K cI) := by
  refine D.ok sctaken_all (fun vs H Q E h => ?_) (fun f cdv A outer s H vs Q E hr h => ?_)
  · obtain ⟨l, k, L, xs, rfl, _⟩ := h
    rfl
  obtain ⟨l, k, L, xs, rfl, hl, it, L1, q⟩ := h
  refine ⟨_, (pss_cons (ps_set (i := 2) sctaken_all.nd rfl (Or.inl rfl) (pe_lst pa_nil))
  (pss_cons (ps_while PassesOwn.never (PW.pt (pw_and (ptTruL (K := K) (pv 0)) (pw_and1 (pt_val (pcall C_is_kind (hr.mono (by first | exact Nat.le_of_ble_eq_true rfl | omega)) rfl (pa_cons (pe_ix (ixL (K := K)) (pv 0) (pe_un un_minus pe_int) (fun _ _ => rfl)) (pa_cons (pv 1) pa_nil)))))))
   (pss_one (ps_expr (peApp (K := K) (pv 2) (pcall C_told_as (hr.mono (by first | exact Nat.le_of_ble_eq_true rfl | omega)) rfl (pa_cons (pePop (K := K) (pv 0)) (pa_cons (pv 1) pa_nil)))))))
  (pss_one (ps_ret (pe_callTy (cTuple (K := K)) (by rfl) T.tuple (by decide +kernel) (pa_cons (pv 2) pa_nil)))))), ?_⟩
  walk_at "rd"
  intro b H1 nb hb k1
  have bl : b ≠ l := fun z => by rw [z, hl] at nb; cases nb
  have hl1 := k1 _ _ hl (by simp)
  have it1 := it.keep0 k1
  have bl' : b ∉ [l] := by rw [List.mem_singleton]; exact bl
  have lb' : l ∉ [b] := by rw [List.mem_singleton]; exact Ne.symm bl
  walk_at "rd"
  refine whileM (fun m σ H' => ∃ (ys : List V) (ds : List PyData) (L' : List Itm) (xs' : List V), σ = [some (.ref l), some (.str k), some (.ref b)] ∧ Keep [l, b] H1 H' ∧ H' b = some (.lst ys) ∧ Rps K H' ys ds ∧ ys.length + L'.length = L.length ∧ H' l = some (.lst xs') ∧ ItAts K H' cI L' xs' ∧ m = L'.length ∧ takeAll k L = (ds ++ (takeAll k L').1, (takeAll k L').2)) L.length ⟨[], [], L, xs, rfl, Keep.refl, hb, .nil, by rw [List.length_nil, Nat.zero_add], hl1, it1, rfl, rfl⟩ (fun m σ H2 hp => ?_)
  obtain ⟨ys, ds, L', xs', rfl, k2, hb2, rys, ly, hl2, it2, em, et⟩ := hp
  have out : ∀ (H' : Hp), Keep [l, b] H1 H' → Keep [l] H H' := fun H' k => ((k1.mono (by simp) : Keep [l, b] H H1).trans k).loseN fun x hx => by
    rcases List.mem_cons.mp hx with rfl | hx
    · exact .inl (List.mem_singleton.mpr rfl)
    · cases List.mem_singleton.mp hx; exact .inr nb
  cases it2 with
  | nil =>
    have e0 : takeAll k L = (ds, []) := by rw [et]; show (ds ++ [], []) = _; rw [List.append_nil]
    rw [e0] at q
    refine r_and ?_
    walk_at "rd"
    intro c H3 nc hc k3
    have h3 := k3 _ _ hl2 (by simp)
    refine q c ys H3 [] ((out _ k2).trans (k3.mono (by simp))) ((out _ k2).free (fun m hm => by cases List.mem_singleton.mp hm; rw [hl2]; exact fun z => by cases z) nc) (SqT.of hc) (rys.ts (keep_ts0 k3)) h3 .nil
  | @cons y v L2 xs2 iy it2 =>
    have ne : (xs2 ++ [v]).isEmpty = false := by cases xs2 <;> rfl
    have la := last_at (xs := xs2) (v := v)
    refine r_and ?_
    walk_at "rd"
    rw [ne]
    walk_at "rd"
    refine ask ⟨v, y, k, rfl, iy, ?_⟩
    walk_at "rd"
    refine ite2 (fun c => ?_) (fun c => ?_)
    · rw [takeAll_step c] at et
      walk_at "rd"
      intro H3 h3 k3
      have iy3 := iy.ts hl2 k3
      have it3 := it2.ts hl2 k3
      have hb3 := k3 _ _ hb2 bl'
      have t23 : Tst H2 H3 := k3.ts fun x hx => by cases List.mem_singleton.mp hx; exact .inl ⟨_, hl2⟩
      walk_at "rd"
      refine ask ⟨v, y, k, rfl, iy3, fun tv H4 k4 rt => ?_⟩
      have hb4 := k4 _ _ hb3 (by simp)
      have h4 := k4 _ _ h3 (by simp)
      have lt : ys.length ≤ 100000 := by omega
      walk_at "rd"
      intro H5 h5 k5
      walk_at "rd"
      have t34 := keep_ts0 k4
      have t45 : Tst H4 H5 := k5.ts fun x hx => by cases List.mem_singleton.mp hx; exact .inl ⟨_, hb4⟩
      have it5 := (it3.keep0 k4).ts hb4 k5
      rw [List.length_cons] at ly em
      exact ⟨L2.length, by omega, ys ++ [tv], ds ++ [toldAs y k], L2, xs2, rfl, ((k2.trans (k3.mono (by simp))).trans (k4.mono (by simp))).trans (k5.mono (by simp)), h5, ((((rys.ts t23).ts t34).ts t45).append (.cons (rt.ts t45) .nil)), by rw [List.length_append, List.length_singleton]; omega, k5 _ _ h4 lb', it5, rfl, by rw [et, List.append_assoc]; rfl⟩
    · have c' := Bool.eq_false_iff.mpr c
      have e0 : takeAll k L = (ds, y :: L2) := by rw [et, takeAll_stop c']; show (ds ++ [], _) = _; rw [List.append_nil]
      rw [e0] at q
      walk_at "rd"
      intro c H3 nc hc k3
      have h3 := k3 _ _ hl2 (by simp)
      refine q c ys H3 _ ((out _ k2).trans (k3.mono (by simp))) ((out _ k2).free (fun m hm => by cases List.mem_singleton.mp hm; rw [hl2]; exact fun z => by cases z) nc) (SqT.of hc) (rys.ts (keep_ts0 k3)) h3 (.cons (iy.keep0 k3) (it2.keep0 k3))
end
end
section
section
variable {P : Program} {w : World} {K : PySem.W.Frag} {mg : Str → Option Value} {base : Heap}
structure Nts (K : PySem.W.Frag) (w : World) (tk : Nat → Tok) (mg : Str → Option Value) (aT aE aD : Addr) (es : Array DictEntry) (n : Nat) : Prop extends Blt mg where
  reversed : mg "reversed" = none
  all : mg "all" = none
  FIGURES : mg "FIGURES" = some (.str "0123456789" (tk 20))
  MOST_FIGURES : mg "MOST_FIGURES" = some (.int 2 (tk 21))
  THINGS : mg "THINGS" = some (.ref aT)
  ENDS : mg "ENDS" = some (.ref aE)
  TAKES : mg "TAKES" = some (.ref aD)
  things : SqT K (fun _ => none) aT (vws' ["+", "cell", "own", "par"])
  ends : SqT K (fun _ => none) aE (vws' [")", "."])
  takes : KDict K w aD es n
  kinds : ∀ z : Str, match takesOf z with
    | none => PySem.W.nsIn K aD z = some none
    | some ks => ∃ a, PySem.W.nsIn K aD z = some (some (.ref a)) ∧ SqT K (fun _ => none) a (vws' ks)
theorem sqT_none {a : Addr} {xs : List V} {H : Hp} (h : SqT K (fun _ => none) a xs) : SqT K H a xs := by
  rcases h with (h | ⟨o, h⟩) | h
  · cases h
  · cases h
  · exact .inr h
noncomputable def spIsFigures : Sp := fun vs H Q _ => ∃ z : Str, vs = [.str z] ∧ z.length ≤ 100000 ∧ ∀ H', Keep [] H H' → Q (.bl (figOf z).isSome) H'
noncomputable abbrev sis_figures : Stmt := top 35
noncomputable abbrev nis_figures : List Str := ["word", "sign"]
noncomputable abbrev pis_figures : List Str := ["word"]
theorem scis_figures : FnScope nis_figures pis_figures (defScope sis_figures) := ⟨rfl, rfl, rfl, by decide +kernel, rfl, by decide +kernel, by decide +kernel⟩
noncomputable abbrev sread_body : Stmt := top 36
noncomputable abbrev nread_body : List Str := ["items", "steps"]
noncomputable abbrev pread_body : List Str := ["items"]
theorem scread_body : FnScope nread_body pread_body (defScope sread_body) := ⟨rfl, rfl, rfl, by decide +kernel, rfl, by decide +kernel, by decide +kernel⟩
noncomputable abbrev sread_call : Stmt := top 37
noncomputable abbrev nread_call : List Str := ["items", "called", "things"]
noncomputable abbrev pread_call : List Str := ["items"]
theorem scread_call : FnScope nread_call pread_call (defScope sread_call) := ⟨rfl, rfl, rfl, by decide +kernel, rfl, by decide +kernel, by decide +kernel⟩
theorem okIsFigures {tk : Nat → Tok} {aT aE aD : Addr} {es : Array DictEntry} {n : Nat} (D : DefAt K mg "is_figures" sis_figures pis_figures) (T : Nts K w tk mg aT aE aD es n) : Callee P w K mg base "is_figures" 1 pis_figures spIsFigures := by
  refine D.ok scis_figures (fun vs H Q E h => ?_) (fun f cdv A outer s H vs Q E hr h => ?_)
  · obtain ⟨z, rfl, _⟩ := h
    rfl
  obtain ⟨z, rfl, hz, q⟩ := h
  have hs : z.length ≤ sizeLine := Nat.le_trans hz (small (by omega))
  rw [← fig_is] at q
  refine ⟨_, (pss_cons (ps_if (PW.pt (pw_or (pt_not (pt_chain op_le op_le pe_int (pe_callB cLenS (by rfl) T.len PySem.boot_len (pa_cons (pv 0) pa_nil)) (pe_glob (v := .int 2) rfl T.MOST_FIGURES ⟨_, rfl⟩))) (pw_or1 (PW.pt (pw_and (pt_cmpR op_gt (pe_callB cLenS (by rfl) T.len PySem.boot_len (pa_cons (pv 0) pa_nil)) pe_int (nomark _)) (pw_and1 (pt_cmpR op_eq (pe_ix ix_str (pv 0) pe_int (fun _ _ => rfl)) pe_str (nomark _)))))))) (pss_one (ps_ret pe_bl)) pss_nil)
  (pss_one (ps_ret (pe_callB (cAll (K := K) rfl) (by rfl) T.all (by decide +kernel) (pa_cons (pe_lc (own := [("sign", 1)]) (g := gName 1) (by rfl) scis_figures.nd (pi_str (pv 0)) (blkOk_by (own := [("sign", 1)]) (N := nis_figures) (sc := defScope sis_figures) (by decide +kernel)) (fun _ _ _ _ _ => (pg_name (i := 1) scis_figures.nd rfl (Or.inl rfl))) (fun _ _ _ _ _ => pts_nil) (fun _ _ _ _ _ => (pe_cmpR op_inS (pv 1) (pe_glob (v := .str "0123456789") rfl T.FIGURES ⟨_, rfl⟩) (by with_unfolding_all rfl)))) pa_nil))))), ?_⟩
  have zl : z.cps.toList.length = z.length := rfl
  have cast1 : decide ((1 : Int) ≤ (z.length : Int)) = decide (1 ≤ z.length) := by rw [Bool.eq_iff_iff, decide_eq_true_eq, decide_eq_true_eq]; omega
  have cast2 : decide ((z.length : Int) ≤ 2) = decide (z.length ≤ 2) := by rw [Bool.eq_iff_iff, decide_eq_true_eq, decide_eq_true_eq]; omega
  have cast3 : decide ((1 : Int) < (z.length : Int)) = decide (1 < z.length) := by rw [Bool.eq_iff_iff, decide_eq_true_eq, decide_eq_true_eq]; omega
  walk_at "rd"
  refine r_orP (a := !figA z) (b := figZ z) (fun R0 hR => ?_) (fun _ R0 hR => ?_) ?_
  · walk_at "rd"
    unfold figA at hR
    refine ite2 (fun c => ?_) (fun c => ?_)
    · walk_at "rd"
      rw [cast1] at c
      rw [c, Bool.true_and] at hR
      rw [cast2]
      exact hR
    · walk_at "rd"
      rw [cast1] at c
      rw [Bool.eq_false_iff.mpr c, Bool.false_and] at hR
      exact hR
  · unfold figZ at hR
    refine r_andP (a := decide (1 < z.length)) (b := decide (z.cps.toList.head? = some 48)) (fun R1 hR1 => ?_) (fun c R1 hR1 => ?_) hR
    · walk_at "rd"
      rw [cast3]
      exact hR1
    · have c' := of_decide_eq_true c
      obtain ⟨x, r, e⟩ : ∃ x r, z.cps.toList = x :: r := by
        cases e : z.cps.toList with
        | nil => rw [e] at zl; simp at zl; omega
        | cons a r => exact ⟨a, r, rfl⟩
      have a0 : atI z.cps.toList 0 = some x := by rw [e]; exact atI_nat (j := 0) rfl
      rw [e] at hR1
      walk_at "rd"
      refine r_ixS hs a0 ?_
      walk_at "rd"
      have e2 : decide (V.str ⟨#[x]⟩ = V.str "0") = decide ((x :: r).head? = some 48) := by
        rw [Bool.eq_iff_iff, decide_eq_true_eq, decide_eq_true_eq]
        constructor
        · intro h
          have := V.str.inj h
          have h2 : (⟨#[x]⟩ : Str).cps = (Str.ofString "0").cps := congrArg Str.cps this
          have h3 : (#[x] : Array Nat).toList = [48] := by rw [show (#[x] : Array Nat) = (Str.ofString "0").cps from h2]; decide +kernel
          have h4 : [x] = [48] := h3
          cases h4
          rfl
        · intro h
          cases h
          decide +kernel
      rw [e2]
      exact hR1
  refine ite2 (fun c => ?_) (fun c => ?_)
  · walk_at "rd"
    have e : (figA z && !figZ z && figS z) = false := by
      cases h1 : figA z <;> cases h2 : figZ z <;> rw [h1, h2] at c <;> first | rfl | cases c
    rw [e] at q
    exact q H Keep.refl
  · walk_at "rd"
    have e : (figA z && !figZ z && figS z) = figS z := by
      cases h1 : figA z <;> cases h2 : figZ z <;> rw [h1, h2] at c <;> first | exact Bool.true_and _ | exact absurd rfl c
    rw [e] at q
    refine r_iStr ?_
    walk_at "rd"
    refine ⟨z, rfl, ?_⟩
    refine lcS (fun E i H' => H E = none ∧ Keep [] H H' ∧ H' E = some (.lst ((z.cps.toList.take i).map fun c => V.bl (decide (c ∈ FIGS.cps.toList))))) (fun E H1 nE e1 k1 => ⟨nE, k1, e1⟩) (fun E i c H1 hc hp => ?_) (fun E H1 hp => ?_)
    · obtain ⟨nE, k1, h1⟩ := hp
      have hc' : z.cps.toList[i]? = some c := by rw [Array.getElem?_toList]; exact hc
      have lt : ((z.cps.toList.take i).map fun c => V.bl (decide (c ∈ FIGS.cps.toList))).length ≤ 100000 := by rw [List.length_map, List.length_take]; omega
      walk_at "rd"
      refine ⟨rfl, ?_⟩
      walk_at "rd"
      intro H2 h2 k2
      refine ⟨nE, k1.fresh1 k2 nE, ?_⟩
      rw [List.take_succ, hc', List.map_append]
      exact h2
    · obtain ⟨nE, k1, h1⟩ := hp
      rw [List.take_of_length_le (by rw [zl]; exact Nat.le_refl _)] at h1
      walk_at "rd"
      refine r_all (bs := z.cps.toList.map fun c => decide (c ∈ FIGS.cps.toList)) (SqL.of (by rw [List.map_map]; exact h1)) ?_
      have e3 : (z.cps.toList.map fun c => decide (c ∈ FIGS.cps.toList)).all id = figS z := by unfold figS; rw [List.all_map]; rfl
      rw [e3]
      exact q H1 k1
end
end
section
section
variable {P : Program} {w : World} {K : PySem.W.Frag} {mg : Str → Option Value} {base : Heap}
noncomputable def Answer (K : PySem.W.Frag) (cI l : Addr) (H : Hp) (r : Option (Itm × List Itm)) (Q : VK) : Prop := match r with
  | some r => ∀ (v : V) (H' : Hp) (xs' : List V), Keep [l] H H' → ItAt K H' cI r.1 v → H' l = some (.lst xs') → ItAts K H' cI r.2 xs' → Q v H'
  | none => ∀ (H' : Hp) (xs' : List V) (L' : List Itm), Keep [l] H H' → H' l = some (.lst xs') → ItAts K H' cI L' xs' → Q .non H'
noncomputable def rdBody (L : List Itm) : Option (Itm × List Itm) := (takeK [")"] (takeAll "step" L).2).map fun r => (iB (.tuple (takeAll "step" L).1), r.2)
noncomputable def rdCall (L : List Itm) : Option (Itm × List Itm) := match takeK ["number"] L with
  | none => none
  | some (ns, L1) => (takeK ["."] (takeAll "thing" L1).2).map fun r => (iS (.tuple [.str "call", ns.headD .none, .tuple (takeAll "thing" L1).1]), r.2)
theorem takeAll_len {k : Str} : ∀ {L : List Itm}, (takeAll k L).2.length ≤ L.length
  | [] => Nat.le_refl _
  | x :: L => by
    cases h : isKind x k with
    | true =>
      rw [takeAll_step h, List.length_cons]
      have := takeAll_len (k := k) (L := L)
      show (takeAll k L).2.length ≤ _
      omega
    | false => rw [takeAll_stop h]; exact Nat.le_refl _
theorem takeK_len : ∀ {ks : List Str} {L : List Itm} {r : List PyData × List Itm}, takeK ks L = some r → r.2.length ≤ L.length ∧ r.1.length = ks.length
  | [], L, r, h => by cases h; exact ⟨Nat.le_refl _, rfl⟩
  | k :: ks, [], r, h => by cases h
  | k :: ks, x :: L, r, h => by
    have h' : (if isKind x k = true then (takeK ks L).map fun r => (toldAs x k :: r.1, r.2) else none) = some r := h
    by_cases c : isKind x k = true
    · rw [if_pos c] at h'
      obtain ⟨r', e, rfl⟩ := Option.map_eq_some_iff.mp h'
      obtain ⟨a, b⟩ := takeK_len e
      exact ⟨by rw [List.length_cons]; exact Nat.le_succ_of_le a, by show r'.1.length + 1 = _; rw [b]; rfl⟩
    · rw [if_neg c] at h'
      cases h'
noncomputable def spRead1 (K : PySem.W.Frag) (cI : Addr) (g : List Itm → Option (Itm × List Itm)) : Sp := fun vs H Q _ => ∃ (l : Addr) (L : List Itm) (xs : List V), vs = [.ref l] ∧ H l = some (.lst xs) ∧ ItAts K H cI L xs ∧ L.length ≤ 100000 ∧ Answer K cI l H (g L) Q
noncomputable abbrev sread_word : Stmt := top 34
noncomputable abbrev nread_word : List Str := ["word", "items", "told"]
noncomputable abbrev pread_word : List Str := ["word", "items"]
theorem scread_word : FnScope nread_word pread_word (defScope sread_word) := ⟨rfl, rfl, rfl, by decide +kernel, rfl, by decide +kernel, by decide +kernel⟩
theorem okReadBody {cI : Addr} (D : DefAt K mg "read_body" sread_body pread_body) (C_Item : Maker P w K mg base "Item" cI 1 pItem_init (spItem K cI)) (C_taken : Callee P w K mg base "taken" 2 ptaken (spTakenK K cI)) (C_taken_all : Callee P w K mg base "taken_all" 2 ptaken_all (spTakenAll K cI)) : Callee P w K mg base "read_body" 3 pread_body (spRead1 K cI rdBody) := by
  refine D.ok scread_body (fun vs H Q E h => ?_) (fun f cdv A outer s H vs Q E hr h => ?_)
  · obtain ⟨l, L, xs, rfl, _⟩ := h
    rfl
  obtain ⟨l, L, xs, rfl, hl, it, L1, q⟩ := h
  refine ⟨_, (pss_cons (ps_set (i := 1) scread_body.nd rfl (Or.inl rfl) (pcall C_taken_all (hr.mono (by first | exact Nat.le_of_ble_eq_true rfl | omega)) rfl (pa_cons (pv 0) (pa_cons pe_str pa_nil))))
  (pss_one (ps_ret (pe_ifExp (pt_cmpR op_isN1 (pcall C_taken (hr.mono (by first | exact Nat.le_of_ble_eq_true rfl | omega)) rfl (pa_cons (pv 0) (pa_cons (pe_tup (pa_cons pe_str pa_nil)) pa_nil))) pe_non (nomark _)) pe_non (pmake C_Item (hr.mono (by first | exact Nat.le_of_ble_eq_true rfl | omega)) rfl (pa_cons pe_str (pa_cons (pv 1) pa_nil))))))), ?_⟩
  walk_at "rd"
  refine ask ⟨l, "step", L, xs, rfl, hl, it, L1, fun a ys H1 xs1 k1 na sa rys hl1 it1 => ?_⟩
  walk_at "rd"
  intro c H2 nc hc k2
  have hl2 := k2 _ _ hl1 (by simp)
  have it2 := it1.keep0 k2
  have len := takeAll_len (k := "step") (L := L)
  walk_at "rd"
  refine ask ⟨l, c, [")"], _, xs1, rfl, hl2, it2, SqT.of hc, by decide, by omega, ?_⟩
  have k12 : Keep [l] H H2 := k1.trans (k2.mono (by simp))
  cases e : takeK [")"] (takeAll "step" L).2 with
  | none =>
    have er : rdBody L = none := by unfold rdBody; rw [e]; rfl
    rw [er] at q
    intro H3 xs3 L3 k3 hl3 it3 _
    walk_at "rd"
    exact q H3 xs3 L3 (k12.trans k3) hl3 it3
  | some r =>
    have er : rdBody L = some (iB (.tuple (takeAll "step" L).1), r.2) := by unfold rdBody; rw [e]; rfl
    rw [er] at q
    intro b zs H3 xs3 k3 nb hb rz hl3 it3
    have t23 : Tst H2 H3 := k3.ts fun x hx => by cases List.mem_singleton.mp hx; exact .inl ⟨_, hl2⟩
    have ra : Rp K H3 (.ref a) (.tuple (takeAll "step" L).1) := ((Rp.tup sa rys).ts (keep_ts0 k2)).ts t23
    walk_at "rd"
    refine made fun p dx H4 np ndx nxd h4 hdx k4 => ⟨p, dx, "body", .ref a, .tuple (takeAll "step" L).1, rfl, h4, ra.ts (keep_ts0 k4), fun H5 k5 i5 => ⟨rfl, ?_⟩⟩
    have lp : l ≠ p := ne_of_none hl3 np
    have hl4 := k4 _ _ hl3 (by simp)
    have hl5 := k5 _ _ hl4 (by simpa using lp)
    have k35 : Keep [] H3 H5 := k4.fresh1 k5 np
    exact q _ H5 xs3 ((k12.trans k3).trans (k35.mono (by simp))) i5 hl5 (it3.keep0 k35)
theorem okReadCall {cI : Addr} (D : DefAt K mg "read_call" sread_call pread_call) (C_Item : Maker P w K mg base "Item" cI 1 pItem_init (spItem K cI)) (C_taken : Callee P w K mg base "taken" 2 ptaken (spTakenK K cI)) (C_taken_all : Callee P w K mg base "taken_all" 2 ptaken_all (spTakenAll K cI)) : Callee P w K mg base "read_call" 3 pread_call (spRead1 K cI rdCall) := by
  refine D.ok scread_call (fun vs H Q E h => ?_) (fun f cdv A outer s H vs Q E hr h => ?_)
  · obtain ⟨l, L, xs, rfl, _⟩ := h
    rfl
  obtain ⟨l, L, xs, rfl, hl, it, L1, q⟩ := h
  refine ⟨_, (pss_cons (ps_set (i := 1) scread_call.nd rfl (Or.inl rfl) (pcall C_taken (hr.mono (by first | exact Nat.le_of_ble_eq_true rfl | omega)) rfl (pa_cons (pv 0) (pa_cons (pe_tup (pa_cons pe_str pa_nil)) pa_nil))))
  (pss_cons (ps_set (i := 2) scread_call.nd rfl (Or.inl rfl) (pcall C_taken_all (hr.mono (by first | exact Nat.le_of_ble_eq_true rfl | omega)) rfl (pa_cons (pv 0) (pa_cons pe_str pa_nil))))
  (pss_cons (ps_if (PW.pt (pw_or (pt_cmpR op_isN1 (pv 1) pe_non (nomark _)) (pw_or1 (pt_cmpR op_isN1 (pcall C_taken (hr.mono (by first | exact Nat.le_of_ble_eq_true rfl | omega)) rfl (pa_cons (pv 0) (pa_cons (pe_tup (pa_cons pe_str pa_nil)) pa_nil))) pe_non (nomark _))))) (pss_one (ps_ret pe_non)) pss_nil)
  (pss_one (ps_ret (pmake C_Item (hr.mono (by first | exact Nat.le_of_ble_eq_true rfl | omega)) rfl (pa_cons pe_str (pa_cons (pe_tup (pa_cons pe_str (pa_cons (pe_ix (ixL (K := K)) (pv 1) pe_int (fun _ _ => rfl)) (pa_cons (pv 2) pa_nil)))) pa_nil)))))))), ?_⟩
  walk_at "rd"
  intro c H1 nc hc k1
  have hl1 := k1 _ _ hl (by simp)
  have it1 := it.keep0 k1
  walk_at "rd"
  refine ask ⟨l, c, ["number"], L, xs, rfl, hl1, it1, SqT.of hc, by decide, L1, ?_⟩
  have k01 : Keep [l] H H1 := k1.mono (by simp)
  cases e1 : takeK ["number"] L with
  | none =>
    have er : rdCall L = none := by unfold rdCall; rw [e1]
    rw [er] at q
    intro H2 xs2 L2 k2 hl2 it2 lL
    walk_at "rd"
    refine ask ⟨l, "thing", L2, xs2, rfl, hl2, it2, by omega, fun a ys H3 xs3 k3 na sa rys hl3 it3 => ?_⟩
    walk_at "rd"
    refine r_or ?_
    walk_at "rd"
    exact q H3 xs3 _ ((k01.trans k2).trans k3) hl3 it3
  | some r =>
    obtain ⟨len, ln⟩ := takeK_len e1
    obtain ⟨ns, L2⟩ := r
    have len : L2.length ≤ L.length := len
    obtain ⟨n0, rfl⟩ : ∃ n0, ns = [n0] := by
      match ns, ln with
      | [n0], _ => exact ⟨n0, rfl⟩
    have er : rdCall L = (takeK ["."] (takeAll "thing" L2).2).map fun r => (iS (.tuple [.str "call", n0, .tuple (takeAll "thing" L2).1]), r.2) := by unfold rdCall; rw [e1]; rfl
    rw [er] at q
    intro b zs H2 xs2 k2 nb hb rz hl2 it2
    obtain ⟨z0, rfl⟩ : ∃ z0, zs = [z0] := by
      cases rz with
      | cons a r => cases r; exact ⟨_, rfl⟩
    have rz0 : Rp K H2 z0 n0 := by cases rz; assumption
    have bl : b ∉ [l] := by rw [List.mem_singleton]; exact fun z => by rw [z, hl1] at nb; cases nb
    walk_at "rd"
    refine ask ⟨l, "thing", L2, xs2, rfl, hl2, it2, by omega, fun a ys H3 xs3 k3 na sa rys hl3 it3 => ?_⟩
    have hb3 := k3 _ _ hb bl
    have t23 : Tst H2 H3 := k3.ts fun x hx => by cases List.mem_singleton.mp hx; exact .inl ⟨_, hl2⟩
    walk_at "rd"
    refine r_or ?_
    walk_at "rd"
    intro d H4 nd hd k4
    have hl4 := k4 _ _ hl3 (by simp)
    have hb4 := k4 _ _ hb3 (by simp)
    have it4 := it3.keep0 k4
    have len2 := takeAll_len (k := "thing") (L := L2)
    have k04 : Keep [l] H H4 := ((k01.trans k2).trans k3).trans (k4.mono (by simp))
    walk_at "rd"
    refine ask ⟨l, d, ["."], _, xs3, rfl, hl4, it4, SqT.of hd, by decide, by omega, ?_⟩
    cases e2 : takeK ["."] (takeAll "thing" L2).2 with
    | none =>
      rw [e2] at q
      intro H5 xs5 L5 k5 hl5 it5 _
      walk_at "rd"
      exact q H5 xs5 L5 (k04.trans k5) hl5 it5
    | some r =>
      rw [e2] at q
      intro e es H5 xs5 k5 ne he re hl5 it5
      have t45 : Tst H4 H5 := k5.ts fun x hx => by cases List.mem_singleton.mp hx; exact .inl ⟨_, hl4⟩
      have hb5 := k5 _ _ hb4 bl
      walk_at "rd"
      intro g H6 ng hg k6
      have hl6 := k6 _ _ hl5 (by simp)
      walk_at "rd"
      refine made fun p dx H7 np ndx nxd h7 hdx k7 => ?_
      have k57 : Keep [] H5 H7 := k6.trans k7
      have t57 := keep_ts0 k57
      have hg7 := k7 _ _ hg (by simp)
      have ra : Rp K H7 (.ref a) (.tuple (takeAll "thing" L2).1) := (((Rp.tup sa rys).ts (keep_ts0 k4)).ts t45).ts t57
      have rn : Rp K H7 z0 n0 := (((rz0.ts t23).ts (keep_ts0 k4)).ts t45).ts t57
      refine ⟨p, dx, "step", .ref g, .tuple [.str "call", n0, .tuple (takeAll "thing" L2).1], rfl, h7, .tup (SqT.of hg7) (.cons (.str _) (.cons rn (.cons ra .nil))), fun H8 k8 i8 => ⟨rfl, ?_⟩⟩
      have lp : l ≠ p := ne_of_none hl6 np
      have hl7 := k57 _ _ hl5 (by simp)
      have hl8 := k8 _ _ hl7 (by simpa using lp)
      have np5 : H5 p = none := by
        cases e0 : H5 p with
        | none => rfl
        | some o => rw [k6 _ _ e0 (by simp)] at np; cases np
      have k58 : Keep [] H5 H8 := k57.fresh1 k8 np5
      exact q _ H8 xs5 ((k04.trans k5).trans (k58.mono (by simp))) i8 hl8 (it5.keep0 k58)
noncomputable def spReadWord (K : PySem.W.Frag) (cI : Addr) : Sp := fun vs H Q _ => ∃ (z : Str) (l : Addr) (L : List Itm) (xs : List V), vs = [.str z, .ref l] ∧ z.length ≤ 100000 ∧ H l = some (.lst xs) ∧ ItAts K H cI L xs ∧ L.length ≤ 100000 ∧ Answer K cI l H (rdW z L) Q
theorem takes_len {z : Str} {ks : List Str} (h : takesOf z = some ks) : ks.length ≤ 3 := by
  unfold takesOf at h
  repeat' split at h
  all_goals (cases h <;> decide)
theorem strs_in {z : Str} : ∀ {ws : List Str}, inV (.str z) (vws' ws) = decide (z ∈ ws)
  | [] => rfl
  | w :: ws => by
    show ((w == z) || inV (.str z) (vws' ws)) = _
    rw [strs_in (ws := ws), Bool.eq_iff_iff, Bool.or_eq_true, beq_iff_eq, decide_eq_true_eq, decide_eq_true_eq, List.mem_cons]
    exact ⟨fun h => h.imp (fun e => e.symm) id, fun h => h.imp (fun e => e.symm) id⟩
theorem inV_strs {z : Str} {ws : List Str} {b : Bool} (h : (if false = true then !inV (.str z) (vws' ws) else inV (.str z) (vws' ws)) = b) : decide (z ∈ ws) = b := by
  rw [if_neg Bool.false_ne_true, strs_in] at h
  exact h
theorem rdW_at {z : Str} (f : figOf z = none) (L : List Itm) : rdW z L = if z = ")" ∨ z = "." then some (iE z, L)
    else if z = "(" then rdBody L else if z = "call" then rdCall L else match takesOf z with
      | none => none
      | some ks => (takeK ks L).map fun r => if isThing z = true then (iT (.tuple (.str (if z = "+" then "sum" else z) :: r.1)), r.2) else (iS (.tuple (.str z :: r.1)), r.2) := by
  unfold rdW
  rw [f]
  rfl
theorem okReadWord {tk : Nat → Tok} {aT aE aD : Addr} {es : Array DictEntry} {n : Nat} {cI : Addr} (D : DefAt K mg "read_word" sread_word pread_word) (T : Nts K w tk mg aT aE aD es n) (C_is_figures : Callee P w K mg base "is_figures" 1 pis_figures spIsFigures) (C_Item : Maker P w K mg base "Item" cI 1 pItem_init (spItem K cI)) (C_taken : Callee P w K mg base "taken" 2 ptaken (spTakenK K cI)) (C_read_body : Callee P w K mg base "read_body" 3 pread_body (spRead1 K cI rdBody)) (C_read_call : Callee P w K mg base "read_call" 3 pread_call (spRead1 K cI rdCall)) : Callee P w K mg base "read_word" 4 pread_word (spReadWord K cI) := by
  refine D.ok scread_word (fun vs H Q E h => ?_) (fun f cdv A outer s H vs Q E hr h => ?_)
  · obtain ⟨z, l, L, xs, rfl, _⟩ := h
    rfl
  obtain ⟨z, l, L, xs, rfl, hz, hl, it, L1, q⟩ := h
  refine ⟨_, (pss_cons (ps_if (pt_val (pcall C_is_figures (hr.mono (by first | exact Nat.le_of_ble_eq_true rfl | omega)) rfl (pa_cons (pv 0) pa_nil))) (pss_one (ps_ret (pmake C_Item (hr.mono (by first | exact Nat.le_of_ble_eq_true rfl | omega)) rfl (pa_cons pe_str (pa_cons (pe_callTy cIntS (by rfl) T.int (by decide +kernel) (pa_cons (pv 0) pa_nil)) pa_nil))))) pss_nil)
  (pss_cons (ps_if (pt_cmpR (opIn (K := K)) (pv 0) (pe_glob (v := .ref _) rfl T.ENDS rfl) (by with_unfolding_all rfl)) (pss_one (ps_ret (pmake C_Item (hr.mono (by first | exact Nat.le_of_ble_eq_true rfl | omega)) rfl (pa_cons (pv 0) (pa_cons pe_non pa_nil))))) pss_nil)
  (pss_cons (ps_if (pt_cmpR op_eq (pv 0) pe_str (nomark _)) (pss_one (ps_ret (pcall C_read_body (hr.mono (by first | exact Nat.le_of_ble_eq_true rfl | omega)) rfl (pa_cons (pv 1) pa_nil)))) pss_nil)
  (pss_cons (ps_if (pt_cmpR op_eq (pv 0) pe_str (nomark _)) (pss_one (ps_ret (pcall C_read_call (hr.mono (by first | exact Nat.le_of_ble_eq_true rfl | omega)) rfl (pa_cons (pv 1) pa_nil)))) pss_nil)
  (pss_cons (ps_set (i := 2) scread_word.nd rfl (Or.inl rfl) (pe_ifExp (pt_cmpR (opInKd (K := K) T.takes) (pv 0) (pe_glob (v := .ref _) rfl T.TAKES rfl) (by with_unfolding_all rfl)) (pcall C_taken (hr.mono (by first | exact Nat.le_of_ble_eq_true rfl | omega)) rfl (pa_cons (pv 1) (pa_cons (pe_ix (ixKd (K := K) T.takes) (pe_glob (v := .ref _) rfl T.TAKES rfl) (pv 0) (fun _ _ => rfl)) pa_nil))) pe_non))
  (pss_cons (ps_if (pt_cmpR op_isN1 (pv 2) pe_non (nomark _)) (pss_one (ps_ret pe_non)) pss_nil)
  (pss_cons (ps_if (pt_cmpR (opIn (K := K)) (pv 0) (pe_glob (v := .ref _) rfl T.THINGS rfl) (by with_unfolding_all rfl)) (pss_one (ps_ret (pmake C_Item (hr.mono (by first | exact Nat.le_of_ble_eq_true rfl | omega)) rfl (pa_cons pe_str (pa_cons (pe_tup (pa_cons (pe_ifExp (pt_cmpR op_eq (pv 0) pe_str (nomark _)) pe_str (pv 0)) (paStar (K := K) (pv 2) pa_nil))) pa_nil))))) pss_nil)
  (pss_one (ps_ret (pmake C_Item (hr.mono (by first | exact Nat.le_of_ble_eq_true rfl | omega)) rfl (pa_cons pe_str (pa_cons (pe_tup (pa_cons (pv 0) (paStar (K := K) (pv 2) pa_nil))) pa_nil)))))))))))), ?_⟩
  walk_at "rd"
  refine ask ⟨z, rfl, hz, fun H1 k1 => ?_⟩
  have hl1 := k1 _ _ hl (by simp)
  have it1 := it.keep0 k1
  have k01 : Keep [l] H H1 := k1.mono (by simp)
  walk_at "rd"
  refine ite2 (fun c => ?_) (fun c => ?_)
  · obtain ⟨n, en⟩ := Option.isSome_iff_exists.mp c
    have e : rdW z L = some (iN n, L) := by unfold rdW; rw [en]
    rw [e] at q
    have ei := fig_int en
    have zl : z.length ≤ 640 := by
      obtain ⟨a, rfl⟩ := figOf_mem en
      have := (nW_figs n a).1
      unfold figA at this
      rw [Bool.and_eq_true, decide_eq_true_eq, decide_eq_true_eq] at this
      omega
    walk_at "rd"
    refine r_intS ei zl ?_
    walk_at "rd"
    refine made fun p dx H2 np ndx nxd h2 hdx k2 => ⟨p, dx, "number", .int (n : Int), .int (n : Int), rfl, h2, .int _, fun H3 k3 i3 => ⟨rfl, ?_⟩⟩
    have lp : l ≠ p := ne_of_none hl1 np
    have hl2 := k2 _ _ hl1 (by simp)
    have hl3 := k3 _ _ hl2 (by simpa using lp)
    have k13 : Keep [] H1 H3 := k2.fresh1 k3 np
    exact q _ H3 xs (k01.trans (k13.mono (by simp))) i3 hl3 (it1.keep0 k13)
  have f : figOf z = none := by
    cases e : figOf z with
    | none => rfl
    | some n => rw [e] at c; exact absurd rfl c
  rw [rdW_at f] at q
  have sE := sqT_none (H := H1) T.ends
  walk_at "rd"
  refine ite2 (fun c => ?_) (fun c => ?_)
  · have c' := of_decide_eq_true (inV_strs c)
    have c2 : z = ")" ∨ z = "." := by simpa using c'
    rw [if_pos c2] at q
    walk_at "rd"
    refine made fun p dx H2 np ndx nxd h2 hdx k2 => ⟨p, dx, z, .non, .none, rfl, h2, .non, fun H3 k3 i3 => ⟨rfl, ?_⟩⟩
    have lp : l ≠ p := ne_of_none hl1 np
    have hl2 := k2 _ _ hl1 (by simp)
    have hl3 := k3 _ _ hl2 (by simpa using lp)
    have k13 : Keep [] H1 H3 := k2.fresh1 k3 np
    exact q _ H3 xs (k01.trans (k13.mono (by simp))) i3 hl3 (it1.keep0 k13)
  have c1 : ¬ (z = ")" ∨ z = ".") := fun y => by
    have := of_decide_eq_false (inV_strs (Bool.eq_false_iff.mpr c))
    exact this (by simpa using y)
  rw [if_neg c1] at q
  have sT := sqT_none (H := H1) T.things
  walk_at "rd"
  have dS : ∀ y : Str, (decide (V.str z = V.str y) = true) → z = y := fun y h => V.str.inj (of_decide_eq_true h)
  refine ite2 (fun c => ?_) (fun c => ?_)
  · have c2 := dS _ c
    rw [if_pos c2] at q
    walk_at "rd"
    refine ask ⟨l, L, xs, rfl, hl1, it1, L1, ?_⟩
    cases e : rdBody L with
    | none => rw [e] at q; exact fun H2 xs2 L2 k2 => q H2 xs2 L2 (k01.trans k2)
    | some r => rw [e] at q; exact fun v H2 xs2 k2 => q v H2 xs2 (k01.trans k2)
  rw [if_neg (fun y => c (by rw [y]; exact decide_eq_true rfl))] at q
  walk_at "rd"
  refine ite2 (fun c => ?_) (fun c => ?_)
  · have c2 := dS _ c
    rw [if_pos c2] at q
    walk_at "rd"
    refine ask ⟨l, L, xs, rfl, hl1, it1, L1, ?_⟩
    cases e : rdCall L with
    | none => rw [e] at q; exact fun H2 xs2 L2 k2 => q H2 xs2 L2 (k01.trans k2)
    | some r => rw [e] at q; exact fun v H2 xs2 k2 => q v H2 xs2 (k01.trans k2)
  rw [if_neg (fun y => c (by rw [y]; exact decide_eq_true rfl))] at q
  have hk := T.kinds z
  cases et : takesOf z with
  | none =>
    rw [et] at q hk
    walk_at "rd"
    refine r_inKd hk ?_
    walk_at "rd"
    exact q H1 xs L k01 hl1 it1
  | some ks =>
    rw [et] at q hk
    obtain ⟨a, hk, sa⟩ := hk
    have q : Answer K cI l H ((takeK ks L).map fun r => if isThing z = true then (iT (.tuple (.str (if z = "+" then "sum" else z) :: r.1)), r.2) else (iS (.tuple (.str z :: r.1)), r.2)) Q := q
    walk_at "rd"
    refine r_inKd hk ?_
    walk_at "rd"
    refine ite_t rfl ?_
    walk_at "rd"
    refine ⟨aD, z, .ref a, rfl, rfl, ⟨es, _, _, T.takes.at_, T.takes.lit, hk, rfl⟩, ?_⟩
    walk_at "rd"
    have lk : ks.length ≤ 3 := takes_len et
    refine ask ⟨l, a, ks, L, xs, rfl, hl1, it1, sqT_none sa, lk, L1, ?_⟩
    cases e1 : takeK ks L with
    | none =>
      rw [e1] at q
      intro H2 xs2 L2 k2 hl2 it2 _
      walk_at "rd"
      exact q H2 xs2 L2 (k01.trans k2) hl2 it2
    | some r =>
      rw [e1] at q
      intro b ys H2 xs2 k2 nb hb rys hl2 it2
      have sT2 := sqT_none (H := H2) T.things
      have lys : ys.length ≤ 3 := by rw [rys.length, (takeK_len e1).2]; exact lk
      walk_at "rd"
      refine ite2 (fun c => ?_) (fun c => ?_)
      · have c2 : isThing z = true := inV_strs c
        have q' : ∀ (v : V) (H' : Hp) (xs' : List V), Keep [l] H H' → ItAt K H' cI (iT (.tuple (.str (if z = "+" then "sum" else z) :: r.1))) v → H' l = some (.lst xs') → ItAts K H' cI r.2 xs' → Q v H' := by
          have q2 : Answer K cI l H (some (if isThing z = true then (iT (.tuple (.str (if z = "+" then "sum" else z) :: r.1)), r.2) else (iS (.tuple (.str z :: r.1)), r.2))) Q := q
          rw [if_pos c2] at q2
          exact q2
        have fin : ∀ (zz : Str), zz = (if z = "+" then ("sum" : Str) else z) → ∀ (g : Addr) (H3 : Hp), H2 g = none → H3 g = some (.tup (.str zz :: ys)) → Keep [] H2 H3 → Made cI (spItem K cI) [.str "thing", .ref g] H3 Q := fun zz ez g H3 ng hg k3 => by
          have hl3 := k3 _ _ hl2 (by simp)
          refine made fun p dx H4 np ndx nxd h4 hdx k4 => ?_
          have k24 : Keep [] H2 H4 := k3.trans k4
          refine ⟨p, dx, "thing", .ref g, .tuple (.str zz :: r.1), rfl, h4, .tup (SqT.of (k4 _ _ hg (by simp))) (.cons (.str _) (rys.ts (keep_ts0 k24))), fun H5 k5 i5 => ⟨rfl, ?_⟩⟩
          have lp : l ≠ p := ne_of_none hl3 np
          have hl5 := k5 _ _ (k4 _ _ hl3 (by simp)) (by simpa using lp)
          have np2 : H2 p = none := by
            cases e0 : H2 p with
            | none => rfl
            | some o => rw [k3 _ _ e0 (by simp)] at np; cases np
          have k25 : Keep [] H2 H5 := k24.fresh1 k5 np2
          rw [ez] at i5
          exact q' _ H5 xs2 ((k01.trans k2).trans (k25.mono (by simp))) i5 hl5 (it2.keep0 k25)
        walk_at "rd"
        refine ite2 (fun c3 => ?_) (fun c3 => ?_)
        · walk_at "rd"
          rw [List.append_nil]
          intro g H3 ng hg k3
          walk_at "rd"
          exact fin "sum" (if_pos (dS _ c3)).symm g H3 ng hg k3
        · walk_at "rd"
          rw [List.append_nil]
          intro g H3 ng hg k3
          walk_at "rd"
          exact fin z (if_neg (fun y => c3 (by rw [y]; exact decide_eq_true rfl))).symm g H3 ng hg k3
      · have c2 : isThing z = false := inV_strs (Bool.eq_false_iff.mpr c)
        have q' : ∀ (v : V) (H' : Hp) (xs' : List V), Keep [l] H H' → ItAt K H' cI (iS (.tuple (.str z :: r.1))) v → H' l = some (.lst xs') → ItAts K H' cI r.2 xs' → Q v H' := by
          have q2 : Answer K cI l H (some (if isThing z = true then (iT (.tuple (.str (if z = "+" then "sum" else z) :: r.1)), r.2) else (iS (.tuple (.str z :: r.1)), r.2))) Q := q
          rw [c2, if_neg Bool.false_ne_true] at q2
          exact q2
        walk_at "rd"
        rw [List.append_nil]
        intro g H3 ng hg k3
        have hl3 := k3 _ _ hl2 (by simp)
        walk_at "rd"
        refine made fun p dx H4 np ndx nxd h4 hdx k4 => ?_
        have k24 : Keep [] H2 H4 := k3.trans k4
        refine ⟨p, dx, "step", .ref g, .tuple (.str z :: r.1), rfl, h4, .tup (SqT.of (k4 _ _ hg (by simp))) (.cons (.str _) (rys.ts (keep_ts0 k24))), fun H5 k5 i5 => ⟨rfl, ?_⟩⟩
        have lp : l ≠ p := ne_of_none hl3 np
        have hl5 := k5 _ _ (k4 _ _ hl3 (by simp)) (by simpa using lp)
        have np2 : H2 p = none := by
          cases e0 : H2 p with
          | none => rfl
          | some o => rw [k3 _ _ e0 (by simp)] at np; cases np
        have k25 : Keep [] H2 H5 := k24.fresh1 k5 np2
        exact q' _ H5 xs2 ((k01.trans k2).trans (k25.mono (by simp))) i5 hl5 (it2.keep0 k25)
end
end
section
section
variable {P : Program} {w : World} {K : PySem.W.Frag} {mg : Str → Option Value} {base : Heap}
theorem rdW_len {z : Str} {L : List Itm} {r : Itm × List Itm} (h : rdW z L = some r) : r.2.length ≤ L.length := by
  cases f : figOf z with
  | some n => unfold rdW at h; rw [f] at h; cases h; exact Nat.le_refl _
  | none =>
    rw [rdW_at f] at h
    split at h
    · cases h; exact Nat.le_refl _
    split at h
    · unfold rdBody at h
      obtain ⟨r', e, rfl⟩ := Option.map_eq_some_iff.mp h
      exact Nat.le_trans (takeK_len e).1 takeAll_len
    split at h
    · unfold rdCall at h
      split at h
      · cases h
      · rename_i ns L1 e1
        obtain ⟨r', e, rfl⟩ := Option.map_eq_some_iff.mp h
        exact Nat.le_trans (takeK_len e).1 (Nat.le_trans takeAll_len (takeK_len e1).1)
    · split at h
      · cases h
      · obtain ⟨r', e, rfl⟩ := Option.map_eq_some_iff.mp h
        have := (takeK_len e).1
        split <;> exact this
theorem rdWs_len : ∀ {ws : List Str} {L L' : List Itm}, rdWs ws L = some L' → L'.length ≤ L.length + ws.length
  | [], L, L', h => by cases h; exact Nat.le_refl _
  | w :: ws, L, L', h => by
    have h' : (rdW w L).bind (fun r => rdWs ws (r.1 :: r.2)) = some L' := h
    obtain ⟨r, e, h2⟩ := Option.bind_eq_some_iff.mp h'
    have a := rdW_len e
    have b := rdWs_len h2
    rw [List.length_cons] at b ⊢
    omega
/-- the work of a line's words -/
noncomputable def rdWk (ws : List Str) : Option PyData := match rdWs ws.reverse [] with
  | none => none
  | some L => match takeK ["number", "number"] L with
    | none => none
    | some r => if (takeAll "step" r.2).2 = [] then some (.tuple [r.1.headD .none, r.1.getD 1 .none, .tuple (takeAll "step" r.2).1]) else none
theorem rdWk_wk {wk : Wk} (h1 : wk.params < 100) (h2 : wk.owns < 100) (h : wk.body.low) : rdWk wk.words = some wk.enc := by
  unfold rdWk
  rw [rd_wk h1 h2 h]
  show (match takeK ["number", "number"] (iN wk.params :: iN wk.owns :: wk.body.itms) with | none => none | some r => _) = _
  rw [take_self (by decide +kernel), take_self (by decide +kernel)]
  have e := all_sts (L := []) (fun x L' e => by cases e) (b := wk.body)
  rw [List.append_nil] at e
  show (if (takeAll "step" wk.body.itms).2 = [] then some (PyData.tuple [.int (wk.params : Int), .int (wk.owns : Int), .tuple (takeAll "step" wk.body.itms).1]) else none) = _
  rw [e]
  exact if_pos rfl
theorem rdWs_none {ws : List Str} {i : Nat} {z : Str} {L : List Itm} (ez : ws[i]? = some z) (e : rdWs (ws.take i) [] = some L) (n : rdW z L = none) : rdWs ws [] = none := by
  have d : ws = ws.take i ++ (z :: ws.drop (i + 1)) := by
    have hi := (List.getElem?_eq_some_iff.mp ez).1
    have := List.drop_eq_getElem_cons hi
    rw [(List.getElem?_eq_some_iff.mp ez).2] at this
    rw [← this, List.take_append_drop]
  rw [d, rdWs_app, e]
  show (rdW z L).bind _ = none
  rw [n]
  rfl
theorem rdWs_next {ws : List Str} {i : Nat} {z : Str} {L : List Itm} {r : Itm × List Itm} (ez : ws[i]? = some z) (e : rdWs (ws.take i) [] = some L) (n : rdW z L = some r) : rdWs (ws.take (i + 1)) [] = some (r.1 :: r.2) := by
  rw [List.take_succ, ez, rdWs_app, e]
  show rdWs [z] L = _
  rw [rdWs_one, n]
  rfl
theorem rev_at {ws : List Str} {i : Nat} {x : V} (hi : i < (vws' ws).length) (h : (vws' ws)[(vws' ws).length - 1 - i]? = some x) : ∃ z, x = .str z ∧ ws.reverse[i]? = some z ∧ z ∈ ws := by
  have e : (vws' ws).length = ws.length := List.length_map _
  rw [e] at h hi
  rw [show (vws' ws)[ws.length - 1 - i]? = (ws[ws.length - 1 - i]?).map V.str from List.getElem?_map ..] at h
  obtain ⟨z, e1, e2⟩ := Option.map_eq_some_iff.mp h
  exact ⟨z, e2.symm, by rw [List.getElem?_reverse hi]; exact e1, List.mem_of_getElem? e1⟩
noncomputable def spReadWork (K : PySem.W.Frag) : Sp := fun vs H Q _ => ∃ (a : Addr) (ws : List Str), vs = [.ref a] ∧ H a = some (.lst (vws' ws)) ∧ (∀ z ∈ ws, z.length ≤ 100000) ∧ ws.length ≤ 100000 ∧
  match rdWk ws with
  | some d => ∀ (v : V) (H' : Hp), Keep [] H H' → Rp K H' v d → (∃ p, v = .ref p) → Q v H'
  | none => ∀ H', Keep [] H H' → Q .non H'
noncomputable abbrev sread_work : Stmt := top 33
noncomputable abbrev nread_work : List Str := ["words", "items", "word", "item", "head", "steps"]
noncomputable abbrev pread_work : List Str := ["words"]
theorem scread_work : FnScope nread_work pread_work (defScope sread_work) := ⟨rfl, rfl, rfl, by decide +kernel, rfl, by decide +kernel, by decide +kernel⟩
theorem okReadWork {tk : Nat → Tok} {aT aE aD : Addr} {es : Array DictEntry} {n : Nat} {cI : Addr} (D : DefAt K mg "read_work" sread_work pread_work) (T : Nts K w tk mg aT aE aD es n) (C_read_word : Callee P w K mg base "read_word" 4 pread_word (spReadWord K cI)) (C_taken : Callee P w K mg base "taken" 2 ptaken (spTakenK K cI)) (C_taken_all : Callee P w K mg base "taken_all" 2 ptaken_all (spTakenAll K cI)) : Callee P w K mg base "read_work" 5 pread_work (spReadWork K) := by
  refine D.ok scread_work (fun vs H Q E h => ?_) (fun f cdv A outer s H vs Q E hr h => ?_)
  · obtain ⟨a, ws, rfl, _⟩ := h
    rfl
  obtain ⟨a, ws, rfl, hS, hw, hn, q⟩ := h
  refine ⟨_, (pss_cons (ps_set (i := 1) scread_work.nd rfl (Or.inl rfl) (pe_lst pa_nil))
  (pss_cons (ps_for PassesOwn.never rfl (piRevL (K := K) rfl T.reversed (pv 0)) (pg_name (i := 2) scread_work.nd rfl (Or.inl rfl))
   (pss_cons (ps_set (i := 3) scread_work.nd rfl (Or.inl rfl) (pcall C_read_word (hr.mono (by first | exact Nat.le_of_ble_eq_true rfl | omega)) rfl (pa_cons (pv 2) (pa_cons (pv 1) pa_nil))))
  (pss_cons (ps_if (pt_cmpR op_isN1 (pv 3) pe_non (nomark _)) (pss_one (ps_ret pe_non)) pss_nil)
  (pss_one (ps_expr (peApp (K := K) (pv 1) (pv 3)))))))
  (pss_cons (ps_set (i := 4) scread_work.nd rfl (Or.inl rfl) (pcall C_taken (hr.mono (by first | exact Nat.le_of_ble_eq_true rfl | omega)) rfl (pa_cons (pv 1) (pa_cons (pe_tup (pa_cons pe_str (pa_cons pe_str pa_nil))) pa_nil))))
  (pss_cons (ps_set (i := 5) scread_work.nd rfl (Or.inl rfl) (pcall C_taken_all (hr.mono (by first | exact Nat.le_of_ble_eq_true rfl | omega)) rfl (pa_cons (pv 1) (pa_cons pe_str pa_nil))))
  (pss_cons (ps_if (PW.pt (pw_or (pt_cmpR op_isN1 (pv 4) pe_non (nomark _)) (pw_or1 (ptTruL (K := K) (pv 1))))) (pss_one (ps_ret pe_non)) pss_nil)
  (pss_one (ps_ret (pe_tup (pa_cons (pe_ix (ixL (K := K)) (pv 4) pe_int (fun _ _ => rfl)) (pa_cons (pe_ix (ixL (K := K)) (pv 4) pe_int (fun _ _ => rfl)) (pa_cons (pv 5) pa_nil))))))))))), ?_⟩
  walk_at "rd"
  intro b H1 nb hb k1
  have hS1 := k1 _ _ hS (by simp)
  have ab : a ∉ [b] := by rw [List.mem_singleton]; exact ne_of_none hS nb
  have tsb : ∀ {H2 : Hp}, Keep [b] H1 H2 → Tst H1 H2 := fun k => k.ts fun x hx => by cases List.mem_singleton.mp hx; exact .inl ⟨_, hb⟩
  have out : ∀ {H2 : Hp}, Keep [b] H1 H2 → Keep [] H H2 := fun k => k1.fresh1 k nb
  have lw : (vws' ws).length = ws.length := List.length_map _
  walk_at "rd"
  refine forV (xs := vws' ws) (fun i σ H' => ∃ (x2 x3 : Option V) (L : List Itm) (xs : List V), σ = [some (.ref a), some (.ref b), x2, x3, none, none] ∧ Keep [b] H1 H' ∧ H' b = some (.lst xs) ∧ ItAts K H' cI L xs ∧ rdWs (ws.reverse.take i) [] = some L) ⟨_, _, [], [], rfl, Keep.refl, hb, .nil, rfl⟩ (fun i σ H' _ hp => ?_) (fun i x σ H2 hi hx hp => ?_) (fun σ H' hp => ?_)
  · obtain ⟨_, _, _, _, rfl, k, _⟩ := hp
    exact SqL.of (k _ _ hS1 ab)
  · obtain ⟨x2, x3, L, xs, rfl, k2, hb2, it2, el⟩ := hp
    obtain ⟨z, rfl, ez, mz⟩ := rev_at hi hx
    have ll := rdWs_len el
    rw [List.length_take, List.length_reverse] at ll
    have l1 : L.length ≤ 100000 := by simp only [List.length_nil] at ll; omega
    have lx := it2.len
    walk_at "rd"
    refine ask ⟨z, b, L, xs, rfl, hw z mz, hb2, it2, l1, ?_⟩
    cases e : rdW z L with
    | none =>
      have er : rdWk ws = none := by unfold rdWk; rw [rdWs_none ez el e]
      rw [er] at q
      intro H3 xs3 L3 k3 hb3 it3
      walk_at "rd"
      exact q H3 (out (k2.trans k3))
    | some r =>
      have en := rdWs_next ez el e
      have l3 := rdW_len e
      intro v H3 xs3 k3 iv hb3 it3
      have iv0 := iv
      obtain ⟨p, dx, tv, rfl, _⟩ := iv0
      have lx3 := it3.len
      have lt : xs3.length ≤ 100000 := by omega
      walk_at "rd"
      intro H4 h4 k4
      walk_at "rd"
      exact ⟨_, _, r.1 :: r.2, xs3 ++ [.ref p], rfl, (k2.trans k3).trans k4, h4, .cons (iv.ts hb3 k4) (it3.ts hb3 k4), en⟩
  · obtain ⟨x2, x3, L, xs, rfl, k2, hb2, it2, el⟩ := hp
    have ll := rdWs_len el
    rw [List.take_of_length_le (by rw [lw, List.length_reverse]; exact Nat.le_refl _)] at el ll
    rw [List.length_reverse, List.length_nil] at ll
    have l1 : L.length ≤ 100000 := by omega
    walk_at "rd"
    intro c H3 nc hc k3
    have hb3 := k3 _ _ hb2 (by simp)
    have it3 := it2.keep0 k3
    have k13 : Keep [b] H1 H3 := k2.trans (k3.mono (by simp))
    walk_at "rd"
    refine ask ⟨b, c, ["number", "number"], L, xs, rfl, hb3, it3, SqT.of hc, by decide, l1, ?_⟩
    cases e1 : takeK ["number", "number"] L with
    | none =>
      have er : rdWk ws = none := by unfold rdWk; rw [el]; show (match takeK ["number", "number"] L with | none => none | some r => _) = _; rw [e1]
      rw [er] at q
      intro H4 xs4 L4 k4 hb4 it4 lL
      walk_at "rd"
      refine ask ⟨b, "step", L4, xs4, rfl, hb4, it4, by omega, fun t ys H5 xs5 k5 nt st rys hb5 it5 => ?_⟩
      walk_at "rd"
      refine r_or ?_
      walk_at "rd"
      exact q H5 (out ((k13.trans k4).trans k5))
    | some r =>
      obtain ⟨len, ln⟩ := takeK_len e1
      obtain ⟨ns, L2⟩ := r
      have len : L2.length ≤ L.length := len
      obtain ⟨n0, n1, rfl⟩ : ∃ n0 n1, ns = [n0, n1] := by
        match ns, ln with
        | [n0, n1], _ => exact ⟨n0, n1, rfl⟩
      have er : rdWk ws = if (takeAll "step" L2).2 = [] then some (.tuple [n0, n1, .tuple (takeAll "step" L2).1]) else none := by unfold rdWk; rw [el]; show (match takeK ["number", "number"] L with | none => none | some r => _) = _; rw [e1]; rfl
      rw [er] at q
      intro h zs H4 xs4 k4 nh hh rz hb4 it4
      obtain ⟨z0, z1, rfl⟩ : ∃ z0 z1, zs = [z0, z1] := by
        cases rz with
        | cons a r => cases r with
          | cons a r => cases r; exact ⟨_, _, rfl⟩
      have rz0 : Rp K H4 z0 n0 := by cases rz; assumption
      have rz1 : Rp K H4 z1 n1 := by cases rz with | cons a r => cases r; assumption
      have bh : h ∉ [b] := by rw [List.mem_singleton]; exact fun z => by rw [z, hb3] at nh; cases nh
      walk_at "rd"
      refine ask ⟨b, "step", L2, xs4, rfl, hb4, it4, by omega, fun t ys H5 xs5 k5 nt st rys hb5 it5 => ?_⟩
      have hh5 := k5 _ _ hh bh
      have t45 : Tst H4 H5 := k5.ts fun x hx => by cases List.mem_singleton.mp hx; exact .inl ⟨_, hb4⟩
      have k15 := (k13.trans k4).trans k5
      walk_at "rd"
      refine r_or ?_
      walk_at "rd"
      generalize takeAll "step" L2 = tl at *
      obtain ⟨ds, L5⟩ := tl
      have it5' : ItAts K H5 cI L5 xs5 := it5
      cases it5' with
      | nil =>
        have q2 : ∀ (v : V) (H' : Hp), Keep [] H H' → Rp K H' v (.tuple [n0, n1, .tuple ds]) → (∃ p, v = .ref p) → Q v H' := by
          rw [if_pos rfl] at q
          exact q
        walk_at "rd"
        intro g H6 ng hg k6
        refine q2 _ H6 ((out k15).trans k6) (.tup (SqT.of hg) (.cons ((rz0.ts t45).ts (keep_ts0 k6)) (.cons ((rz1.ts t45).ts (keep_ts0 k6)) (.cons ((Rp.tup st rys).ts (keep_ts0 k6)) .nil)))) ⟨g, rfl⟩
      | @cons y v L6 xs6 iy it6 =>
        have ne : (xs6 ++ [v]).isEmpty = false := by cases xs6 <;> rfl
        rw [ne]
        walk_at "rd"
        rw [if_neg (by simp)] at q
        exact q H5 (out k15)
end
end
section
section
variable {P : Program} {w : World} {K : PySem.W.Frag} {mg : Str → Option Value} {base : Heap}
theorem rdWk_sound {ws : List Str} {d : PyData} (h : rdWk ws = some d) : IsLine ws d := by
  unfold rdWk at h
  split at h
  · cases h
  · rename_i L e
    have it := rdWs_sound e .nil
    rw [List.reverse_reverse, List.append_nil] at it
    split at h
    · cases h
    · rename_i r e2
      obtain ⟨x, L1, r1, rfl, c1, e3, rfl⟩ := takeK_cons e2
      obtain ⟨y, L2, r2, rfl, c2, e4, rfl⟩ := takeK_cons e3
      cases e4
      split at h
      · rename_i c
        cases h
        generalize hws : ws = ws0 at it
        cases it with
        | @cons _ _ a1 b1 hx h1 =>
          cases h1 with
          | @cons _ _ a2 b2 hy h2 =>
            obtain ⟨p, p1, p2, rfl⟩ := it_num hx c1
            obtain ⟨o, o1, o2', rfl⟩ := it_num hy c2
            obtain ⟨bd, b, s1, s2, s3, s4⟩ := all_steps h2
            have s3' : ItWs (takeAll "step" L2).2 b := s3
            have c' : (takeAll "step" L2).2 = [] := c
            rw [c'] at s3'
            cases s3'
            refine ⟨⟨p, o, bd⟩, p1, o1, s1, ?_, ?_⟩
            · unfold Wk.words
              rw [s4, List.append_nil]
              rfl
            · unfold Wk.enc
              show PyData.tuple [.int (p : Int), .int (o : Int), .tuple bd.encs] = .tuple [toldAs x "number", toldAs y "number", .tuple (takeAll "step" L2).1]
              rw [p2, o2', s2]
      · cases h
theorem rdWk_iff {ws : List Str} {d : PyData} : rdWk ws = some d ↔ IsLine ws d := by
  refine ⟨rdWk_sound, ?_⟩
  rintro ⟨wk, h1, h2, h3, rfl, rfl⟩
  exact rdWk_wk h1 h2 h3
/-- what the law's reader tells of a line is what the program's tells -/
theorem ll_rdWk {n m f : Nat} {ws : List Str} {r : Option PyData} (h : llF n m f ws = some r) : r = rdWk ws := by
  cases e : rdWk ws with
  | some d => exact (ll_iff h d).mpr (rdWk_sound e)
  | none =>
    cases r with
    | none => rfl
    | some d =>
      have := rdWk_iff.mpr ((ll_iff h d).mp rfl)
      rw [e] at this
      cases this
end
end
section
section
variable {P : Program} {w : World} {K : PySem.W.Frag} {mg : Str → Option Value} {base : Heap}
noncomputable def itemD (d : PyData) (k : Nat) : PyData := match d with
  | .tuple ds => ds.getD k .none
  | _ => .none
mutual
noncomputable def Hh : PyData → Prop
  | .tuple ds => headOk (.tuple ds) ∧ Hhs ds
  | _ => True
noncomputable def Hhs : List PyData → Prop
  | [] => True
  | d :: ds => Hh d ∧ Hhs ds
end
theorem Hhs.mem : ∀ {ds : List PyData} {d : PyData}, Hhs ds → d ∈ ds → Hh d
  | d :: ds, x, h, m => by
    unfold Hhs at h
    rcases List.mem_cons.mp m with rfl | m
    · exact h.1
    · exact Hhs.mem h.2 m
theorem Hh.head {d : PyData} (h : Hh d) : headOk d := by
  cases d with
  | tuple ds => unfold Hh at h; exact h.1
  | _ => trivial
theorem Hh.items {ds : List PyData} (h : Hh (.tuple ds)) : Hhs ds := by unfold Hh at h; exact h.2
theorem Hh.item {d : PyData} (h : Hh d) (k : Nat) : Hh (itemD d k) := by
  cases d with
  | tuple ds =>
    show Hh (ds.getD k .none)
    rw [List.getD_eq_getElem?_getD]
    cases e : ds[k]? with
    | none => show Hh .none; unfold Hh; trivial
    | some x => exact h.items.mem (List.mem_of_getElem? e)
  | _ => show Hh .none; unfold Hh; trivial
theorem eqv_str {d : PyData} {x : Str} (h : PyData.eqv d (.str x) = true) : d = .str x := by
  cases d with
  | str y =>
    have e : (y == x) = true := h
    rw [eq_of_beq e]
  | _ => first | cases h | (unfold PyData.eqv at h; cases h)
theorem shaped_str {x : Str} {k : Int} {d : PyData} (h : shapedD (.str x) k d = true) : ∃ ds, d = .tuple (.str x :: ds) ∧ ((ds.length + 1 : Nat) : Int) = k := by
  cases d with
  | tuple ds =>
    have e : (decide ((ds.length : Int) = k) && ((ds.head?.map fun d => PyData.eqv d (.str x)).getD false)) = true := h
    rw [Bool.and_eq_true] at e
    cases ds with
    | nil => exact absurd e.2 (by simp)
    | cons d0 ds =>
      have e2 : PyData.eqv d0 (.str x) = true := e.2
      rw [eqv_str e2]
      exact ⟨ds, rfl, of_decide_eq_true e.1⟩
  | _ => cases h
/-- what is of that shape lies there as a tuple -/
theorem shaped_at {H : Hp} {v : V} {d wd : PyData} {k : Int} (hR : Rp K H v d) (e : shapedD wd k d = true) : ∃ (p : Addr) (xs : List V), v = .ref p ∧ SqT K H p xs ∧ (xs.length : Int) = k ∧ ∀ i : Nat, i < xs.length → ∃ x, atI xs (i : Int) = some x ∧ Rp K H x (itemD d i) := by
  cases d with
  | tuple ds =>
    have e1 : (decide ((ds.length : Int) = k) && ((ds.head?.map fun d => PyData.eqv d wd).getD false)) = true := e
    have e2 : (ds.length : Int) = k := of_decide_eq_true (Bool.and_eq_true_iff.mp e1).1
    obtain ⟨p, xs, rfl, hT, hx⟩ := hR.tup_inv
    have l := hx.length
    refine ⟨p, xs, rfl, hT, by omega, fun i hi => ?_⟩
    have ed : ds[i]? = some ds[i] := List.getElem?_eq_getElem (by omega)
    obtain ⟨x, ex, rx⟩ := hx.get ed
    refine ⟨x, atI_nat ex, ?_⟩
    show Rp K H x (ds.getD i .none)
    rw [List.getD_eq_getElem?_getD, ed]
    exact rx
  | _ => cases e
/-- a thing of a work, within so many more others -/
noncomputable def okTh (ps os : Int) : Nat → PyData → Bool
  | 0, _ => false
  | n + 1, d => if shapedD (.str "sum") 3 d = true then okTh ps os n (itemD d 1) && okTh ps os n (itemD d 2) else if shapedD (.str "cell") 2 d = true then okTh ps os n (itemD d 1) else plainD ps os d
theorem plain_str' {ps os : Int} {d : PyData} (h : plainD ps os d = true) : ∃ x ds, d = .tuple (.str x :: ds) := by
  unfold plainD at h
  split at h
  · rename_i c; obtain ⟨ds, e, _⟩ := shaped_str c; exact ⟨_, ds, e⟩
  split at h
  · rename_i c; obtain ⟨ds, e, _⟩ := shaped_str c; exact ⟨_, ds, e⟩
  · rw [Bool.and_eq_true] at h; obtain ⟨ds, e, _⟩ := shaped_str h.1; exact ⟨_, ds, e⟩
theorem okTh_str {ps os : Int} : ∀ {n : Nat} {d : PyData}, okTh ps os n d = true → ∃ x ds, d = .tuple (.str x :: ds)
  | 0, d, h => by cases h
  | n + 1, d, h => by
    unfold okTh at h
    split at h
    · rename_i c; obtain ⟨ds, e, _⟩ := shaped_str c; exact ⟨_, ds, e⟩
    split at h
    · rename_i c; obtain ⟨ds, e, _⟩ := shaped_str c; exact ⟨_, ds, e⟩
    · exact plain_str' h
noncomputable def spNeedThingX (K : PySem.W.Frag) (cB : Addr) (n : Nat) : Sp := fun vs H Q E => ∃ (wp : Addr) (v b : V) (d : PyData) (ps os : Int) (i : Nat), vs = [.ref wp, v, .int (i : Int)] ∧ SqT K H wp [.int ps, .int os, b] ∧ Rp K H v d ∧ Hh d ∧ i ≤ 5 ∧ 6 ≤ n + i ∧
  (okTh ps os (5 - i) d = true → Q .non H) ∧ (okTh ps os (5 - i) d = false → E (.ref cB) none H)
theorem okNeedThingX {tk : Nat → Tok} {cB : Addr} (D : DefAt K mg "need_thing" sneed_thing pneed_thing) (T : Nrs tk mg) (E_BadProgram : ExcAt K mg "BadProgram" cB) (C_is_shaped : Callee P w K mg base "is_shaped" 1 pis_shaped (spIsShaped K))
    (C_is_plain : Callee P w K mg base "is_plain" 3 pis_plain (spIsPlain K)) : ∀ n : Nat, CalleeX P w K mg base "need_thing" (n + 4) pneed_thing (spNeedThingX K cB n)
  | 0 => D.noneX fun vs H Q E h => by
    obtain ⟨wp, v, b, d, ps, os, i, rfl, _, _, _, h1, h2, _⟩ := h
    omega
  | n + 1 => by
    have C_need_thing := okNeedThingX D T E_BadProgram C_is_shaped C_is_plain n
    refine D.okX scneed_thing (fun vs H Q E h => ?_) (fun f cdv A outer s H vs Q E hr h => ?_)
    · obtain ⟨wp, v, b, d, ps, os, i, rfl, _⟩ := h
      rfl
    obtain ⟨wp, v, b, d, ps, os, i, rfl, hW, hR, hh, i5, ni, q, qe⟩ := h
    refine ⟨_, (pss_cons (ps_if (pt_cmpR op_gt (pv 2) (pe_glob (v := .int 4) rfl T.MOST_OTHERS ⟨_, rfl⟩) (nomark _)) (pss_one (psRaise (K := K) (mg := mg) E_BadProgram (takes_of rfl rfl rfl rfl) rfl)) pss_nil)
  (pss_one (ps_if (pt_val (pcall C_is_shaped (hr.mono (by first | exact Nat.le_of_ble_eq_true rfl | omega)) rfl (pa_cons (pv 1) (pa_cons pe_str (pa_cons pe_int pa_nil))))) (pss_cons (ps_expr (pcallX C_need_thing (takes_of rfl rfl rfl rfl) (hr.mono (by first | exact Nat.le_of_ble_eq_true rfl | omega)) rfl (pa_cons (pv 0) (pa_cons (pe_ix (ixT (K := K)) (pv 1) pe_int (fun _ _ => rfl)) (pa_cons (pe_op op_add (pv 2) pe_int) pa_nil)))))
  (pss_one (ps_expr (pcallX C_need_thing (takes_of rfl rfl rfl rfl) (hr.mono (by first | exact Nat.le_of_ble_eq_true rfl | omega)) rfl (pa_cons (pv 0) (pa_cons (pe_ix (ixT (K := K)) (pv 1) pe_int (fun _ _ => rfl)) (pa_cons (pe_op op_add (pv 2) pe_int) pa_nil))))))) (pss_one (ps_if (pt_val (pcall C_is_shaped (hr.mono (by first | exact Nat.le_of_ble_eq_true rfl | omega)) rfl (pa_cons (pv 1) (pa_cons pe_str (pa_cons pe_int pa_nil))))) (pss_one (ps_expr (pcallX C_need_thing (takes_of rfl rfl rfl rfl) (hr.mono (by first | exact Nat.le_of_ble_eq_true rfl | omega)) rfl (pa_cons (pv 0) (pa_cons (pe_ix (ixT (K := K)) (pv 1) pe_int (fun _ _ => rfl)) (pa_cons (pe_op op_add (pv 2) pe_int) pa_nil)))))) (pss_one (ps_if (pt_not (pt_val (pcall C_is_plain (hr.mono (by first | exact Nat.le_of_ble_eq_true rfl | omega)) rfl (pa_cons (pv 0) (pa_cons (pv 1) pa_nil))))) (pss_one (psRaise (K := K) (mg := mg) E_BadProgram (takes_of rfl rfl rfl rfl) rfl)) pss_nil))))))), ?_⟩
    walk_at "rd"
    refine ite2 (fun c => ?_) (fun c => ?_)
    · have := of_decide_eq_true c
      have e : i = 5 := by omega
      subst e
      walk_at "rd"
      exact r_raise (qe rfl)
    have i4 : i ≤ 4 := by
      have : ¬ (4 : Int) < (i : Int) := fun z => c (decide_eq_true z)
      omega
    have e5 : 5 - i = (4 - i) + 1 := by omega
    have e4 : 5 - (i + 1) = 4 - i := by omega
    rw [e5] at q qe
    unfold okTh at q qe
    walk_at "rd"
    refine ask ⟨v, d, "sum", 3, rfl, hR.dp, hh.head, by decide +kernel, by decide, ?_⟩
    walk_at "rd"
    refine cases_b (shapedD (.str "sum") 3 d) (fun c1 => ?_) (fun c1 => ?_)
    · rw [if_pos c1] at q qe
      obtain ⟨p, xs, rfl, hT, l, hx⟩ := shaped_at hR c1
      obtain ⟨x1, a1, r1⟩ := hx 1 (by omega)
      obtain ⟨x2, a2, r2⟩ := hx 2 (by omega)
      have a1' : atI xs 1 = some x1 := a1
      have a2' : atI xs 2 = some x2 := a2
      rw [c1, if_pos rfl]
      walk_at "rd"
      refine r_callS ?_
      walk_at "rd"
      refine ask ⟨wp, x1, b, itemD d 1, ps, os, i + 1, by rw [Int.natCast_add]; rfl, hW, r1, hh.item 1, by omega, by omega, fun k1 => ?_, fun k1 => qe ?_⟩
      case refine_2 => rw [e4] at k1; rw [k1]; rfl
      walk_at "rd"
      refine r_callS ?_
      walk_at "rd"
      refine ask ⟨wp, x2, b, itemD d 2, ps, os, i + 1, by rw [Int.natCast_add]; rfl, hW, r2, hh.item 2, by omega, by omega, fun k2 => ?_, fun k2 => qe ?_⟩
      case refine_2 => rw [e4] at k2; rw [k2, Bool.and_false]
      walk_at "rd"
      rw [e4] at k1 k2
      exact q (by rw [k1, k2]; rfl)
    · rw [if_neg (by rw [c1]; exact Bool.false_ne_true)] at q qe
      rw [c1, if_neg Bool.false_ne_true]
      walk_at "rd"
      refine ask ⟨v, d, "cell", 2, rfl, hR.dp, hh.head, by decide +kernel, by decide, ?_⟩
      walk_at "rd"
      refine cases_b (shapedD (.str "cell") 2 d) (fun c2 => ?_) (fun c2 => ?_)
      · rw [if_pos c2] at q qe
        obtain ⟨p, xs, rfl, hT, l, hx⟩ := shaped_at hR c2
        obtain ⟨x1, a1, r1⟩ := hx 1 (by omega)
        have a1' : atI xs 1 = some x1 := a1
        rw [c2, if_pos rfl]
        walk_at "rd"
        refine r_callS ?_
        walk_at "rd"
        refine ask ⟨wp, x1, b, itemD d 1, ps, os, i + 1, by rw [Int.natCast_add]; rfl, hW, r1, hh.item 1, by omega, by omega, fun k1 => ?_, fun k1 => qe ?_⟩
        case refine_2 => rw [e4] at k1; exact k1
        walk_at "rd"
        rw [e4] at k1
        exact q k1
      · rw [if_neg (by rw [c2]; exact Bool.false_ne_true)] at q qe
        rw [c2, if_neg Bool.false_ne_true]
        walk_at "rd"
        refine ask ⟨wp, v, b, d, ps, os, rfl, hW, hR.dp, hh.head, ?_⟩
        walk_at "rd"
        refine cases_b (plainD ps os d) (fun c3 => ?_) (fun c3 => ?_)
        · rw [c3]
          walk_at "rd"
          exact q c3
        · rw [c3]
          walk_at "rd"
          exact r_raise (qe c3)
noncomputable def placeD : PyData → Bool
  | .tuple (.str x :: _) => inV (.str x) [.str "cell", .str "own", .str "par"]
  | _ => false
noncomputable def spNeedPlaceX (K : PySem.W.Frag) (cB : Addr) : Sp := fun vs H Q E => ∃ (wp : Addr) (v b : V) (d : PyData) (ps os : Int), vs = [.ref wp, v] ∧ SqT K H wp [.int ps, .int os, b] ∧ Rp K H v d ∧ Hh d ∧
  ((okTh ps os 5 d && placeD d) = true → Q .non H) ∧ ((okTh ps os 5 d && placeD d) = false → E (.ref cB) none H)
theorem okNeedPlaceX {tk : Nat → Tok} {aP aW cB : Addr} (D : DefAt K mg "need_place" sneed_place pneed_place) (T : Cst K tk aP aW mg) (E_BadProgram : ExcAt K mg "BadProgram" cB) (C_need_thing : CalleeX P w K mg base "need_thing" 10 pneed_thing (spNeedThingX K cB 6)) :
    CalleeX P w K mg base "need_place" 11 pneed_place (spNeedPlaceX K cB) := by
  refine D.okX scneed_place (fun vs H Q E h => ?_) (fun f cdv A outer s H vs Q E hr h => ?_)
  · obtain ⟨wp, v, b, d, ps, os, rfl, _⟩ := h
    rfl
  obtain ⟨wp, v, b, d, ps, os, rfl, hW, hR, hh, q, qe⟩ := h
  refine ⟨_, (pss_cons (ps_expr (pcallX C_need_thing (takes_of rfl rfl rfl rfl) (hr.mono (by first | exact Nat.le_of_ble_eq_true rfl | omega)) rfl (pa_cons (pv 0) (pa_cons (pv 1) (pa_cons pe_int pa_nil)))))
  (pss_one (ps_if (pt_cmpR (opNotIn (K := K)) (pe_ix (ixT (K := K)) (pv 1) pe_int (fun _ _ => rfl)) (pe_glob (v := .ref _) rfl T.PLACES rfl) (by with_unfolding_all rfl)) (pss_one (psRaise (K := K) (mg := mg) E_BadProgram (takes_of rfl rfl rfl rfl) rfl)) pss_nil))), ?_⟩
  walk_at "rd"
  refine r_callS ?_
  walk_at "rd"
  refine ask ⟨wp, v, b, d, ps, os, 0, rfl, hW, hR, hh, by omega, by omega, fun k1 => ?_, fun k1 => qe ?_⟩
  case refine_2 => rw [show okTh ps os 5 d = false from k1]; rfl
  have k1' : okTh ps os 5 d = true := k1
  obtain ⟨x, ds, rfl⟩ := okTh_str k1'
  obtain ⟨p, xs, rfl, hT, hx⟩ := hR.tup_inv
  obtain ⟨v0, r, rfl, h0, _⟩ := hx.inv
  cases h0.str_inv
  have hP : SqT K H aP [.str "cell", .str "own", .str "par"] := sqT_of_none T.sqP
  have at0 : atI (V.str x :: r) 0 = some (.str x) := atI_nat (xs := .str x :: r) (j := 0) rfl
  walk_at "rd"
  have e : placeD (.tuple (.str x :: ds)) = inV (.str x) [.str "cell", .str "own", .str "par"] := rfl
  rw [k1', e, Bool.true_and] at q qe
  refine cases_b (inV (V.str x) [.str "cell", .str "own", .str "par"]) (fun c => ?_) (fun c => ?_)
  · rw [if_pos rfl, c]
    walk_at "rd"
    exact q c
  · rw [if_pos rfl, c]
    walk_at "rd"
    exact r_raise (qe c)
end
end
section
section
variable {P : Program} {w : World} {K : PySem.W.Frag} {mg : Str → Option Value} {base : Heap}
noncomputable def shOf (sh : List (Nat × Nat)) (i : Nat) : Nat × Nat := sh.getD i (0, 0)
/-- a thing of the work at i -/
noncomputable def okT (sh : List (Nat × Nat)) (i : Nat) (d : PyData) : Bool := okTh ((shOf sh i).1 : Int) ((shOf sh i).2 : Int) 5 d
noncomputable def callD (sh : List (Nat × Nat)) (i : Nat) (dc dt : PyData) : Bool := match dc, dt with
  | .int c, .tuple ts => (decide (0 ≤ c) && decide (c < (sh.length : Int))) && (decide ((i : Int) < c) && (decide (ts.length = (shOf sh c.toNat).1) && ts.all (okT sh i)))
  | _, _ => false
theorem callD_tup {sh : List (Nat × Nat)} {i : Nat} {c : Int} {ts : List PyData} : callD sh i (.int c) (.tuple ts) = ((decide (0 ≤ c) && decide (c < (sh.length : Int))) && (decide ((i : Int) < c) && (decide (ts.length = (shOf sh c.toNat).1) && ts.all (okT sh i)))) := rfl
noncomputable def bodyD (f : PyData → Bool) : PyData → Bool
  | .tuple ss => ss.all f
  | _ => false
noncomputable def okSt (sh : List (Nat × Nat)) (i : Nat) : Nat → PyData → Bool
  | 0, _ => false
  | n + 1, d => if shapedD (.str "set") 3 d = true then (okT sh i (itemD d 1) && placeD (itemD d 1)) && okT sh i (itemD d 2)
    else if shapedD (.str "say") 2 d = true then okT sh i (itemD d 1)
    else if shapedD (.str "if") 4 d = true then okT sh i (itemD d 1) && (bodyD (okSt sh i n) (itemD d 2) && bodyD (okSt sh i n) (itemD d 3))
    else shapedD (.str "call") 3 d && callD sh i (itemD d 1) (itemD d 2)
noncomputable def cntB (f : PyData → Nat) : PyData → Nat
  | .tuple ss => (ss.map f).sum
  | _ => 0
noncomputable def cntSt : Nat → PyData → Nat
  | 0, _ => 1
  | n + 1, d => if shapedD (.str "if") 4 d = true then 1 + (cntB (cntSt n) (itemD d 2) + cntB (cntSt n) (itemD d 3)) else 1
theorem cnt_one : ∀ {n : Nat} {d : PyData}, 1 ≤ cntSt n d
  | 0, _ => Nat.le_refl _
  | n + 1, d => by
    unfold cntSt
    split <;> omega
/-- the heads of the works lie there -/
noncomputable def Heads (K : PySem.W.Frag) (H : Hp) (pp : Addr) (sh : List (Nat × Nat)) : Prop := ∃ xs : List V, SqT K H pp xs ∧ xs.length = sh.length ∧ ∀ i : Nat, i < sh.length → ∃ (wp : Addr) (b : V), atI xs (i : Int) = some (.ref wp) ∧ SqT K H wp [.int ((shOf sh i).1 : Int), .int ((shOf sh i).2 : Int), b]
noncomputable def spNeedCallX (K : PySem.W.Frag) (cB : Addr) : Sp := fun vs H Q E => ∃ (pp : Addr) (sh : List (Nat × Nat)) (i : Nat) (u v : V) (dc dt : PyData), vs = [.ref pp, .int (i : Int), u, v] ∧ Heads K H pp sh ∧ i < sh.length ∧ Rp K H u dc ∧ Rp K H v dt ∧ Hh dt ∧
  (callD sh i dc dt = true → Q .non H) ∧ (callD sh i dc dt = false → E (.ref cB) none H)
theorem okNeedCallX {tk : Nat → Tok} {aP aW cB : Addr} (D : DefAt K mg "need_call" sneed_call pneed_call) (T : Cst K tk aP aW mg) (E_BadProgram : ExcAt K mg "BadProgram" cB) (C_is_below : Callee P w K mg base "is_below" 1 pis_below (spIsBelow K)) (C_need_thing : CalleeX P w K mg base "need_thing" 10 pneed_thing (spNeedThingX K cB 6)) :
    CalleeX P w K mg base "need_call" 11 pneed_call (spNeedCallX K cB) := by
  refine D.okX scneed_call (fun vs H Q E h => ?_) (fun f cdv A outer s H vs Q E hr h => ?_)
  · obtain ⟨pp, sh, i, u, v, dc, dt, rfl, _⟩ := h
    rfl
  obtain ⟨pp, sh, i, u, v, dc, dt, rfl, hH, hi, hu, hv, hh, q, qe⟩ := h
  obtain ⟨xs, hT, hl, hat⟩ := hH
  obtain ⟨wp, b, eW, hW⟩ := hat i hi
  refine ⟨_, (pss_cons (ps_if (PW.pt (pw_or (pt_not (pt_val (pcall C_is_below (hr.mono (by first | exact Nat.le_of_ble_eq_true rfl | omega)) rfl (pa_cons (pv 2) (pa_cons (pe_callB (cLen (K := K)) (by rfl) T.len PySem.boot_len (pa_cons (pv 0) pa_nil)) pa_nil))))) (pw_or1 (pt_cmpR op_le (pv 2) (pv 1) (nomark _))))) (pss_one (psRaise (K := K) (mg := mg) E_BadProgram (takes_of rfl rfl rfl rfl) rfl)) pss_nil)
  (pss_cons (ps_if (PW.pt (pw_or (pt_not (pt_val (pe_callB (cIsi (K := K)) (by rfl) T.isinstance (by decide +kernel) (pa_cons (pv 3) (pa_cons (pe_bltn rfl T.tuple (by decide +kernel) (v := .ty "tuple") rfl) pa_nil))))) (pw_or1 (pt_cmpR op_ne (pe_callB (cLen (K := K)) (by rfl) T.len PySem.boot_len (pa_cons (pv 3) pa_nil)) (pe_ix (ixT (K := K)) (pe_ix (ixT (K := K)) (pv 0) (pv 2) (fun _ _ => rfl)) pe_int (fun _ _ => rfl)) (nomark _))))) (pss_one (psRaise (K := K) (mg := mg) E_BadProgram (takes_of rfl rfl rfl rfl) rfl)) pss_nil)
  (pss_one (ps_for (passes_of rfl) rfl (piTup (K := K) (pv 3)) (pg_name (i := 4) scneed_call.nd rfl (Or.inl rfl))
   (pss_one (ps_expr (pcallX C_need_thing (takes_of rfl rfl rfl rfl) (hr.mono (by first | exact Nat.le_of_ble_eq_true rfl | omega)) rfl (pa_cons (pe_ix (ixT (K := K)) (pv 0) (pv 1) (fun _ _ => rfl)) (pa_cons (pv 4) (pa_cons pe_int pa_nil)))))))))), ?_⟩
  have lx : ((xs.length : Nat) : Int) = (sh.length : Int) := by rw [hl]
  walk_at "rd"
  refine r_or ?_
  walk_at "rd"
  refine ask ⟨u, dc, ((xs.length : Nat) : Int), rfl, hu.dp, ?_⟩
  walk_at "rd"
  refine cases_b (belowD ((xs.length : Nat) : Int) dc) (fun c => ?_) (fun c => ?_)
  case refine_2 =>
    have bad : callD sh i dc dt = false := by
      cases dc with
      | int c0 =>
        have e : (decide (0 ≤ c0) && decide (c0 < ((xs.length : Nat) : Int))) = false := c
        rw [lx] at e
        cases dt <;> first | rfl | rw [callD_tup, e, Bool.false_and]
      | _ => unfold callD; rfl
    rw [c]
    walk_at "rd"
    exact r_raise (qe bad)
  cases dc with
  | none => cases c
  | bool _ => cases c
  | str _ => cases c
  | tuple _ => cases c
  | list _ => cases c
  | dict _ => cases c
  | int c0 =>
    cases hu
    have e : (decide (0 ≤ c0) && decide (c0 < ((xs.length : Nat) : Int))) = true := c
    have e' := e
    rw [lx] at e'
    rw [Bool.and_eq_true, decide_eq_true_eq, decide_eq_true_eq] at e
    obtain ⟨c1, c2⟩ := e
    obtain ⟨k, rfl⟩ : ∃ k : Nat, c0 = k := ⟨c0.toNat, by omega⟩
    rw [c, if_neg (by decide)]
    walk_at "rd"
    refine ite2 (fun z => ?_) (fun z => ?_)
    · have bad : callD sh i (.int (k : Int)) dt = false := by
        have := of_decide_eq_true z
        have e3 : decide ((i : Int) < (k : Int)) = false := decide_eq_false (by omega)
        cases dt <;> first | rfl | rw [callD_tup, e3, Bool.false_and, Bool.and_false]
      walk_at "rd"
      exact r_raise (qe bad)
    have ik : (i : Int) < (k : Int) := by
      have : ¬ (k : Int) ≤ (i : Int) := fun y => z (decide_eq_true y)
      omega
    obtain ⟨cp, bc, eC, hC⟩ := hat k (by omega)
    have at0 : atI [.int ((shOf sh k).1 : Int), .int ((shOf sh k).2 : Int), bc] 0 = some (.int ((shOf sh k).1 : Int)) := at0
    have unf : ∀ ts, callD sh i (.int (k : Int)) (.tuple ts) = (decide (ts.length = (shOf sh k).1) && ts.all (okT sh i)) := fun ts => by
      rw [callD_tup, e', decide_eq_true ik, Bool.true_and, Bool.true_and, Int.toNat_natCast]
    walk_at "rd"
    cases dt with
    | none =>
      cases hv
      refine r_or ?_
      walk_at "rd"
      exact r_raise (qe rfl)
    | bool _ =>
      cases hv
      refine r_or ?_
      walk_at "rd"
      exact r_raise (qe rfl)
    | int _ =>
      cases hv
      refine r_or ?_
      walk_at "rd"
      exact r_raise (qe rfl)
    | str _ =>
      cases hv
      refine r_or ?_
      walk_at "rd"
      exact r_raise (qe rfl)
    | list _ => cases hv
    | dict _ => cases hv
    | tuple ts =>
      obtain ⟨tp, vs, rfl, hV, hvs⟩ := hv.tup_inv
      have lv := hvs.length
      rw [unf ts] at q qe
      refine r_orP (a := !kb "tuple" "tuple") (b := !decide ((V.int (vs.length : Int)) = V.int ((shOf sh k).1 : Int))) (fun R hr => by walk_at "rd"; exact hr) (fun _ R hr => by walk_at "rd"; exact hr) ?_
      by_cases cl : ts.length = (shOf sh k).1
      · rw [decide_eq_true cl, Bool.true_and] at q qe
        rw [if_neg (by
          rw [decide_eq_true (by rw [lv, cl])]
          exact (by decide +kernel : ¬ (!kb "tuple" "tuple" || !true) = true))]
        walk_at "rd"
        refine forT (xs := vs) (fun j σ H' => H' = H ∧ (∃ x4 : Option V, σ = [some (.ref pp), some (.int (i : Int)), some (.int (k : Int)), some (.ref tp), x4]) ∧ (ts.take j).all (okT sh i) = true) ⟨rfl, ⟨none, rfl⟩, rfl⟩ (fun j σ H' _ hp => ?_) (fun j x σ H' hx hp => ?_) (fun σ H' hp => ?_)
        · obtain ⟨rfl, _⟩ := hp
          exact hV
        · obtain ⟨rfl, ⟨x4, rfl⟩, al⟩ := hp
          obtain ⟨d, ed, rd⟩ := hvs.get' hx
          walk_at "rd"
          refine r_callS ?_
          walk_at "rd"
          refine ask ⟨wp, x, b, d, _, _, 0, rfl, hW, rd, hh.items.mem (List.mem_of_getElem? ed), by omega, by omega, fun k1 => ?_, fun k1 => qe ?_⟩
          case refine_2 =>
            have k1' : okT sh i d = false := k1
            rw [List.all_eq_false]
            exact ⟨d, List.mem_of_getElem? ed, by rw [k1']; exact Bool.false_ne_true⟩
          walk_at "rd"
          have k1' : okT sh i d = true := k1
          refine ⟨rfl, ⟨_, rfl⟩, ?_⟩
          rw [List.take_add_one, ed, List.all_append, al]
          show (true && (okT sh i d && true)) = true
          rw [k1']
          rfl
        · obtain ⟨rfl, ⟨x4, rfl⟩, al⟩ := hp
          rw [List.take_of_length_le (by omega)] at al
          exact q al
      · rw [if_pos (by
          rw [decide_eq_false (fun z => cl (by have := V.int.inj z; omega))]
          exact (by decide +kernel : (!kb "tuple" "tuple" || !false) = true))]
        walk_at "rd"
        refine r_raise (qe ?_)
        rw [decide_eq_false cl, Bool.false_and]
noncomputable def spNeedStepX (K : PySem.W.Frag) (cB : Addr) (n : Nat) : Sp := fun vs H Q E => ∃ (pp : Addr) (sh : List (Nat × Nat)) (i h c : Nat) (v : V) (d : PyData), vs = [.ref pp, .int (i : Int), v, .int (h : Int), .int ((c : Int) + 1)] ∧ Heads K H pp sh ∧ i < sh.length ∧ Rp K H v d ∧ Hh d ∧ h ≤ 5 ∧ 6 ≤ n + h ∧
  (okSt sh i (5 - h) d = true → c + cntSt (5 - h) d ≤ 100 → Q (.int ((c + cntSt (5 - h) d : Nat) : Int)) H) ∧ (¬ (okSt sh i (5 - h) d = true ∧ c + cntSt (5 - h) d ≤ 100) → E (.ref cB) none H)
noncomputable def spNeedBodyX (K : PySem.W.Frag) (cB : Addr) (n : Nat) : Sp := fun vs H Q E => ∃ (pp : Addr) (sh : List (Nat × Nat)) (i h c : Nat) (v : V) (d : PyData), vs = [.ref pp, .int (i : Int), v, .int (h : Int), .int (c : Int)] ∧ Heads K H pp sh ∧ i < sh.length ∧ Rp K H v d ∧ Hh d ∧ h ≤ 5 ∧ 6 ≤ n + h ∧ c ≤ 100 ∧
  (bodyD (okSt sh i (5 - h)) d = true → c + cntB (cntSt (5 - h)) d ≤ 100 → Q (.int ((c + cntB (cntSt (5 - h)) d : Nat) : Int)) H) ∧ (¬ (bodyD (okSt sh i (5 - h)) d = true ∧ c + cntB (cntSt (5 - h)) d ≤ 100) → E (.ref cB) none H)
theorem okNeedBodyX {tk : Nat → Tok} {cB : Addr} {n : Nat} (D : DefAt K mg "need_body" sneed_body pneed_body) (T : Nrs tk mg) (E_BadProgram : ExcAt K mg "BadProgram" cB) (C_need_step : CalleeX P w K mg base "need_step" (2 * n + 13) pneed_step (spNeedStepX K cB (n + 1))) :
    CalleeX P w K mg base "need_body" (2 * n + 14) pneed_body (spNeedBodyX K cB (n + 1)) := by
  refine D.okX scneed_body (fun vs H Q E h => ?_) (fun f cdv A outer s H vs Q E hr h => ?_)
  · obtain ⟨pp, sh, i, h, c, v, d, rfl, _⟩ := h
    rfl
  obtain ⟨pp, sh, i, h, c, v, d, rfl, hH, hi, hR, hh, h5, nh, c1, q, qe⟩ := h
  refine ⟨_, (pss_cons (ps_if (pt_not (pt_val (pe_callB (cIsi (K := K)) (by rfl) T.isinstance (by decide +kernel) (pa_cons (pv 2) (pa_cons (pe_bltn rfl T.tuple (by decide +kernel) (v := .ty "tuple") rfl) pa_nil))))) (pss_one (psRaise (K := K) (mg := mg) E_BadProgram (takes_of rfl rfl rfl rfl) rfl)) pss_nil)
  (pss_cons (ps_for (passes_of rfl) rfl (piTup (K := K) (pv 2)) (pg_name (i := 5) scneed_body.nd rfl (Or.inl rfl))
   (pss_one (ps_set (i := 4) scneed_body.nd rfl (Or.inl rfl) (pcallX C_need_step (takes_of rfl rfl rfl rfl) (hr.mono (by first | exact Nat.le_of_ble_eq_true rfl | omega)) rfl (pa_cons (pv 0) (pa_cons (pv 1) (pa_cons (pv 5) (pa_cons (pv 3) (pa_cons (pe_op op_add (pv 4) pe_int) pa_nil)))))))))
  (pss_one (ps_ret (pv 4))))), ?_⟩
  walk_at "rd"
  cases d with
  | none =>
    cases hR
    walk_at "rd"
    exact r_raise (qe fun z => by cases z.1)
  | bool _ =>
    cases hR
    walk_at "rd"
    exact r_raise (qe fun z => by cases z.1)
  | int _ =>
    cases hR
    walk_at "rd"
    exact r_raise (qe fun z => by cases z.1)
  | str _ =>
    cases hR
    walk_at "rd"
    exact r_raise (qe fun z => by cases z.1)
  | list _ => cases hR
  | dict _ => cases hR
  | tuple ss =>
    obtain ⟨tp, vs, rfl, hV, hvs⟩ := hR.tup_inv
    have lv := hvs.length
    have eb : bodyD (okSt sh i (5 - h)) (.tuple ss) = ss.all (okSt sh i (5 - h)) := rfl
    have ec : cntB (cntSt (5 - h)) (.tuple ss) = (ss.map (cntSt (5 - h))).sum := rfl
    rw [eb, ec] at q qe
    walk_at "rd"
    refine forT (xs := vs) (fun j σ H' => H' = H ∧ (∃ x5 : Option V, σ = [some (.ref pp), some (.int (i : Int)), some (.ref tp), some (.int (h : Int)), some (.int ((c + ((ss.take j).map (cntSt (5 - h))).sum : Nat) : Int)), x5]) ∧ (ss.take j).all (okSt sh i (5 - h)) = true ∧ c + ((ss.take j).map (cntSt (5 - h))).sum ≤ 100) ⟨rfl, ⟨none, rfl⟩, rfl, c1⟩ (fun j σ H' _ hp => ?_) (fun j x σ H' hx hp => ?_) (fun σ H' hp => ?_)
    · obtain ⟨rfl, _⟩ := hp
      exact hV
    · obtain ⟨rfl, ⟨x5, rfl⟩, al, cl⟩ := hp
      obtain ⟨d, ed, rd⟩ := hvs.get' hx
      have mem := List.mem_of_getElem? ed
      have tk1 : ss.take (j + 1) = ss.take j ++ [d] := by rw [List.take_add_one, ed]; rfl
      have sm : ((ss.take (j + 1)).map (cntSt (5 - h))).sum = ((ss.take j).map (cntSt (5 - h))).sum + cntSt (5 - h) d := by
        rw [tk1, List.map_append, List.sum_append]
        show _ + (cntSt (5 - h) d + 0) = _
        omega
      have le : ((ss.take (j + 1)).map (cntSt (5 - h))).sum ≤ (ss.map (cntSt (5 - h))).sum := by
        have := List.take_append_drop (j + 1) ss
        rw [← this, List.map_append, List.sum_append, List.take_append_drop]
        omega
      generalize hcj : c + ((ss.take j).map (cntSt (5 - h))).sum = cj at cl
      walk_at "rd"
      refine r_callS ?_
      walk_at "rd"
      refine ask ⟨pp, sh, i, h, cj, x, d, rfl, hH, hi, rd, hh.items.mem mem, h5, nh, fun k1 k2 => ?_, fun k1 => qe fun z => k1 ⟨List.all_eq_true.mp z.1 d mem, by omega⟩⟩
      walk_at "rd"
      refine ⟨rfl, ⟨some x, ?_⟩, ?_, by omega⟩
      · rw [sm, ← Nat.add_assoc, hcj]
        rfl
      · rw [tk1, List.all_append, al]
        show (true && (okSt sh i (5 - h) d && true)) = true
        rw [k1]
        rfl
    · obtain ⟨rfl, ⟨x5, rfl⟩, al, cl⟩ := hp
      rw [List.take_of_length_le (by omega)] at al cl ⊢
      walk_at "rd"
      exact q al cl
end
end
section
section
variable {P : Program} {w : World} {K : PySem.W.Frag} {mg : Str → Option Value} {base : Heap}
theorem okNeedStepX {tk : Nat → Tok} {aP aW cB : Addr} {n : Nat} (D : DefAt K mg "need_step" sneed_step pneed_step) (T : Cst K tk aP aW mg) (E_BadProgram : ExcAt K mg "BadProgram" cB) (C_is_shaped : Callee P w K mg base "is_shaped" 1 pis_shaped (spIsShaped K))
    (C_need_thing : CalleeX P w K mg base "need_thing" 10 pneed_thing (spNeedThingX K cB 6)) (C_need_place : CalleeX P w K mg base "need_place" 11 pneed_place (spNeedPlaceX K cB)) (C_need_call : CalleeX P w K mg base "need_call" 11 pneed_call (spNeedCallX K cB))
    (C_need_body : CalleeX P w K mg base "need_body" (2 * n + 12) pneed_body (spNeedBodyX K cB n)) : CalleeX P w K mg base "need_step" (2 * n + 13) pneed_step (spNeedStepX K cB (n + 1)) := by
  refine D.okX scneed_step (fun vs H Q E h => ?_) (fun f cdv A outer s H vs Q E hr h => ?_)
  · obtain ⟨pp, sh, i, h, c, v, d, rfl, _⟩ := h
    rfl
  obtain ⟨pp, sh, i, h, c, v, d, rfl, hH, hi, hR, hh, h5, nh, q, qe⟩ := h
  obtain ⟨xs, hT, hl, hat⟩ := id hH
  obtain ⟨wp, b, eW, hW⟩ := hat i hi
  have c1 := @cnt_one (5 - h) d
  refine ⟨_, (pss_cons (ps_if (PW.pt (pw_or (pt_cmpR op_gt (pv 3) (pe_glob (v := .int 4) rfl T.MOST_OTHERS ⟨_, rfl⟩) (nomark _)) (pw_or1 (pt_cmpR op_gt (pv 4) (pe_glob (v := .int 100) rfl T.MOST_STEPS ⟨_, rfl⟩) (nomark _))))) (pss_one (psRaise (K := K) (mg := mg) E_BadProgram (takes_of rfl rfl rfl rfl) rfl)) pss_nil)
  (pss_cons (ps_set (i := 5) scneed_step.nd rfl (Or.inl rfl) (pe_ix (ixT (K := K)) (pv 0) (pv 1) (fun _ _ => rfl)))
  (pss_cons (ps_if (pt_val (pcall C_is_shaped (hr.mono (by first | exact Nat.le_of_ble_eq_true rfl | omega)) rfl (pa_cons (pv 2) (pa_cons pe_str (pa_cons pe_int pa_nil))))) (pss_cons (ps_expr (pcallX C_need_place (takes_of rfl rfl rfl rfl) (hr.mono (by first | exact Nat.le_of_ble_eq_true rfl | omega)) rfl (pa_cons (pv 5) (pa_cons (pe_ix (ixT (K := K)) (pv 2) pe_int (fun _ _ => rfl)) pa_nil))))
  (pss_one (ps_expr (pcallX C_need_thing (takes_of rfl rfl rfl rfl) (hr.mono (by first | exact Nat.le_of_ble_eq_true rfl | omega)) rfl (pa_cons (pv 5) (pa_cons (pe_ix (ixT (K := K)) (pv 2) pe_int (fun _ _ => rfl)) (pa_cons pe_int pa_nil))))))) (pss_one (ps_if (pt_val (pcall C_is_shaped (hr.mono (by first | exact Nat.le_of_ble_eq_true rfl | omega)) rfl (pa_cons (pv 2) (pa_cons pe_str (pa_cons pe_int pa_nil))))) (pss_one (ps_expr (pcallX C_need_thing (takes_of rfl rfl rfl rfl) (hr.mono (by first | exact Nat.le_of_ble_eq_true rfl | omega)) rfl (pa_cons (pv 5) (pa_cons (pe_ix (ixT (K := K)) (pv 2) pe_int (fun _ _ => rfl)) (pa_cons pe_int pa_nil)))))) (pss_one (ps_if (pt_val (pcall C_is_shaped (hr.mono (by first | exact Nat.le_of_ble_eq_true rfl | omega)) rfl (pa_cons (pv 2) (pa_cons pe_str (pa_cons pe_int pa_nil))))) (pss_cons (ps_expr (pcallX C_need_thing (takes_of rfl rfl rfl rfl) (hr.mono (by first | exact Nat.le_of_ble_eq_true rfl | omega)) rfl (pa_cons (pv 5) (pa_cons (pe_ix (ixT (K := K)) (pv 2) pe_int (fun _ _ => rfl)) (pa_cons pe_int pa_nil)))))
  (pss_cons (ps_set (i := 4) scneed_step.nd rfl (Or.inl rfl) (pcallX C_need_body (takes_of rfl rfl rfl rfl) (hr.mono (by first | exact Nat.le_of_ble_eq_true rfl | omega)) rfl (pa_cons (pv 0) (pa_cons (pv 1) (pa_cons (pe_ix (ixT (K := K)) (pv 2) pe_int (fun _ _ => rfl)) (pa_cons (pe_op op_add (pv 3) pe_int) (pa_cons (pv 4) pa_nil)))))))
  (pss_one (ps_set (i := 4) scneed_step.nd rfl (Or.inl rfl) (pcallX C_need_body (takes_of rfl rfl rfl rfl) (hr.mono (by first | exact Nat.le_of_ble_eq_true rfl | omega)) rfl (pa_cons (pv 0) (pa_cons (pv 1) (pa_cons (pe_ix (ixT (K := K)) (pv 2) pe_int (fun _ _ => rfl)) (pa_cons (pe_op op_add (pv 3) pe_int) (pa_cons (pv 4) pa_nil)))))))))) (pss_one (ps_if (pt_val (pcall C_is_shaped (hr.mono (by first | exact Nat.le_of_ble_eq_true rfl | omega)) rfl (pa_cons (pv 2) (pa_cons pe_str (pa_cons pe_int pa_nil))))) (pss_one (ps_expr (pcallX C_need_call (takes_of rfl rfl rfl rfl) (hr.mono (by first | exact Nat.le_of_ble_eq_true rfl | omega)) rfl (pa_cons (pv 0) (pa_cons (pv 1) (pa_cons (pe_ix (ixT (K := K)) (pv 2) pe_int (fun _ _ => rfl)) (pa_cons (pe_ix (ixT (K := K)) (pv 2) pe_int (fun _ _ => rfl)) pa_nil))))))) (pss_one (psRaise (K := K) (mg := mg) E_BadProgram (takes_of rfl rfl rfl rfl) rfl)))))))))
  (pss_one (ps_ret (pv 4)))))), ?_⟩
  walk_at "rd"
  refine r_orP (a := decide ((4 : Int) < (h : Int))) (b := decide ((100 : Int) < (c : Int) + 1)) (fun R hr => by walk_at "rd"; exact hr) (fun _ R hr => by walk_at "rd"; exact hr) ?_
  by_cases h4 : h ≤ 4
  case neg =>
    have e : h = 5 := by omega
    subst e
    rw [if_pos (by rw [decide_eq_true (show (4 : Int) < ((5 : Nat) : Int) by decide)]; rfl)]
    walk_at "rd"
    exact r_raise (qe fun z => by cases z.1)
  by_cases cm : c + 1 ≤ 100
  case neg =>
    rw [if_pos (by rw [decide_eq_true (show (100 : Int) < (c : Int) + 1 by omega), Bool.or_true])]
    walk_at "rd"
    exact r_raise (qe fun z => by omega)
  rw [if_neg (by
    rw [decide_eq_false (by omega), decide_eq_false (by omega)]
    exact Bool.false_ne_true)]
  have e5 : 5 - h = (4 - h) + 1 := by omega
  have e4 : 5 - (h + 1) = 4 - h := by omega
  rw [e5] at q qe
  unfold okSt cntSt at q qe
  walk_at "rd"
  refine ask ⟨v, d, "set", 3, rfl, hR.dp, hh.head, by decide +kernel, by decide, ?_⟩
  walk_at "rd"
  have thing : ∀ (x : V) (k : Nat) (Q0 : VK) (E0 : XK), Rp K H x (itemD d k) → (okT sh i (itemD d k) = true → Q0 .non H) → (okT sh i (itemD d k) = false → E0 (.ref cB) none H) → spNeedThingX K cB 6 [.ref wp, x, .int 0] H Q0 E0 := fun x k Q0 E0 hx h1 h2 =>
    ⟨wp, x, b, itemD d k, _, _, 0, rfl, hW, hx, hh.item k, by omega, by omega, h1, h2⟩
  refine cases_b (shapedD (.str "set") 3 d) (fun s1 => ?_) (fun s1 => ?_)
  · rw [if_pos s1] at q qe
    have ni : shapedD (.str "if") 4 d = false := by
      obtain ⟨ds, rfl, l⟩ := shaped_str s1
      exact shapedD_str.trans (by rw [decide_eq_false (by rw [List.length_cons]; omega)]; rfl)
    rw [if_neg (by rw [ni]; exact Bool.false_ne_true)] at q qe
    obtain ⟨p, ys, rfl, hS, l, hx⟩ := shaped_at hR s1
    obtain ⟨x1, a1, r1⟩ := hx 1 (by omega)
    obtain ⟨x2, a2, r2⟩ := hx 2 (by omega)
    have a1' : atI ys 1 = some x1 := a1
    have a2' : atI ys 2 = some x2 := a2
    rw [s1, if_pos rfl]
    walk_at "rd"
    refine r_callS ?_
    walk_at "rd"
    refine ask ⟨wp, x1, b, itemD d 1, _, _, rfl, hW, r1, hh.item 1, fun k1 => ?_, fun k1 => qe fun z => ?_⟩
    case refine_2 =>
      have k1' : (okT sh i (itemD d 1) && placeD (itemD d 1)) = false := k1
      have := z.1
      rw [k1'] at this
      cases this
    have k1' : (okT sh i (itemD d 1) && placeD (itemD d 1)) = true := k1
    walk_at "rd"
    refine r_callS ?_
    walk_at "rd"
    refine ask (thing x2 2 _ _ r2 (fun k2 => ?_) fun k2 => qe fun z => ?_)
    case refine_2 =>
      have := z.1
      rw [k2, Bool.and_false] at this
      cases this
    walk_at "rd"
    exact q (by rw [k1', k2]; rfl) cm
  rw [if_neg (by rw [s1]; exact Bool.false_ne_true)] at q qe
  rw [s1, if_neg Bool.false_ne_true]
  walk_at "rd"
  refine ask ⟨v, d, "say", 2, rfl, hR.dp, hh.head, by decide +kernel, by decide, ?_⟩
  walk_at "rd"
  refine cases_b (shapedD (.str "say") 2 d) (fun s2 => ?_) (fun s2 => ?_)
  · rw [if_pos s2] at q qe
    have ni : shapedD (.str "if") 4 d = false := by
      obtain ⟨ds, rfl, l⟩ := shaped_str s2
      exact shapedD_str.trans (by rw [decide_eq_false (by rw [List.length_cons]; omega)]; rfl)
    rw [if_neg (by rw [ni]; exact Bool.false_ne_true)] at q qe
    obtain ⟨p, ys, rfl, hS, l, hx⟩ := shaped_at hR s2
    obtain ⟨x1, a1, r1⟩ := hx 1 (by omega)
    have a1' : atI ys 1 = some x1 := a1
    rw [s2, if_pos rfl]
    walk_at "rd"
    refine r_callS ?_
    walk_at "rd"
    refine ask (thing x1 1 _ _ r1 (fun k1 => ?_) fun k1 => qe fun z => ?_)
    case refine_2 =>
      have := z.1
      rw [k1] at this
      cases this
    walk_at "rd"
    exact q k1 cm
  rw [if_neg (by rw [s2]; exact Bool.false_ne_true)] at q qe
  rw [s2, if_neg Bool.false_ne_true]
  walk_at "rd"
  refine ask ⟨v, d, "if", 4, rfl, hR.dp, hh.head, by decide +kernel, by decide, ?_⟩
  walk_at "rd"
  refine cases_b (shapedD (.str "if") 4 d) (fun s3 => ?_) (fun s3 => ?_)
  · rw [if_pos s3, if_pos s3] at q
    rw [if_pos s3, if_pos s3] at qe
    obtain ⟨p, ys, rfl, hS, l, hx⟩ := shaped_at hR s3
    obtain ⟨x1, a1, r1⟩ := hx 1 (by omega)
    obtain ⟨x2, a2, r2⟩ := hx 2 (by omega)
    obtain ⟨x3, a3, r3⟩ := hx 3 (by omega)
    have a1' : atI ys 1 = some x1 := a1
    have a2' : atI ys 2 = some x2 := a2
    have a3' : atI ys 3 = some x3 := a3
    rw [s3, if_pos rfl]
    walk_at "rd"
    refine r_callS ?_
    walk_at "rd"
    refine ask (thing x1 1 _ _ r1 (fun k1 => ?_) fun k1 => qe fun z => ?_)
    case refine_2 =>
      have := z.1
      rw [k1] at this
      cases this
    walk_at "rd"
    refine r_callS ?_
    walk_at "rd"
    refine ask ⟨pp, sh, i, h + 1, c + 1, x2, itemD d 2, by rw [Int.natCast_add, Int.natCast_add]; rfl, hH, hi, r2, hh.item 2, by omega, by omega, by omega, fun k2 m2 => ?_, fun k2 => qe fun z => k2 ?_⟩
    case refine_2 =>
      rw [e4]
      have := z.1
      rw [Bool.and_eq_true, Bool.and_eq_true] at this
      exact ⟨this.2.1, by have := z.2; omega⟩
    rw [e4] at k2 m2 ⊢
    walk_at "rd"
    refine r_callS ?_
    walk_at "rd"
    refine ask ⟨pp, sh, i, h + 1, c + 1 + cntB (cntSt (4 - h)) (itemD d 2), x3, itemD d 3, by rw [Int.natCast_add h 1]; rfl, hH, hi, r3, hh.item 3, by omega, by omega, by omega, fun k3 m3 => ?_, fun k3 => qe fun z => k3 ?_⟩
    case refine_2 =>
      rw [e4]
      have := z.1
      rw [Bool.and_eq_true, Bool.and_eq_true] at this
      exact ⟨this.2.2, by have := z.2; omega⟩
    rw [e4] at k3 m3 ⊢
    walk_at "rd"
    have e : c + 1 + cntB (cntSt (4 - h)) (itemD d 2) + cntB (cntSt (4 - h)) (itemD d 3) = c + (1 + (cntB (cntSt (4 - h)) (itemD d 2) + cntB (cntSt (4 - h)) (itemD d 3))) := by omega
    rw [e]
    exact q (by rw [k1, k2, k3]; rfl) (by omega)
  rw [if_neg (by rw [s3]; exact Bool.false_ne_true), if_neg (by rw [s3]; exact Bool.false_ne_true)] at q
  rw [if_neg (by rw [s3]; exact Bool.false_ne_true), if_neg (by rw [s3]; exact Bool.false_ne_true)] at qe
  rw [s3, if_neg Bool.false_ne_true]
  walk_at "rd"
  refine ask ⟨v, d, "call", 3, rfl, hR.dp, hh.head, by decide +kernel, by decide, ?_⟩
  walk_at "rd"
  refine cases_b (shapedD (.str "call") 3 d) (fun s4 => ?_) (fun s4 => ?_)
  · rw [s4, Bool.true_and] at q qe
    obtain ⟨p, ys, rfl, hS, l, hx⟩ := shaped_at hR s4
    obtain ⟨x1, a1, r1⟩ := hx 1 (by omega)
    obtain ⟨x2, a2, r2⟩ := hx 2 (by omega)
    have a1' : atI ys 1 = some x1 := a1
    have a2' : atI ys 2 = some x2 := a2
    rw [s4, if_pos rfl]
    walk_at "rd"
    refine r_callS ?_
    walk_at "rd"
    refine ask ⟨pp, sh, i, x1, x2, _, _, rfl, hH, hi, r1, r2, hh.item 2, fun k1 => ?_, fun k1 => qe fun z => ?_⟩
    case refine_2 =>
      have := z.1
      rw [k1] at this
      cases this
    walk_at "rd"
    exact q k1 cm
  rw [s4, Bool.false_and] at qe
  rw [s4, if_neg Bool.false_ne_true]
  walk_at "rd"
  exact r_raise (qe fun z => by cases z.1)
theorem okNeedBodiesX {tk : Nat → Tok} {aP aW cB : Addr} (D : DefAt K mg "need_body" sneed_body pneed_body) (Ds : DefAt K mg "need_step" sneed_step pneed_step) (T : Cst K tk aP aW mg) (E_BadProgram : ExcAt K mg "BadProgram" cB) (C_is_shaped : Callee P w K mg base "is_shaped" 1 pis_shaped (spIsShaped K))
    (C_need_thing : CalleeX P w K mg base "need_thing" 10 pneed_thing (spNeedThingX K cB 6)) (C_need_place : CalleeX P w K mg base "need_place" 11 pneed_place (spNeedPlaceX K cB)) (C_need_call : CalleeX P w K mg base "need_call" 11 pneed_call (spNeedCallX K cB)) :
    ∀ n : Nat, CalleeX P w K mg base "need_body" (2 * n + 12) pneed_body (spNeedBodyX K cB n)
  | 0 => D.noneX fun vs H Q E h => by
    obtain ⟨pp, sh, i, h, c, v, d, rfl, _, _, _, _, h5, z, _⟩ := h
    omega
  | n + 1 => okNeedBodyX D T.toNrs E_BadProgram (okNeedStepX Ds T E_BadProgram C_is_shaped C_need_thing C_need_place C_need_call (okNeedBodiesX D Ds T E_BadProgram C_is_shaped C_need_thing C_need_place C_need_call n))
end
end
section
section
variable {P : Program} {w : World} {K : PySem.W.Frag} {mg : Str → Option Value} {base : Heap}
noncomputable def headD (i : Nat) (d : PyData) : Bool := match d with
  | .tuple [p, o, _] => belowD (if i = 0 then 0 + 1 else 3 + 1) p && belowD (99 + 1) o
  | _ => false
theorem headD_3 {i : Nat} {p o b : PyData} : headD i (.tuple [p, o, b]) = (belowD (if i = 0 then 0 + 1 else 3 + 1) p && belowD (99 + 1) o) := rfl
theorem headD_len {i : Nat} {ds : List PyData} (h : ds.length ≠ 3) : headD i (.tuple ds) = false := by
  match ds, h with
  | [], _ => rfl
  | [_], _ => rfl
  | [_, _], _ => rfl
  | [_, _, _], h => exact absurd rfl h
  | _ :: _ :: _ :: _ :: _, _ => rfl
noncomputable def spNeedHeadX (K : PySem.W.Frag) (cB : Addr) : Sp := fun vs H Q E => ∃ (i : Nat) (v : V) (d : PyData), vs = [.int (i : Int), v] ∧ Rp K H v d ∧ (headD i d = true → Q .non H) ∧ (headD i d = false → E (.ref cB) none H)
theorem okNeedHeadX {tk : Nat → Tok} {cB : Addr} (D : DefAt K mg "need_head" sneed_head pneed_head) (T : Nrs tk mg) (E_BadProgram : ExcAt K mg "BadProgram" cB) (C_is_below : Callee P w K mg base "is_below" 1 pis_below (spIsBelow K)) : CalleeX P w K mg base "need_head" 2 pneed_head (spNeedHeadX K cB) := by
  refine D.okX scneed_head (fun vs H Q E h => ?_) (fun f cdv A outer s H vs Q E hr h => ?_)
  · obtain ⟨i, v, d, rfl, _⟩ := h
    rfl
  obtain ⟨i, v, d, rfl, hR, q, qe⟩ := h
  refine ⟨_, (pss_cons (ps_if (PW.pt (pw_or (pt_not (pt_val (pe_callB (cIsi (K := K)) (by rfl) T.isinstance (by decide +kernel) (pa_cons (pv 1) (pa_cons (pe_bltn rfl T.tuple (by decide +kernel) (v := .ty "tuple") rfl) pa_nil))))) (pw_or1 (pt_cmpR op_ne (pe_callB (cLen (K := K)) (by rfl) T.len PySem.boot_len (pa_cons (pv 1) pa_nil)) pe_int (nomark _))))) (pss_one (psRaise (K := K) (mg := mg) E_BadProgram (takes_of rfl rfl rfl rfl) rfl)) pss_nil)
  (pss_cons (ps_set (i := 2) scneed_head.nd rfl (Or.inl rfl) (pe_ifExp (pt_cmpR op_eq (pv 0) pe_int (nomark _)) pe_int (pe_glob (v := .int 3) rfl T.MOST_PARAMS ⟨_, rfl⟩)))
  (pss_cons (ps_if (pt_not (pt_val (pcall C_is_below (hr.mono (by first | exact Nat.le_of_ble_eq_true rfl | omega)) rfl (pa_cons (pe_ix (ixT (K := K)) (pv 1) pe_int (fun _ _ => rfl)) (pa_cons (pe_op op_add (pv 2) pe_int) pa_nil))))) (pss_one (psRaise (K := K) (mg := mg) E_BadProgram (takes_of rfl rfl rfl rfl) rfl)) pss_nil)
  (pss_one (ps_if (pt_not (pt_val (pcall C_is_below (hr.mono (by first | exact Nat.le_of_ble_eq_true rfl | omega)) rfl (pa_cons (pe_ix (ixT (K := K)) (pv 1) pe_int (fun _ _ => rfl)) (pa_cons (pe_op op_add (pe_glob (v := .int 99) rfl T.MOST_OWNS ⟨_, rfl⟩) pe_int) pa_nil))))) (pss_one (psRaise (K := K) (mg := mg) E_BadProgram (takes_of rfl rfl rfl rfl) rfl)) pss_nil))))), ?_⟩
  walk_at "rd"
  cases d with
  | none =>
    cases hR
    refine r_or ?_
    walk_at "rd"
    exact r_raise (qe rfl)
  | bool _ =>
    cases hR
    refine r_or ?_
    walk_at "rd"
    exact r_raise (qe rfl)
  | int _ =>
    cases hR
    refine r_or ?_
    walk_at "rd"
    exact r_raise (qe rfl)
  | str _ =>
    cases hR
    refine r_or ?_
    walk_at "rd"
    exact r_raise (qe rfl)
  | list _ => cases hR
  | dict _ => cases hR
  | tuple ds =>
    obtain ⟨wp, xs, rfl, hT, hx⟩ := hR.tup_inv
    have lx := hx.length
    refine r_orP (a := !kb "tuple" "tuple") (b := !decide ((V.int (xs.length : Int)) = V.int 3)) (fun R hr => by walk_at "rd"; exact hr) (fun _ R hr => by walk_at "rd"; exact hr) ?_
    by_cases l3 : ds.length = 3
    case neg =>
      rw [if_pos (by
        rw [decide_eq_false (fun z => l3 (by have := V.int.inj z; omega))]
        exact (by decide +kernel : (!kb "tuple" "tuple" || !false) = true))]
      walk_at "rd"
      exact r_raise (qe (headD_len l3))
    rw [if_neg (by
      rw [decide_eq_true (by rw [lx, l3]; rfl)]
      exact (by decide +kernel : ¬ (!kb "tuple" "tuple" || !true) = true))]
    obtain ⟨dp, dq, db, rfl⟩ : ∃ dp dq db, ds = [dp, dq, db] := by
      match ds, l3 with
      | [dp, dq, db], _ => exact ⟨dp, dq, db, rfl⟩
    obtain ⟨v0, r0, rfl, g0, gr⟩ := hx.inv
    obtain ⟨v1, r1, rfl, g1, gr1⟩ := gr.inv
    obtain ⟨v2, r2, rfl, g2, gr2⟩ := gr1.inv
    cases gr2.inv0
    rw [headD_3] at q qe
    have a0 : atI [v0, v1, v2] 0 = some v0 := at0
    have a1 : atI [v0, v1, v2] 1 = some v1 := at1
    walk_at "rd"
    have tail : ∀ {m : Int}, (belowD m dp && belowD (99 + 1) dq) = (belowD (if i = 0 then 0 + 1 else 3 + 1) dp && belowD (99 + 1) dq) → True := fun _ => trivial
    refine ite2 (fun c => ?_) (fun c => ?_)
    · have i0 : i = 0 := by
        have := V.int.inj (of_decide_eq_true c)
        omega
      rw [if_pos i0] at q qe
      walk_at "rd"
      refine ask ⟨v0, dp, 0 + 1, rfl, g0.dp, ?_⟩
      refine cases_b (belowD (0 + 1) dp) (fun c1 => ?_) (fun c1 => ?_)
      case refine_2 =>
        rw [c1]
        walk_at "rd"
        exact r_raise (qe (by rw [c1, Bool.false_and]))
      rw [c1]
      walk_at "rd"
      refine ask ⟨v1, dq, 99 + 1, rfl, g1.dp, ?_⟩
      refine cases_b (belowD (99 + 1) dq) (fun c2 => ?_) (fun c2 => ?_)
      case refine_2 =>
        rw [c2]
        walk_at "rd"
        exact r_raise (qe (by rw [c2, Bool.and_false]))
      rw [c2]
      walk_at "rd"
      exact q (by rw [c1, c2]; rfl)
    · have i0 : ¬ i = 0 := fun z => c (decide_eq_true (by rw [z]; rfl))
      rw [if_neg i0] at q qe
      walk_at "rd"
      refine ask ⟨v0, dp, 3 + 1, rfl, g0.dp, ?_⟩
      refine cases_b (belowD (3 + 1) dp) (fun c1 => ?_) (fun c1 => ?_)
      case refine_2 =>
        rw [c1]
        walk_at "rd"
        exact r_raise (qe (by rw [c1, Bool.false_and]))
      rw [c1]
      walk_at "rd"
      refine ask ⟨v1, dq, 99 + 1, rfl, g1.dp, ?_⟩
      refine cases_b (belowD (99 + 1) dq) (fun c2 => ?_) (fun c2 => ?_)
      case refine_2 =>
        rw [c2]
        walk_at "rd"
        exact r_raise (qe (by rw [c2, Bool.and_false]))
      rw [c2]
      walk_at "rd"
      exact q (by rw [c1, c2]; rfl)
noncomputable def natI : PyData → Nat
  | .int i => i.toNat
  | _ => 0
noncomputable def shD (ws : List PyData) : List (Nat × Nat) := ws.map fun d => (natI (itemD d 0), natI (itemD d 1))
/-- what is a program -/
noncomputable def OkProg (d : PyData) : Prop := ∃ ws, d = .tuple ws ∧ (1 ≤ ws.length ∧ ws.length ≤ 4) ∧ (∀ (i : Nat) (x : PyData), ws[i]? = some x → headD i x = true) ∧
  ∀ (i : Nat) (x : PyData), ws[i]? = some x → bodyD (okSt (shD ws) i 5) (itemD x 2) = true ∧ cntB (cntSt 5) (itemD x 2) ≤ 100
theorem below_nat' {m : Int} {d : PyData} (h : belowD m d = true) : ∃ k : Nat, d = .int (k : Int) ∧ (k : Int) < m := by
  cases d with
  | int c =>
    have e : (decide (0 ≤ c) && decide (c < m)) = true := h
    rw [Bool.and_eq_true, decide_eq_true_eq, decide_eq_true_eq] at e
    exact ⟨c.toNat, by rw [Int.toNat_of_nonneg e.1], by rw [Int.toNat_of_nonneg e.1]; exact e.2⟩
  | _ => cases h
theorem headD_inv {i : Nat} {d : PyData} (h : headD i d = true) : ∃ (p o : Nat) (b : PyData), d = .tuple [.int (p : Int), .int (o : Int), b] ∧ p ≤ 3 ∧ o ≤ 99 ∧ (i = 0 → p = 0) := by
  cases d with
  | tuple ds =>
    by_cases l3 : ds.length = 3
    · obtain ⟨dp, dq, db, rfl⟩ : ∃ dp dq db, ds = [dp, dq, db] := by
        match ds, l3 with
        | [dp, dq, db], _ => exact ⟨dp, dq, db, rfl⟩
      rw [headD_3, Bool.and_eq_true] at h
      obtain ⟨p, rfl, hp⟩ := below_nat' h.1
      obtain ⟨o, rfl, ho⟩ := below_nat' h.2
      refine ⟨p, o, db, rfl, ?_, by omega, fun z => ?_⟩
      · split at hp <;> omega
      · rw [if_pos z] at hp
        omega
    · rw [headD_len l3] at h
      cases h
  | _ => cases h
theorem heads_lie {H : Hp} {a : Addr} {xs : List V} {ws : List PyData} (hT : SqT K H a xs) (hx : Rps K H xs ws) (ok : ∀ (i : Nat) (x : PyData), ws[i]? = some x → headD i x = true) : Heads K H a (shD ws) := by
  have l := hx.length
  have ls : (shD ws).length = ws.length := List.length_map _
  refine ⟨xs, hT, by omega, fun i hi => ?_⟩
  have ew : ws[i]? = some ws[i] := List.getElem?_eq_getElem (by omega)
  obtain ⟨v, ev, rv⟩ := hx.get ew
  obtain ⟨p, o, b, e, _⟩ := headD_inv (ok i _ ew)
  have es : shOf (shD ws) i = (p, o) := by
    unfold shOf shD
    rw [List.getD_eq_getElem?_getD, List.getElem?_map, ew, e]
    rfl
  rw [e] at rv
  obtain ⟨wp, ys, rfl, hW, hy⟩ := rv.tup_inv
  obtain ⟨v0, r0, rfl, g0, gr⟩ := hy.inv
  obtain ⟨v1, r1, rfl, g1, gr1⟩ := gr.inv
  obtain ⟨v2, r2, rfl, g2, gr2⟩ := gr1.inv
  cases gr2.inv0
  cases g0.int_inv
  cases g1.int_inv
  rw [es]
  exact ⟨wp, v2, atI_nat ev, hW⟩
theorem Heads.ts {H H1 : Hp} {a : Addr} {sh : List (Nat × Nat)} (h : Heads K H a sh) (t : Tst H H1) : Heads K H1 a sh := by
  obtain ⟨xs, h1, h2, h3⟩ := h
  refine ⟨xs, t.sqT h1, h2, fun i hi => ?_⟩
  obtain ⟨wp, b, e1, e2⟩ := h3 i hi
  exact ⟨wp, b, e1, t.sqT e2⟩
noncomputable def spNeedProgramX (K : PySem.W.Frag) (cB : Addr) : Sp := fun vs H Q E => ∃ (v : V) (d : PyData), vs = [v] ∧ Rp K H v d ∧ Hh d ∧ (OkProg d → ∀ H', Keep [] H H' → Q .non H') ∧ (¬ OkProg d → ∀ H', Keep [] H H' → E (.ref cB) none H')
theorem okNeedProgramX {tk : Nat → Tok} {aP aW cB : Addr} (D : DefAt K mg "need_program" sneed_program pneed_program) (T : Cst K tk aP aW mg) (E_BadProgram : ExcAt K mg "BadProgram" cB) (C_need_head : CalleeX P w K mg base "need_head" 2 pneed_head (spNeedHeadX K cB)) (C_need_body : CalleeX P w K mg base "need_body" 24 pneed_body (spNeedBodyX K cB 6)) :
    CalleeX P w K mg base "need_program" 25 pneed_program (spNeedProgramX K cB) := by
  refine D.okX scneed_program (fun vs H Q E h => ?_) (fun f cdv A outer s H vs Q E hr h => ?_)
  · obtain ⟨v, d, rfl, _⟩ := h
    rfl
  obtain ⟨v, d, rfl, hR, hh, q, qe⟩ := h
  refine ⟨_, (pss_cons (ps_if (PW.pt (pw_or (pt_not (pt_val (pe_callB (cIsi (K := K)) (by rfl) T.isinstance (by decide +kernel) (pa_cons (pv 0) (pa_cons (pe_bltn rfl T.tuple (by decide +kernel) (v := .ty "tuple") rfl) pa_nil))))) (pw_or1 (pt_not (pt_chain op_le op_le pe_int (pe_callB (cLen (K := K)) (by rfl) T.len PySem.boot_len (pa_cons (pv 0) pa_nil)) (pe_glob (v := .int 4) rfl T.MOST_WORKS ⟨_, rfl⟩)))))) (pss_one (psRaise (K := K) (mg := mg) E_BadProgram (takes_of rfl rfl rfl rfl) rfl)) pss_nil)
  (pss_cons (ps_for (passes_of rfl) rfl (pi_enumT (K := K) rfl T.enumerate (pa_cons (pv 0) pa_nil)) (pgTup (K := K) (by rfl) (pgs_cons (pg_name (i := 1) scneed_program.nd rfl (Or.inl rfl)) (pgs_cons (pg_name (i := 2) scneed_program.nd rfl (Or.inl rfl)) pgs_nil)))
   (pss_one (ps_expr (pcallX C_need_head (takes_of rfl rfl rfl rfl) (hr.mono (by first | exact Nat.le_of_ble_eq_true rfl | omega)) rfl (pa_cons (pv 1) (pa_cons (pv 2) pa_nil))))))
  (pss_one (ps_for (passes_of rfl) rfl (pi_enumT (K := K) rfl T.enumerate (pa_cons (pv 0) pa_nil)) (pgTup (K := K) (by rfl) (pgs_cons (pg_name (i := 1) scneed_program.nd rfl (Or.inl rfl)) (pgs_cons (pg_name (i := 2) scneed_program.nd rfl (Or.inl rfl)) pgs_nil)))
   (pss_one (ps_expr (pcallX C_need_body (takes_of rfl rfl rfl rfl) (hr.mono (by first | exact Nat.le_of_ble_eq_true rfl | omega)) rfl (pa_cons (pv 0) (pa_cons (pv 1) (pa_cons (pe_ix (ixT (K := K)) (pv 2) pe_int (fun _ _ => rfl)) (pa_cons pe_int (pa_cons pe_int pa_nil)))))))))))), ?_⟩
  walk_at "rd"
  cases d with
  | none =>
    cases hR
    refine r_or ?_
    walk_at "rd"
    exact r_raise (qe (fun ⟨_, z, _⟩ => by cases z) H Keep.refl)
  | bool _ =>
    cases hR
    refine r_or ?_
    walk_at "rd"
    exact r_raise (qe (fun ⟨_, z, _⟩ => by cases z) H Keep.refl)
  | int _ =>
    cases hR
    refine r_or ?_
    walk_at "rd"
    exact r_raise (qe (fun ⟨_, z, _⟩ => by cases z) H Keep.refl)
  | str _ =>
    cases hR
    refine r_or ?_
    walk_at "rd"
    exact r_raise (qe (fun ⟨_, z, _⟩ => by cases z) H Keep.refl)
  | list _ => cases hR
  | dict _ => cases hR
  | tuple ws =>
    obtain ⟨a, xs, rfl, hT, hx⟩ := id hR.tup_inv
    have lx := hx.length
    refine r_orP (a := !kb "tuple" "tuple") (b := !(decide (1 ≤ ws.length) && decide (ws.length ≤ 4))) (fun R hr => by walk_at "rd"; exact hr) (fun _ R hr => ?_) ?_
    · walk_at "rd"
      by_cases c1 : 1 ≤ ws.length
      · rw [if_pos (decide_eq_true (by omega))]
        walk_at "rd"
        have e : decide ((xs.length : Int) ≤ 4) = decide (ws.length ≤ 4) := decide_eq_decide.mpr (by omega)
        rw [e]
        rw [decide_eq_true c1, Bool.true_and] at hr
        exact hr
      · rw [if_neg (fun z => c1 (by have := of_decide_eq_true z; omega))]
        walk_at "rd"
        rw [decide_eq_false c1, Bool.false_and] at hr
        exact hr
    by_cases cl : 1 ≤ ws.length ∧ ws.length ≤ 4
    case neg =>
      have e : (decide (1 ≤ ws.length) && decide (ws.length ≤ 4)) = false := by
        rw [Bool.and_eq_false_iff, decide_eq_false_iff_not, decide_eq_false_iff_not]
        omega
      rw [if_pos (by rw [e]; exact (by decide +kernel : (!kb "tuple" "tuple" || !false) = true))]
      walk_at "rd"
      exact r_raise (qe (fun ⟨_, z, z2, _⟩ => by cases z; exact cl z2) H Keep.refl)
    rw [if_neg (by rw [decide_eq_true cl.1, decide_eq_true cl.2]; exact (by decide +kernel : ¬ (!kb "tuple" "tuple" || !(true && true)) = true))]
    walk_at "rd"
    refine forE (xs := xs) (fun i σ H' => (∃ x1 x2 : Option V, σ = [some (.ref a), x1, x2]) ∧ Keep [] H H' ∧ ∀ (j : Nat) (x : PyData), j < i → ws[j]? = some x → headD j x = true) ⟨⟨_, _, rfl⟩, Keep.refl, fun j x z => by omega⟩ (fun i σ H' _ hp => ?_) (fun i x T σ H' H1 hx' hp nT hT1 k1 => ?_) (fun σ H' hp => ?_)
    · obtain ⟨_, k, _⟩ := hp
      exact (keep_ts0 k).sqT hT
    · obtain ⟨⟨x1, x2, rfl⟩, k, ok⟩ := hp
      have hTT := SqT.of (K := K) hT1
      obtain ⟨d, ed, rd⟩ := hx.get' hx'
      walk_at "rd"
      refine r_callS ?_
      walk_at "rd"
      refine ask ⟨i, x, d, rfl, rd.ts ((keep_ts0 k).trans (keep_ts0 k1)), fun c => ?_, fun c => qe (fun ⟨_, z, _, z3, _⟩ => ?_) _ (k.trans k1)⟩
      case refine_2 =>
        cases z
        rw [z3 i d ed] at c
        cases c
      walk_at "rd"
      refine ⟨⟨_, _, rfl⟩, k.trans k1, fun j y hj ey => ?_⟩
      by_cases z : j < i
      · exact ok j y z ey
      · have : j = i := by omega
        subst this
        rw [ed] at ey
        cases ey
        exact c
    obtain ⟨⟨x1, x2, rfl⟩, k0, ok0⟩ := hp
    have ok : ∀ (j : Nat) (x : PyData), ws[j]? = some x → headD j x = true := fun j x e => ok0 j x (by have := (List.getElem?_eq_some_iff.mp e).1; omega) e
    have hd := heads_lie hT hx ok
    have hT0 := (keep_ts0 k0).sqT hT
    walk_at "rd"
    refine forE (xs := xs) (fun i σ H' => (∃ x1 x2 : Option V, σ = [some (.ref a), x1, x2]) ∧ Keep [] H H' ∧ ∀ (j : Nat) (x : PyData), j < i → ws[j]? = some x → bodyD (okSt (shD ws) j 5) (itemD x 2) = true ∧ cntB (cntSt 5) (itemD x 2) ≤ 100) ⟨⟨_, _, rfl⟩, k0, fun j x z => by omega⟩ (fun i σ H' _ hp => ?_) (fun i x T σ H' H1 hx' hp nT hT1 k1 => ?_) (fun σ H' hp => ?_)
    · obtain ⟨_, k, _⟩ := hp
      exact (keep_ts0 k).sqT hT
    · obtain ⟨⟨x1, x2, rfl⟩, k, okb⟩ := hp
      have hTT := SqT.of (K := K) hT1
      obtain ⟨d, ed, rd⟩ := hx.get' hx'
      have t1 := (keep_ts0 k).trans (keep_ts0 k1)
      obtain ⟨p, o, b, e, _⟩ := headD_inv (ok i d ed)
      have rd1 := rd.ts t1
      have hd2 := (hh.items.mem (List.mem_of_getElem? ed)).item 2
      have eb : itemD d 2 = b := by rw [e]; rfl
      rw [e] at rd1
      obtain ⟨wp, ys, rfl, hW, hy⟩ := rd1.tup_inv
      obtain ⟨v0, r0, rfl, g0, gr⟩ := hy.inv
      obtain ⟨v1, r1, rfl, g1, gr1⟩ := gr.inv
      obtain ⟨v2, r2, rfl, g2, gr2⟩ := gr1.inv
      cases gr2.inv0
      have a2 : atI [v0, v1, v2] 2 = some v2 := at2
      have li : i < (shD ws).length := by
        have := (List.getElem?_eq_some_iff.mp ed).1
        have ls : (shD ws).length = ws.length := List.length_map _
        omega
      rw [← eb] at g2
      walk_at "rd"
      refine r_callS ?_
      walk_at "rd"
      refine ask ⟨a, shD ws, i, 0, 0, v2, itemD d 2, rfl, hd.ts t1, li, g2, hd2, by omega, by omega, by omega, fun c1 c2 => ?_, fun c => qe (fun ⟨_, z, _, _, z4⟩ => c ?_) _ (k.trans k1)⟩
      case refine_2 =>
        cases z
        obtain ⟨z5, z6⟩ := z4 i d ed
        exact ⟨z5, by show 0 + cntB (cntSt 5) (itemD d 2) ≤ 100; omega⟩
      walk_at "rd"
      refine ⟨⟨_, _, rfl⟩, k.trans k1, fun j y hj ey => ?_⟩
      by_cases z : j < i
      · exact okb j y z ey
      · have : j = i := by omega
        subst this
        rw [ed] at ey
        cases ey
        exact ⟨c1, by have : 0 + cntB (cntSt 5) (itemD d 2) ≤ 100 := c2; omega⟩
    obtain ⟨⟨x3, x4, rfl⟩, k2, okb⟩ := hp
    exact q ⟨ws, rfl, cl, ok, fun i x e => okb i x (by have := (List.getElem?_eq_some_iff.mp e).1; omega) e⟩ _ k2
end
end
section
section
variable {P : Program} {w : World} {K : PySem.W.Frag} {mg : Str → Option Value} {base : Heap}
theorem lcTi' {σ : L2.St} {H : Hp} {Q : VK} {te : TE} {a : Addr} {xs : List V} {g : TG} {tt : TT} {vs : List Nat} (Pv : Addr → Nat → Hp → Prop) (h0 : ∀ E H1, H E = none → H1 E = some (.lst []) → Keep [] H H1 → Pv E 0 H1) (hG : ∀ E i H, i ≤ xs.length → Pv E i H → SqT K H a xs)
    (hs : ∀ E i x H, xs[i]? = some x → Pv E i H → g x (wipe σ vs) H fun σ2 H2 => wipe σ2 vs = wipe σ vs ∧ tt σ2 H2 fun b H3 => if b = true then te σ2 H3 fun y H4 => Acc E y H4 (Pv E (i + 1)) else Pv E (i + 1) H3) (hd : ∀ E H, Pv E xs.length H → Q (.ref E) H) : LcIt (Itt K a) g tt te vs σ H Q :=
  lcYi walk_tup Pv h0 hG (fun E i x H H' hi p y => by
    obtain ⟨rfl, e⟩ := y
    exact hs E i x H' e p) hd
noncomputable def flatD : PyData → Prop
  | .tuple _ => False
  | .list _ => False
  | .dict _ => False
  | _ => True
/-- as a thing may lie there: a text in front -/
inductive Tq : PyData → Prop
  | flat {d : PyData} : flatD d → Tq d
  | nil : Tq (.tuple [])
  | str {x : Str} {ds : List PyData} : ds.length ≤ 90000 → (∀ e ∈ ds, Tq e) → Tq (.tuple (.str x :: ds))
noncomputable def spLawNumber (K : PySem.W.Frag) : Sp := fun vs H Q _ => ∃ (v : V) (d : PyData) (k : Int), vs = [v, .int k] ∧ Rp K H v d ∧ Q (.bl (belowD k d)) H
noncomputable abbrev sL_is_number : Stmt := top 54
noncomputable abbrev nL_is_number : List Str := ["_law_part", "_law_below"]
noncomputable abbrev pL_is_number : List Str := ["_law_part", "_law_below"]
theorem scL_is_number : FnScope nL_is_number pL_is_number (defScope sL_is_number) := ⟨rfl, rfl, rfl, by decide +kernel, rfl, by decide +kernel, by decide +kernel⟩
noncomputable abbrev sL_is_thing : Stmt := top 55
noncomputable abbrev nL_is_thing : List Str := ["_law_thing_here", "_law_sizes", "_law_within", "_law_part"]
noncomputable abbrev pL_is_thing : List Str := ["_law_thing_here", "_law_sizes", "_law_within"]
theorem scL_is_thing : FnScope nL_is_thing pL_is_thing (defScope sL_is_thing) := ⟨rfl, rfl, rfl, by decide +kernel, rfl, by decide +kernel, by decide +kernel⟩
theorem okLawNumber (D : DefAt K mg "_law_is_number" sL_is_number pL_is_number) (T : Blt mg) : Callee P w K mg base "_law_is_number" 1 pL_is_number (spLawNumber K) := by
  refine D.ok scL_is_number (fun vs H Q E h => ?_) (fun f cdv A outer s H vs Q E hr h => ?_)
  · obtain ⟨v, d, k, rfl, _⟩ := h
    rfl
  obtain ⟨v, d, k, rfl, hR, q⟩ := h
  refine ⟨_, (pss_one (ps_ret (pe_and (pe_callB (cIsi (K := K)) (by rfl) T.isinstance (by decide +kernel) (pa_cons (pv 0) (pa_cons (pe_bltn rfl T.int (by decide +kernel) (v := .ty "int") rfl) pa_nil))) (pe_and (pe_not (pe_callB (cIsi (K := K)) (by rfl) T.isinstance (by decide +kernel) (pa_cons (pv 0) (pa_cons (pe_bltn rfl T.bool (by decide +kernel) (v := .ty "bool") rfl) pa_nil)))) (pe_one (pe_chain op_le op_lt pe_int (pv 0) (pv 1))))))), ?_⟩
  walk_at "rd"
  cases d with
  | none => cases hR; walk_at "rd"; exact q
  | bool b => cases hR; walk_at "rd"; exact q
  | str x => cases hR; walk_at "rd"; exact q
  | list _ => cases hR
  | dict _ => cases hR
  | tuple ds =>
    obtain ⟨a, xs, rfl, hT, _⟩ := hR.tup_inv
    walk_at "rd"
    exact q
  | int i =>
    cases hR
    walk_at "rd"
    have e : belowD k (.int i) = (decide (0 ≤ i) && decide (i < k)) := rfl
    rw [e] at q
    refine cases_b (decide (0 ≤ i)) (fun c => ?_) (fun c => ?_)
    · rw [if_pos c]
      walk_at "rd"
      rw [c, Bool.true_and] at q
      exact q
    · rw [if_neg (by rw [c]; exact Bool.false_ne_true)]
      rw [c, Bool.false_and] at q
      exact q
theorem okTh_flat {ps os : Int} {d : PyData} (h : flatD d) : ∀ {n : Nat}, okTh ps os n d = false
  | 0 => rfl
  | n + 1 => by
    cases e : okTh ps os (n + 1) d with
    | false => rfl
    | true =>
      obtain ⟨x, ds, rfl⟩ := okTh_str e
      exact h.elim
/-- which words, with how many items -/
theorem okTh_inv {ps os : Int} {n : Nat} {x : Str} {ds : List PyData} (h : okTh ps os n (.tuple (.str x :: ds)) = true) : (x = "sum" ∧ ds.length = 2) ∨ ((x = "cell" ∨ x = "num" ∨ x = "own" ∨ x = "par") ∧ ds.length = 1) := by
  have sh : ∀ {y : Str} {k : Int}, shapedD (.str y) k (.tuple (.str x :: ds)) = true → x = y ∧ ((ds.length + 1 : Nat) : Int) = k := fun {y k} e => by
    have e' := e
    rw [shapedD_str, Bool.and_eq_true, decide_eq_true_eq, List.length_cons] at e'
    exact ⟨eq_of_beq e'.2, e'.1⟩
  cases n with
  | zero => cases h
  | succ n =>
    unfold okTh at h
    split at h
    · rename_i c; obtain ⟨a, b⟩ := sh c; exact .inl ⟨a, by omega⟩
    split at h
    · rename_i c; obtain ⟨a, b⟩ := sh c; exact .inr ⟨.inl a, by omega⟩
    unfold plainD at h
    split at h
    · rename_i c; obtain ⟨a, b⟩ := sh c; exact .inr ⟨.inr (.inl a), by omega⟩
    split at h
    · rename_i c; obtain ⟨a, b⟩ := sh c; exact .inr ⟨.inr (.inr (.inl a)), by omega⟩
    · rw [Bool.and_eq_true] at h
      obtain ⟨a, b⟩ := sh h.1
      exact .inr ⟨.inr (.inr (.inr a)), by omega⟩
theorem okTh_sum {ps os : Int} {n : Nat} {ds : List PyData} (l : ds.length = 2) : okTh ps os (n + 1) (.tuple (.str "sum" :: ds)) = ds.all (okTh ps os n) := by
  obtain ⟨a, b, rfl⟩ : ∃ a b, ds = [a, b] := by
    match ds, l with
    | [a, b], _ => exact ⟨a, b, rfl⟩
  unfold okTh
  rw [if_pos (show shapedD (.str "sum") 3 (.tuple [.str "sum", a, b]) = true from shapedD_str.trans (by decide +kernel : (decide ((3 : Int) = 3) && (("sum" : Str) == "sum")) = true))]
  show (okTh ps os n a && okTh ps os n b) = (okTh ps os n a && (okTh ps os n b && true))
  rw [Bool.and_true]
theorem okTh_cell {ps os : Int} {n : Nat} {ds : List PyData} (l : ds.length = 1) : okTh ps os (n + 1) (.tuple (.str "cell" :: ds)) = ds.all (okTh ps os n) := by
  obtain ⟨a, rfl⟩ : ∃ a, ds = [a] := by
    match ds, l with
    | [a], _ => exact ⟨a, rfl⟩
  unfold okTh
  rw [if_neg (show ¬ shapedD (.str "sum") 3 (.tuple [.str "cell", a]) = true by rw [shapedD_str]; exact (by decide +kernel : ¬ (decide ((2 : Int) = 3) && (("cell" : Str) == "sum")) = true)),
    if_pos (show shapedD (.str "cell") 2 (.tuple [.str "cell", a]) = true from shapedD_str.trans (by decide +kernel : (decide ((2 : Int) = 2) && (("cell" : Str) == "cell")) = true))]
  show okTh ps os n a = (okTh ps os n a && true)
  rw [Bool.and_true]
theorem okTh_low {ps os : Int} {n : Nat} {x : Str} {a : PyData} (h1 : ¬ x = "cell") : okTh ps os (n + 1) (.tuple [.str x, a]) = plainD ps os (.tuple [.str x, a]) := by
  unfold okTh
  rw [if_neg (show ¬ shapedD (.str "sum") 3 (.tuple [.str x, a]) = true by rw [shapedD_str]; exact (fun z => by rw [Bool.and_eq_true, decide_eq_true_eq] at z; have := z.1; simp at this)),
    if_neg (show ¬ shapedD (.str "cell") 2 (.tuple [.str x, a]) = true by rw [shapedD_str]; exact (fun z => by rw [Bool.and_eq_true] at z; exact h1 (eq_of_beq z.2)))]
theorem okTh_num {ps os : Int} {n : Nat} {a : PyData} : okTh ps os (n + 1) (.tuple [.str "num", a]) = belowD 3 a := by
  rw [okTh_low (by decide +kernel)]
  unfold plainD
  rw [if_pos (show shapedD (.str "num") 2 (.tuple [.str "num", a]) = true from shapedD_str.trans (by decide +kernel : (decide ((2 : Int) = 2) && (("num" : Str) == "num")) = true))]
  rfl
theorem okTh_own {ps os : Int} {n : Nat} {a : PyData} : okTh ps os (n + 1) (.tuple [.str "own", a]) = belowD os a := by
  rw [okTh_low (by decide +kernel)]
  unfold plainD
  rw [if_neg (show ¬ shapedD (.str "num") 2 (.tuple [.str "own", a]) = true by rw [shapedD_str]; exact (by decide +kernel : ¬ (decide ((2 : Int) = 2) && (("own" : Str) == "num")) = true)),
    if_pos (show shapedD (.str "own") 2 (.tuple [.str "own", a]) = true from shapedD_str.trans (by decide +kernel : (decide ((2 : Int) = 2) && (("own" : Str) == "own")) = true))]
  rfl
theorem okTh_par {ps os : Int} {n : Nat} {a : PyData} : okTh ps os (n + 1) (.tuple [.str "par", a]) = belowD ps a := by
  rw [okTh_low (by decide +kernel)]
  unfold plainD
  rw [if_neg (show ¬ shapedD (.str "num") 2 (.tuple [.str "par", a]) = true by rw [shapedD_str]; exact (by decide +kernel : ¬ (decide ((2 : Int) = 2) && (("par" : Str) == "num")) = true)),
    if_neg (show ¬ shapedD (.str "own") 2 (.tuple [.str "par", a]) = true by rw [shapedD_str]; exact (by decide +kernel : ¬ (decide ((2 : Int) = 2) && (("par" : Str) == "own")) = true)),
    show shapedD (.str "par") 2 (.tuple [.str "par", a]) = true from shapedD_str.trans (by decide +kernel : (decide ((2 : Int) = 2) && (("par" : Str) == "par")) = true), Bool.true_and]
  rfl
theorem inV_strs' {x : Str} {l : List Str} : inV (V.str x) (l.map V.str) = decide (x ∈ l) := by
  unfold inV
  rw [List.any_map, Bool.eq_iff_iff, List.any_eq_true, decide_eq_true_eq]
  constructor
  · rintro ⟨y, hy, e⟩
    have e' : (y == x) = true := e
    rw [eq_of_beq e'] at hy
    exact hy
  · intro h
    exact ⟨x, h, (beq_self_eq_true x : (x == x) = true)⟩
theorem inV_ints' {i : Int} {l : List Int} : inV (V.int i) (l.map V.int) = decide (i ∈ l) := by
  unfold inV
  rw [List.any_map, Bool.eq_iff_iff, List.any_eq_true, decide_eq_true_eq]
  constructor
  · rintro ⟨y, hy, e⟩
    have e' : (y == i) = true := e
    rw [eq_of_beq e'] at hy
    exact hy
  · intro h
    exact ⟨i, h, (beq_self_eq_true i : (i == i) = true)⟩
theorem cutV_tail' {x : V} {xs : List V} : cutV (x :: xs) (some 1) none = xs := by
  unfold cutV HT.sIx
  simp
noncomputable def spLawIsThing (K : PySem.W.Frag) (n : Nat) : Sp := fun vs H Q _ => ∃ (v : V) (sz : Addr) (d : PyData) (ps os : Int) (i : Nat), vs = [v, .ref sz, .int (i : Int)] ∧ SqT K H sz [.int ps, .int os] ∧ Rp K H v d ∧ Tq d ∧ i ≤ 5 ∧ 6 ≤ n + i ∧ ∀ H', Keep [] H H' → Q (.bl (okTh ps os (5 - i) d)) H'
theorem okLawIsThing (D : DefAt K mg "_law_is_thing" sL_is_thing pL_is_thing) (T : Blt mg) (C_law_is_number : Callee P w K mg base "_law_is_number" 1 pL_is_number (spLawNumber K)) : ∀ n : Nat, Callee P w K mg base "_law_is_thing" (n + 2) pL_is_thing (spLawIsThing K n)
  | 0 => D.none fun vs H Q E h => by
    obtain ⟨v, sz, d, ps, os, i, rfl, _, _, _, h1, h2, _⟩ := h
    omega
  | n + 1 => by
    have C_law_is_thing := okLawIsThing D T C_law_is_number n
    refine D.ok scL_is_thing (fun vs H Q E h => ?_) (fun f cdv A outer s H vs Q E hr h => ?_)
    · obtain ⟨v, sz, d, ps, os, i, rfl, _⟩ := h
      rfl
    obtain ⟨v, sz, d, ps, os, i, rfl, hZ, hR, tq, i5, ni, q⟩ := h
    refine ⟨_, (pss_cons (ps_if (PW.pt (pw_or (pt_not (pt_val (pe_callB (cIsi (K := K)) (by rfl) T.isinstance (by decide +kernel) (pa_cons (pv 0) (pa_cons (pe_bltn rfl T.tuple (by decide +kernel) (v := .ty "tuple") rfl) pa_nil))))) (pw_or (pt_cmpR op_gt (pv 2) pe_int (nomark _)) (pw_or1 (pt_cmpR (opNotIn (K := K)) (pe_callB (cLen (K := K)) (by rfl) T.len PySem.boot_len (pa_cons (pv 0) pa_nil)) (pe_tup (pa_cons pe_int (pa_cons pe_int pa_nil))) (by with_unfolding_all rfl)))))) (pss_one (ps_ret pe_bl)) pss_nil)
  (pss_cons (ps_if (PW.pt (pw_or (pt_cmpR (opNotIn (K := K)) (pe_ix (ixT (K := K)) (pv 0) pe_int (fun _ _ => rfl)) (pe_tup (pa_cons pe_str (pa_cons pe_str (pa_cons pe_str (pa_cons pe_str (pa_cons pe_str pa_nil)))))) (by with_unfolding_all rfl)) (pw_or1 (pt_cmpR op_ne (pe_cmpR op_eq (pe_ix (ixT (K := K)) (pv 0) pe_int (fun _ _ => rfl)) pe_str (nomark _)) (pe_cmpR op_eq (pe_callB (cLen (K := K)) (by rfl) T.len PySem.boot_len (pa_cons (pv 0) pa_nil)) pe_int (nomark _)) (nomark _))))) (pss_one (ps_ret pe_bl)) pss_nil)
  (pss_cons (ps_if (pt_cmpR (opIn (K := K)) (pe_ix (ixT (K := K)) (pv 0) pe_int (fun _ _ => rfl)) (pe_tup (pa_cons pe_str (pa_cons pe_str pa_nil))) (by with_unfolding_all rfl)) (pss_one (ps_ret (pe_cmpR (opEqE (K := K) hr.units0) (pe_lc (own := [("_law_part", 3)]) (g := gName 3) (by rfl) scL_is_thing.nd (piTup (K := K) (pe_slice (slA (K := K)) (pv 0) (po_some pe_int) po_none)) (blkOk_by (own := [("_law_part", 3)]) (N := nL_is_thing) (sc := defScope sL_is_thing) (by decide +kernel)) (fun _ _ _ _ _ => (pg_name (i := 3) scL_is_thing.nd rfl (Or.inl rfl))) (fun _ _ _ _ _ => (pts_one (pt_not (pt_val (pcall C_law_is_thing (hr.mono (by first | exact Nat.le_of_ble_eq_true rfl | omega)) rfl (pa_cons (pv 3) (pa_cons (pv 1) (pa_cons (pe_op op_add (pv 2) pe_int) pa_nil)))))))) (fun _ _ _ _ _ => (pv 3))) (pe_lst pa_nil) (nomark _)))) pss_nil)
  (pss_one (ps_ret (pcall C_law_is_number (hr.mono (by first | exact Nat.le_of_ble_eq_true rfl | omega)) rfl (pa_cons (pe_ix (ixT (K := K)) (pv 0) pe_int (fun _ _ => rfl)) (pa_cons (pe_dget (hu_of hr) (pe_disp (pps_cons pe_str pe_int (pps_cons pe_str (pe_ix (ixT (K := K)) (pv 1) pe_int (fun _ _ => rfl)) (pps_cons pe_str (pe_ix (ixT (K := K)) (pv 1) pe_int (fun _ _ => rfl)) pps_nil))) (by rfl) (by rfl) (fun z => by cases z) (by decide)) (pe_ix (ixT (K := K)) (pv 0) pe_int (fun _ _ => rfl)) (fun _ _ => rfl)) pa_nil)))))))), ?_⟩
    walk_at "rd"
    cases tq with
    | flat hf =>
      rw [okTh_flat hf] at q
      cases hR with
      | tup _ _ => exact hf.elim
      | _ =>
        refine r_or ?_
        walk_at "rd"
        exact q H Keep.refl
    | nil =>
      obtain ⟨a, xs, rfl, hT, hx⟩ := hR.tup_inv
      cases hx.inv0
      have e : okTh ps os (5 - i) (.tuple []) = false := by
        cases c : okTh ps os (5 - i) (.tuple []) with
        | false => rfl
        | true => obtain ⟨x, ds, e⟩ := okTh_str c; cases e
      rw [e] at q
      refine r_or ?_
      walk_at "rd"
      refine r_or ?_
      walk_at "rd"
      refine ite2 (fun c => ?_) (fun c => ?_)
      · walk_at "rd"
        exact q H Keep.refl
      · walk_at "rd"
        intro p1 H1 n1 h1 k1
        walk_at "rd"
        exact q H1 k1
    | @str x ds lds tqs =>
      obtain ⟨a, xs, rfl, hT, hx⟩ := hR.tup_inv
      obtain ⟨v0, r, rfl, h0, hr'⟩ := hx.inv
      cases h0.str_inv
      have lr := hr'.length
      have a0 : atI (V.str x :: r) 0 = some (.str x) := at0
      refine r_or ?_
      walk_at "rd"
      refine r_or ?_
      walk_at "rd"
      refine ite2 (fun c => ?_) (fun c => ?_)
      · have : (4 : Int) < (i : Int) := of_decide_eq_true c
        have e : 5 - i = 0 := by omega
        rw [e] at q
        walk_at "rd"
        exact q H Keep.refl
      have i4 : i ≤ 4 := by
        have : ¬ (4 : Int) < (i : Int) := fun z => c (decide_eq_true z)
        omega
      have e5 : 5 - i = (4 - i) + 1 := by omega
      have e4 : 5 - (i + 1) = 4 - i := by omega
      rw [e5] at q
      walk_at "rd"
      intro p1 H1 n1 h1 k1
      have hT1 := (keep_ts0 k1).sqT hT
      walk_at "rd"
      have lx : ((V.str x :: r).length : Int) = (ds.length : Int) + 1 := by rw [List.length_cons, lr]; rfl
      have ei : inV (V.int ((V.str x :: r).length : Int)) [V.int 2, V.int 3] = decide (ds.length = 1 ∨ ds.length = 2) := by
        rw [show [V.int 2, V.int 3] = ([2, 3] : List Int).map V.int from rfl, inV_ints', lx]
        refine decide_eq_decide.mpr ?_
        simp only [List.mem_cons, List.not_mem_nil, or_false]
        omega
      have no : ∀ H', Keep [] H H' → okTh ps os (4 - i + 1) (.tuple (.str x :: ds)) = false → Q (.bl false) H' := fun H' k e => by
        rw [e] at q
        exact q H' k
      rw [if_pos rfl, ei]
      by_cases cl : ds.length = 1 ∨ ds.length = 2
      case neg =>
        rw [decide_eq_false cl]
        walk_at "rd"
        refine no H1 k1 ?_
        cases e : okTh ps os (4 - i + 1) (.tuple (.str x :: ds)) with
        | false => rfl
        | true => exact absurd (okTh_inv e) (by omega)
      rw [decide_eq_true cl]
      walk_at "rd"
      refine r_or ?_
      walk_at "rd"
      intro p2 H2 n2 h2 k2
      have hT2 := (keep_ts0 k2).sqT hT1
      have k02 := k1.trans k2
      walk_at "rd"
      have ew : inV (V.str x) [V.str "num", V.str "own", V.str "par", V.str "cell", V.str "sum"] = decide (x ∈ (["num", "own", "par", "cell", "sum"] : List Str)) := inV_strs' (l := ["num", "own", "par", "cell", "sum"])
      rw [if_pos rfl, ew]
      by_cases cw : x ∈ (["num", "own", "par", "cell", "sum"] : List Str)
      case neg =>
        rw [decide_eq_false cw]
        walk_at "rd"
        refine no H2 k02 ?_
        cases e : okTh ps os (4 - i + 1) (.tuple (.str x :: ds)) with
        | false => rfl
        | true =>
          refine absurd ?_ cw
          rcases okTh_inv e with ⟨rfl, _⟩ | ⟨rfl | rfl | rfl | rfl, _⟩ <;> simp
      rw [decide_eq_true cw]
      walk_at "rd"
      have eq3 : decide (V.int ((V.str x :: r).length : Int) = V.int 3) = decide (ds.length = 2) := decide_eq_decide.mpr ⟨fun z => by have := V.int.inj z; omega, fun z => by rw [lx, z]; rfl⟩
      have eqs : decide (V.str x = V.str "sum") = decide (x = "sum") := decide_eq_decide.mpr ⟨V.str.inj, congrArg V.str⟩
      rw [eq3, eqs]
      by_cases cb : (x = "sum" ↔ ds.length = 2)
      case neg =>
        have e : decide (V.bl (decide (x = "sum")) = V.bl (decide (ds.length = 2))) = false := decide_eq_false fun z => cb (decide_eq_decide.mp (V.bl.inj z))
        rw [e]
        walk_at "rd"
        refine no H2 k02 ?_
        cases e : okTh ps os (4 - i + 1) (.tuple (.str x :: ds)) with
        | false => rfl
        | true =>
          refine absurd ?_ cb
          rcases okTh_inv e with ⟨rfl, l⟩ | ⟨h, l⟩
          · exact ⟨fun _ => l, fun _ => rfl⟩
          · refine ⟨fun z => ?_, fun z => by omega⟩
            subst z
            exact absurd h (by decide +kernel)
      have ebl : decide (V.bl (decide (x = "sum")) = V.bl (decide (ds.length = 2))) = true := decide_eq_true (by rw [decide_eq_decide.mpr cb])
      rw [ebl]
      walk_at "rd"
      intro p3 H3 n3 h3 k3
      have hT3 := (keep_ts0 k3).sqT hT2
      have k03 := k02.trans k3
      walk_at "rd"
      have ew2 : inV (V.str x) [V.str "cell", V.str "sum"] = decide (x ∈ (["cell", "sum"] : List Str)) := inV_strs' (l := ["cell", "sum"])
      rw [if_neg Bool.false_ne_true, ew2]
      by_cases cc : x ∈ (["cell", "sum"] : List Str)
      · rw [decide_eq_true cc]
        have all : okTh ps os (4 - i + 1) (.tuple (.str x :: ds)) = ds.all (okTh ps os (4 - i)) := by
          rcases List.mem_cons.mp cc with rfl | cc
          · exact okTh_cell (by rcases cl with l | l; exact l; exact absurd (cb.mpr l) (by decide +kernel))
          · cases List.mem_singleton.mp cc
            exact okTh_sum (cb.mp rfl)
        rw [all] at q
        walk_at "rd"
        intro sl H4 hsl k4 f4
        rw [cutV_tail'] at hsl
        have k04 := k03.trans k4
        walk_at "rd"
        refine lcTi' (xs := r) (fun E j H' => ∃ ys : List V, H4 E = none ∧ Keep [] H4 H' ∧ H' E = some (.lst ys) ∧ ys.length ≤ j ∧ ys.isEmpty = (ds.take j).all (okTh ps os (4 - i))) (fun E H5 nE e5 k5 => ⟨[], nE, k5, e5, Nat.le_refl _, rfl⟩) (fun E j H5 _ hp => ?_) (fun E j y H5 hy hp => ?_) (fun E H5 hp => ?_)
        · obtain ⟨ys, nE, k5, _⟩ := hp
          exact (keep_ts0 k5).sqT hsl
        · obtain ⟨ys, nE, k5, h5, ly, ey⟩ := hp
          obtain ⟨dd, ed, rd⟩ := hr'.get' hy
          have mem := List.mem_of_getElem? ed
          have lt : ys.length ≤ 90000 := by have := (List.getElem?_eq_some_iff.mp hy).1; omega
          have tk1 : ds.take (j + 1) = ds.take j ++ [dd] := by rw [List.take_add_one, ed]; rfl
          have al : (ds.take (j + 1)).all (okTh ps os (4 - i)) = ((ds.take j).all (okTh ps os (4 - i)) && okTh ps os (4 - i) dd) := by
            rw [tk1, List.all_append]
            show (_ && (okTh ps os (4 - i) dd && true)) = _
            rw [Bool.and_true]
          walk_at "rd"
          refine ⟨rfl, ?_⟩
          walk_at "rd"
          refine ask ⟨y, sz, dd, ps, os, i + 1, by rw [Int.natCast_add]; rfl, (keep_ts0 (k04.trans k5)).sqT hZ, rd.ts (keep_ts0 (k04.trans k5)), tqs dd mem, by omega, by omega, fun H6 k6 => ?_⟩
          have h6 := k6 _ _ h5 (by simp)
          rw [e4]
          walk_at "rd"
          refine cases_b (okTh ps os (4 - i) dd) (fun c => ?_) (fun c => ?_)
          · rw [c, if_neg (by decide)]
            exact ⟨ys, nE, k5.trans k6, h6, by omega, by rw [al, c, Bool.and_true]; exact ey⟩
          · rw [c, if_pos (by decide)]
            walk_at "rd"
            intro H7 h7 k7
            refine ⟨_, nE, (k5.trans k6).fresh1 k7 nE, h7, by rw [List.length_append]; show ys.length + 1 ≤ _; omega, ?_⟩
            rw [al, c, Bool.and_false]
            cases ys <;> rfl
        · obtain ⟨ys, nE, k5, h5, ly, ey⟩ := hp
          rw [List.take_of_length_le (by omega)] at ey
          walk_at "rd"
          intro el H6 nel hel k6
          have h6 := k6 _ _ h5 (by simp)
          walk_at "rd"
          refine r_eqEL (SqL.of h6) (SqL.of hel) ?_
          rw [ey]
          exact q H6 ((k04.trans k5).trans k6)
      · rw [decide_eq_false cc]
        have l1 : ds.length = 1 := by
          rcases cl with l | l
          · exact l
          · exact absurd (by rw [cb.mpr l]; simp) cc
        obtain ⟨d1, rfl⟩ : ∃ d1, ds = [d1] := by
          match ds, l1 with
          | [d1], _ => exact ⟨d1, rfl⟩
        obtain ⟨v1, r1, rfl, g1, gr⟩ := hr'.inv
        cases gr.inv0
        have a1 : atI [V.str x, v1] 1 = some v1 := at1
        have z0 : atI [V.int ps, V.int os] 0 = some (.int ps) := at0
        have z1 : atI [V.int ps, V.int os] 1 = some (.int os) := at1
        have hZ3 := (keep_ts0 k03).sqT hZ
        have x3 : x = "num" ∨ x = "par" ∨ x = "own" := by
          simp only [List.mem_cons, List.not_mem_nil, or_false] at cw cc
          rcases cw with h | h | h | h | h
          · exact .inl h
          · exact .inr (.inr h)
          · exact .inr (.inl h)
          · exact absurd (.inl h) cc
          · exact absurd (.inr h) cc
        walk_at "rd"
        intro dp H4 n4 h4 k4
        have hZ4 := (keep_ts0 k4).sqT hZ3
        have hT4 := (keep_ts0 k4).sqT hT3
        walk_at "rd"
        refine disp [(.inr "num", .int 3), (.inr "par", .int ps), (.inr "own", .int os)] h4 rfl (by show 3 ≤ 15; omega) (by show ([.inr ("num" : Str), .inr ("par" : Str), .inr ("own" : Str)] : List Key).Nodup; decide +kernel) fun H5 h5 k5 => ?_
        have t45 : Tst H4 H5 := k5.ts fun y hy => by cases List.mem_singleton.mp hy; exact .inr (.inl ⟨_, h4⟩)
        have hT5 := t45.sqT hT4
        have k35 : Keep [] H3 H5 := k4.fresh1 k5 n4
        have g5 := g1.ts (keep_ts0 (k03.trans k35))
        have vn : valV [((.inr ("num" : Str) : Key), V.int 3), (.inr "par", .int ps), (.inr "own", .int os)] (.inr "num") = some (.int 3) := by rfl
        have vp : valV [((.inr ("num" : Str) : Key), V.int 3), (.inr "par", .int ps), (.inr "own", .int os)] (.inr "par") = some (.int ps) := by
          unfold valV
          rw [List.find?_cons_of_neg (by show ¬ decide ((.inr ("num" : Str) : Key) = .inr ("par" : Str)) = true; decide +kernel), List.find?_cons_of_pos (by show decide ((.inr ("par" : Str) : Key) = .inr ("par" : Str)) = true; decide +kernel)]
          rfl
        have vo : valV [((.inr ("num" : Str) : Key), V.int 3), (.inr "par", .int ps), (.inr "own", .int os)] (.inr "own") = some (.int os) := by
          unfold valV
          rw [List.find?_cons_of_neg (by show ¬ decide ((.inr ("num" : Str) : Key) = .inr ("own" : Str)) = true; decide +kernel), List.find?_cons_of_neg (by show ¬ decide ((.inr ("par" : Str) : Key) = .inr ("own" : Str)) = true; decide +kernel), List.find?_cons_of_pos (by show decide ((.inr ("own" : Str) : Key) = .inr ("own" : Str)) = true; decide +kernel)]
          rfl
        walk_at "rd"
        rcases x3 with rfl | rfl | rfl
        · refine r_dgetS h5 vn ?_
          walk_at "rd"
          refine ask ⟨v1, d1, 3, rfl, g5, ?_⟩
          rw [okTh_num] at q
          exact q H5 (k03.trans k35)
        · refine r_dgetS h5 vp ?_
          walk_at "rd"
          refine ask ⟨v1, d1, ps, rfl, g5, ?_⟩
          rw [okTh_par] at q
          exact q H5 (k03.trans k35)
        · refine r_dgetS h5 vo ?_
          walk_at "rd"
          refine ask ⟨v1, d1, os, rfl, g5, ?_⟩
          rw [okTh_own] at q
          exact q H5 (k03.trans k35)
end
end
section
section
variable {P : Program} {w : World} {K : PySem.W.Frag} {mg : Str → Option Value} {base : Heap}
noncomputable def Cq (d : PyData) : Prop := ∀ ts, d = .tuple ts → ts.length ≤ 90000 ∧ ∀ t ∈ ts, Tq t
mutual
inductive Sq : PyData → Prop
  | flat {d : PyData} : flatD d → Sq d
  | nil : Sq (.tuple [])
  | other {x : Str} {ds : List PyData} : x ≠ "if" → x ≠ "call" → ds.length ≤ 90000 → (∀ e ∈ ds, Tq e) → Sq (.tuple (.str x :: ds))
  | ite0 : Sq (.tuple [.str "if"])
  | ite {t : PyData} {bs : List PyData} : bs.length ≤ 90000 → Tq t → (∀ e ∈ bs, Bq e) → Sq (.tuple (.str "if" :: t :: bs))
  | call {ds : List PyData} : ds.length ≤ 90000 → (∀ e, ds[1]? = some e → Cq e) → Sq (.tuple (.str "call" :: ds))
inductive Bq : PyData → Prop
  | flat {d : PyData} : flatD d → Bq d
  | tup {ss : List PyData} : ss.length ≤ 90000 → (∀ s ∈ ss, Sq s) → Bq (.tuple ss)
end
theorem Sq.cases {d : PyData} (h : Sq d) : flatD d ∨ d = .tuple [] ∨ ∃ x ds, d = .tuple (.str x :: ds) ∧ ds.length ≤ 90001 := by
  cases h with
  | flat h => exact .inl h
  | nil => exact .inr (.inl rfl)
  | other _ _ l _ => exact .inr (.inr ⟨_, _, rfl, by omega⟩)
  | ite0 => exact .inr (.inr ⟨_, _, rfl, by simp⟩)
  | ite l _ _ => exact .inr (.inr ⟨_, _, rfl, by rw [List.length_cons]; omega⟩)
  | call l _ => exact .inr (.inr ⟨_, _, rfl, by omega⟩)
theorem Sq.things {x : Str} {ds : List PyData} (h : Sq (.tuple (.str x :: ds))) (n1 : x ≠ "if") (n2 : x ≠ "call") : ∀ e ∈ ds, Tq e := by
  cases h with
  | flat h => exact h.elim
  | other _ _ _ g => exact g
  | ite0 => exact absurd rfl n1
  | ite _ _ _ => exact absurd rfl n1
  | call _ _ => exact absurd rfl n2
theorem Sq.ites {t b c : PyData} (h : Sq (.tuple [.str "if", t, b, c])) : Tq t ∧ Bq b ∧ Bq c := by
  cases h with
  | flat h => exact h.elim
  | other n1 _ _ _ => exact absurd rfl n1
  | ite _ g1 g2 => exact ⟨g1, g2 b (by simp), g2 c (by simp)⟩
theorem Sq.calls {c t : PyData} (h : Sq (.tuple [.str "call", c, t])) : Cq t := by
  cases h with
  | flat h => exact h.elim
  | other _ n2 _ _ => exact absurd rfl n2
  | call _ g => exact g t rfl
theorem okSt_inv {sh : List (Nat × Nat)} {i n : Nat} {x : Str} {ds : List PyData} (h : okSt sh i n (.tuple (.str x :: ds)) = true) : (x = "set" ∧ ds.length = 2) ∨ (x = "say" ∧ ds.length = 1) ∨ (x = "if" ∧ ds.length = 3) ∨ (x = "call" ∧ ds.length = 2) := by
  have sp : ∀ {y : Str} {k : Int}, shapedD (.str y) k (.tuple (.str x :: ds)) = true → x = y ∧ ((ds.length + 1 : Nat) : Int) = k := fun {y k} e => by
    have e' := e
    rw [shapedD_str, Bool.and_eq_true, decide_eq_true_eq, List.length_cons] at e'
    exact ⟨eq_of_beq e'.2, e'.1⟩
  cases n with
  | zero => cases h
  | succ n =>
    unfold okSt at h
    split at h
    · rename_i c; obtain ⟨a, b⟩ := sp c; exact .inl ⟨a, by omega⟩
    split at h
    · rename_i c; obtain ⟨a, b⟩ := sp c; exact .inr (.inl ⟨a, by omega⟩)
    split at h
    · rename_i c; obtain ⟨a, b⟩ := sp c; exact .inr (.inr (.inl ⟨a, by omega⟩))
    · rw [Bool.and_eq_true] at h
      obtain ⟨a, b⟩ := sp h.1
      exact .inr (.inr (.inr ⟨a, by omega⟩))
theorem sd_no {x y : Str} {ds : List PyData} {k : Int} (h : ¬ x = y) : ¬ shapedD (.str y) k (.tuple (.str x :: ds)) = true := by
  rw [shapedD_str, Bool.and_eq_true]
  exact fun z => h (eq_of_beq z.2)
theorem sd_yes {x : Str} {ds : List PyData} {k : Int} (h : ((ds.length + 1 : Nat) : Int) = k) : shapedD (.str x) k (.tuple (.str x :: ds)) = true := by
  rw [shapedD_str, Bool.and_eq_true, decide_eq_true_eq, List.length_cons]
  exact ⟨h, beq_self_eq_true x⟩
section
variable {sh : List (Nat × Nat)} {i n : Nat} {a b c : PyData}
theorem okSt_set : okSt sh i (n + 1) (.tuple [.str "set", a, b]) = ((okT sh i a && placeD a) && okT sh i b) := by
  unfold okSt
  rw [if_pos (sd_yes (x := "set") (ds := [a, b]) (k := 3) rfl)]
  rfl
theorem okSt_say : okSt sh i (n + 1) (.tuple [.str "say", a]) = okT sh i a := by
  unfold okSt
  rw [if_neg (sd_no (by decide +kernel)), if_pos (sd_yes (x := "say") (ds := [a]) (k := 2) rfl)]
  rfl
theorem okSt_ite : okSt sh i (n + 1) (.tuple [.str "if", a, b, c]) = (okT sh i a && (bodyD (okSt sh i n) b && bodyD (okSt sh i n) c)) := by
  show (if shapedD (.str "set") 3 (.tuple [.str "if", a, b, c]) = true then _ else if shapedD (.str "say") 2 (.tuple [.str "if", a, b, c]) = true then _ else if shapedD (.str "if") 4 (.tuple [.str "if", a, b, c]) = true then _ else _) = _
  rw [if_neg (sd_no (by decide +kernel)), if_neg (sd_no (by decide +kernel)), if_pos (sd_yes (x := "if") (ds := [a, b, c]) (k := 4) rfl)]
  rfl
theorem okSt_call : okSt sh i (n + 1) (.tuple [.str "call", a, b]) = callD sh i a b := by
  show (if shapedD (.str "set") 3 (.tuple [.str "call", a, b]) = true then _ else if shapedD (.str "say") 2 (.tuple [.str "call", a, b]) = true then _ else if shapedD (.str "if") 4 (.tuple [.str "call", a, b]) = true then _ else _) = _
  rw [if_neg (sd_no (by decide +kernel)), if_neg (sd_no (by decide +kernel)), if_neg (sd_no (by decide +kernel)), sd_yes (x := "call") (ds := [a, b]) (k := 3) rfl, Bool.true_and]
  rfl
end
/-- the shapes lie there, a list of pairs -/
noncomputable def Shs (K : PySem.W.Frag) (H : Hp) (s : Addr) (sh : List (Nat × Nat)) : Prop := ∃ xs : List V, SqL K H s xs ∧ xs.length = sh.length ∧ ∀ i : Nat, i < sh.length → ∃ wp : Addr, atI xs (i : Int) = some (.ref wp) ∧ SqT K H wp [.int ((shOf sh i).1 : Int), .int ((shOf sh i).2 : Int)]
theorem Shs.keep0 {H H1 : Hp} {s : Addr} {sh : List (Nat × Nat)} (h : Shs K H s sh) (k : Keep [] H H1) : Shs K H1 s sh := by
  obtain ⟨xs, h1, h2, h3⟩ := h
  refine ⟨xs, k.sqL (by simp) h1, h2, fun i hi => ?_⟩
  obtain ⟨wp, e1, e2⟩ := h3 i hi
  exact ⟨wp, e1, (keep_ts0 k).sqT e2⟩
noncomputable def spLawIsStep (K : PySem.W.Frag) (n : Nat) : Sp := fun vs H Q _ => ∃ (s : Addr) (sh : List (Nat × Nat)) (i h : Nat) (v : V) (d : PyData), vs = [.ref s, .int (i : Int), v, .int (h : Int)] ∧ Shs K H s sh ∧ i < sh.length ∧ Rp K H v d ∧ Sq d ∧ h ≤ 5 ∧ 6 ≤ n + h ∧ ∀ H', Keep [] H H' → Q (.bl (okSt sh i (5 - h) d)) H'
noncomputable def spLawIsBody (K : PySem.W.Frag) (n : Nat) : Sp := fun vs H Q _ => ∃ (s : Addr) (sh : List (Nat × Nat)) (i h : Nat) (v : V) (d : PyData), vs = [.ref s, .int (i : Int), v, .int (h : Int)] ∧ Shs K H s sh ∧ i < sh.length ∧ Rp K H v d ∧ Bq d ∧ h ≤ 5 ∧ 6 ≤ n + h ∧ ∀ H', Keep [] H H' → Q (.bl (bodyD (okSt sh i (5 - h)) d)) H'
noncomputable abbrev sL_is_step : Stmt := top 56
noncomputable abbrev nL_is_step : List Str := ["_law_shapes", "_law_at", "_law_step_here", "_law_within", "_law_things", "_law_bodies", "_law_thing_here", "_law_body_here"]
noncomputable abbrev pL_is_step : List Str := ["_law_shapes", "_law_at", "_law_step_here", "_law_within"]
theorem scL_is_step : FnScope nL_is_step pL_is_step (defScope sL_is_step) := ⟨rfl, rfl, rfl, by decide +kernel, rfl, by decide +kernel, by decide +kernel⟩
noncomputable abbrev sL_is_body : Stmt := top 57
noncomputable abbrev nL_is_body : List Str := ["_law_shapes", "_law_at", "_law_body_here", "_law_within", "_law_step_here"]
noncomputable abbrev pL_is_body : List Str := ["_law_shapes", "_law_at", "_law_body_here", "_law_within"]
theorem scL_is_body : FnScope nL_is_body pL_is_body (defScope sL_is_body) := ⟨rfl, rfl, rfl, by decide +kernel, rfl, by decide +kernel, by decide +kernel⟩
theorem okLawIsBody {n : Nat} (D : DefAt K mg "_law_is_body" sL_is_body pL_is_body) (T : Blt mg) (C_law_is_step : Callee P w K mg base "_law_is_step" (2 * n + 10) pL_is_step (spLawIsStep K (n + 1))) : Callee P w K mg base "_law_is_body" (2 * n + 11) pL_is_body (spLawIsBody K (n + 1)) := by
  refine D.ok scL_is_body (fun vs H Q E h => ?_) (fun f cdv A outer s H vs Q E hr h => ?_)
  · obtain ⟨s, sh, i, h, v, d, rfl, _⟩ := h
    rfl
  obtain ⟨s, sh, i, h, v, d, rfl, hS, hi, hR, bq, h5, nh, q⟩ := h
  refine ⟨_, (pss_cons (ps_if (pt_not (pt_val (pe_callB (cIsi (K := K)) (by rfl) T.isinstance (by decide +kernel) (pa_cons (pv 2) (pa_cons (pe_bltn rfl T.tuple (by decide +kernel) (v := .ty "tuple") rfl) pa_nil))))) (pss_one (ps_ret pe_bl)) pss_nil)
  (pss_one (ps_ret (pe_cmpR (opEqE (K := K) hr.units0) (pe_lc (own := [("_law_step_here", 4)]) (g := gName 4) (by rfl) scL_is_body.nd (piTup (K := K) (pv 2)) (blkOk_by (own := [("_law_step_here", 4)]) (N := nL_is_body) (sc := defScope sL_is_body) (by decide +kernel)) (fun _ _ _ _ _ => (pg_name (i := 4) scL_is_body.nd rfl (Or.inl rfl))) (fun _ _ _ _ _ => (pts_one (pt_not (pt_val (pcall C_law_is_step (hr.mono (by first | exact Nat.le_of_ble_eq_true rfl | omega)) rfl (pa_cons (pv 0) (pa_cons (pv 1) (pa_cons (pv 4) (pa_cons (pv 3) pa_nil))))))))) (fun _ _ _ _ _ => (pv 4))) (pe_lst pa_nil) (nomark _))))), ?_⟩
  walk_at "rd"
  cases bq with
  | flat hf =>
    have e : bodyD (okSt sh i (5 - h)) d = false := by
      cases d <;> first | rfl | exact hf.elim
    rw [e] at q
    cases hR with
    | tup _ _ => exact hf.elim
    | _ =>
      walk_at "rd"
      exact q H Keep.refl
  | @tup ss ls sq =>
    obtain ⟨a, xs, rfl, hT, hx⟩ := hR.tup_inv
    have lx := hx.length
    have eb : bodyD (okSt sh i (5 - h)) (.tuple ss) = ss.all (okSt sh i (5 - h)) := rfl
    rw [eb] at q
    walk_at "rd"
    refine lcTi' (xs := xs) (fun E j H' => ∃ ys : List V, H E = none ∧ Keep [] H H' ∧ H' E = some (.lst ys) ∧ ys.length ≤ j ∧ ys.isEmpty = (ss.take j).all (okSt sh i (5 - h))) (fun E H5 nE e5 k5 => ⟨[], nE, k5, e5, Nat.le_refl _, rfl⟩) (fun E j H5 _ hp => ?_) (fun E j y H5 hy hp => ?_) (fun E H5 hp => ?_)
    · obtain ⟨ys, nE, k5, _⟩ := hp
      exact (keep_ts0 k5).sqT hT
    · obtain ⟨ys, nE, k5, h5', ly, ey⟩ := hp
      obtain ⟨dd, ed, rd⟩ := hx.get' hy
      have mem := List.mem_of_getElem? ed
      have lt : ys.length ≤ 90000 := by have := (List.getElem?_eq_some_iff.mp hy).1; omega
      have tk1 : ss.take (j + 1) = ss.take j ++ [dd] := by rw [List.take_add_one, ed]; rfl
      have al : (ss.take (j + 1)).all (okSt sh i (5 - h)) = ((ss.take j).all (okSt sh i (5 - h)) && okSt sh i (5 - h) dd) := by
        rw [tk1, List.all_append]
        show (_ && (okSt sh i (5 - h) dd && true)) = _
        rw [Bool.and_true]
      walk_at "rd"
      refine ⟨rfl, ?_⟩
      walk_at "rd"
      refine ask ⟨s, sh, i, h, y, dd, rfl, hS.keep0 k5, hi, rd.ts (keep_ts0 k5), sq dd mem, h5, nh, fun H6 k6 => ?_⟩
      have h6 := k6 _ _ h5' (by simp)
      walk_at "rd"
      refine cases_b (okSt sh i (5 - h) dd) (fun c => ?_) (fun c => ?_)
      · rw [c, if_neg (by decide)]
        exact ⟨ys, nE, k5.trans k6, h6, by omega, by rw [al, c, Bool.and_true]; exact ey⟩
      · rw [c, if_pos (by decide)]
        walk_at "rd"
        intro H7 h7 k7
        refine ⟨_, nE, (k5.trans k6).fresh1 k7 nE, h7, by rw [List.length_append]; show ys.length + 1 ≤ _; omega, ?_⟩
        rw [al, c, Bool.and_false]
        cases ys <;> rfl
    · obtain ⟨ys, nE, k5, h5', ly, ey⟩ := hp
      rw [List.take_of_length_le (by omega)] at ey
      walk_at "rd"
      intro el H6 nel hel k6
      have h6 := k6 _ _ h5' (by simp)
      walk_at "rd"
      refine r_eqEL (SqL.of h6) (SqL.of hel) ?_
      rw [ey]
      exact q H6 (k5.trans k6)
end
end
section
section
variable {P : Program} {w : World} {K : PySem.W.Frag} {mg : Str → Option Value} {base : Heap}
theorem all_n {p : PyData → Prop} : ∀ e ∈ ([] : List PyData), p e := fun _ h => by cases h
theorem all_c {p : PyData → Prop} {d : PyData} {ds : List PyData} (a : p d) (b : ∀ e ∈ ds, p e) : ∀ e ∈ d :: ds, p e := fun e he => by
  rcases List.mem_cons.mp he with rfl | he
  · exact a
  · exact b e he
noncomputable def fourD : List (Key × V) := [(.inr "set", .int 3), (.inr "say", .int 2), (.inr "if", .int 4), (.inr "call", .int 3)]
noncomputable def sizeOf4 (x : Str) : Int := if x = "set" then 3 else if x = "say" then 2 else if x = "if" then 4 else 3
theorem four_val {x : Str} (h : x ∈ (["set", "say", "if", "call"] : List Str)) : valV fourD (.inr x) = some (.int (sizeOf4 x)) := by
  simp only [List.mem_cons, List.not_mem_nil, or_false] at h
  rcases h with rfl | rfl | rfl | rfl
  · rfl
  · unfold valV fourD
    rw [List.find?_cons_of_neg (by show ¬ decide ((.inr ("set" : Str) : Key) = .inr ("say" : Str)) = true; decide +kernel), List.find?_cons_of_pos (by show decide ((.inr ("say" : Str) : Key) = .inr ("say" : Str)) = true; decide +kernel)]
    unfold sizeOf4
    rw [if_neg (by decide +kernel), if_pos rfl]
    rfl
  · unfold valV fourD
    rw [List.find?_cons_of_neg (by show ¬ decide ((.inr ("set" : Str) : Key) = .inr ("if" : Str)) = true; decide +kernel), List.find?_cons_of_neg (by show ¬ decide ((.inr ("say" : Str) : Key) = .inr ("if" : Str)) = true; decide +kernel), List.find?_cons_of_pos (by show decide ((.inr ("if" : Str) : Key) = .inr ("if" : Str)) = true; decide +kernel)]
    unfold sizeOf4
    rw [if_neg (by decide +kernel), if_neg (by decide +kernel), if_pos rfl]
    rfl
  · unfold valV fourD
    rw [List.find?_cons_of_neg (by show ¬ decide ((.inr ("set" : Str) : Key) = .inr ("call" : Str)) = true; decide +kernel), List.find?_cons_of_neg (by show ¬ decide ((.inr ("say" : Str) : Key) = .inr ("call" : Str)) = true; decide +kernel), List.find?_cons_of_neg (by show ¬ decide ((.inr ("if" : Str) : Key) = .inr ("call" : Str)) = true; decide +kernel), List.find?_cons_of_pos (by show decide ((.inr ("call" : Str) : Key) = .inr ("call" : Str)) = true; decide +kernel)]
    unfold sizeOf4
    rw [if_neg (by decide +kernel), if_neg (by decide +kernel), if_neg (by decide +kernel)]
    rfl
theorem okLawIsStep {n : Nat} (D : DefAt K mg "_law_is_step" sL_is_step pL_is_step) (T : Blt mg) (C_law_is_number : Callee P w K mg base "_law_is_number" 1 pL_is_number (spLawNumber K)) (C_law_is_thing : Callee P w K mg base "_law_is_thing" 8 pL_is_thing (spLawIsThing K 6)) (C_law_is_body : Callee P w K mg base "_law_is_body" (2 * n + 9) pL_is_body (spLawIsBody K n)) :
    Callee P w K mg base "_law_is_step" (2 * n + 10) pL_is_step (spLawIsStep K (n + 1)) := by
  refine D.ok scL_is_step (fun vs H Q E h => ?_) (fun f cdv A outer s H vs Q E hr h => ?_)
  · obtain ⟨s, sh, i, h, v, d, rfl, _⟩ := h
    rfl
  obtain ⟨s, sh, i, h, v, d, rfl, hS, hi, hR, sq, h5, nh, q⟩ := h
  refine ⟨_, (pss_cons (ps_if (PW.pt (pw_or (pt_not (pt_val (pe_callB (cIsi (K := K)) (by rfl) T.isinstance (by decide +kernel) (pa_cons (pv 2) (pa_cons (pe_bltn rfl T.tuple (by decide +kernel) (v := .ty "tuple") rfl) pa_nil))))) (pw_or (pt_cmpR op_gt (pv 3) pe_int (nomark _)) (pw_or1 (pt_cmpR (opEqE (K := K) hr.units0) (pv 2) (pe_tup pa_nil) (nomark _)))))) (pss_one (ps_ret pe_bl)) pss_nil)
  (pss_cons (ps_if (PW.pt (pw_or (pt_cmpR (opNotIn (K := K)) (pe_ix (ixT (K := K)) (pv 2) pe_int (fun _ _ => rfl)) (pe_tup (pa_cons pe_str (pa_cons pe_str (pa_cons pe_str (pa_cons pe_str pa_nil))))) (by with_unfolding_all rfl)) (pw_or1 (pt_cmpR op_ne (pe_callB (cLen (K := K)) (by rfl) T.len PySem.boot_len (pa_cons (pv 2) pa_nil)) (pe_dget (hu_of hr) (pe_disp (pps_cons pe_str pe_int (pps_cons pe_str pe_int (pps_cons pe_str pe_int (pps_cons pe_str pe_int pps_nil)))) (by rfl) (by rfl) (fun z => by cases z) (by decide)) (pe_ix (ixT (K := K)) (pv 2) pe_int (fun _ _ => rfl)) (fun _ _ => rfl)) (nomark _))))) (pss_one (ps_ret pe_bl)) pss_nil)
  (Evl.pss_cut (ps_if (pt_cmpR op_eq (pe_ix (ixT (K := K)) (pv 2) pe_int (fun _ _ => rfl)) pe_str (nomark _)) (pss_cons (ps_if (PW.pt (pw_or (pt_not (pt_val (pcall C_law_is_number (hr.mono (by first | exact Nat.le_of_ble_eq_true rfl | omega)) rfl (pa_cons (pe_ix (ixT (K := K)) (pv 2) pe_int (fun _ _ => rfl)) (pa_cons (pe_callB (cLen (K := K)) (by rfl) T.len PySem.boot_len (pa_cons (pv 0) pa_nil)) pa_nil))))) (pw_or (pt_cmpR op_le (pe_ix (ixT (K := K)) (pv 2) pe_int (fun _ _ => rfl)) (pv 1) (nomark _)) (pw_or1 (pt_not (pt_val (pe_callB (cIsi (K := K)) (by rfl) T.isinstance (by decide +kernel) (pa_cons (pe_ix (ixT (K := K)) (pv 2) pe_int (fun _ _ => rfl)) (pa_cons (pe_bltn rfl T.tuple (by decide +kernel) (v := .ty "tuple") rfl) pa_nil))))))))) (pss_one (ps_ret pe_bl)) pss_nil)
  (pss_cons (ps_set (i := 4) scL_is_step.nd rfl (Or.inl rfl) (pe_ix (ixT (K := K)) (pv 2) pe_int (fun _ _ => rfl)))
  (pss_one (ps_if (pt_cmpR op_ne (pe_callB (cLen (K := K)) (by rfl) T.len PySem.boot_len (pa_cons (pv 4) pa_nil)) (pe_ix (ixT (K := K)) (pe_ix (ixL (K := K)) (pv 0) (pe_ix (ixT (K := K)) (pv 2) pe_int (fun _ _ => rfl)) (fun _ _ => rfl)) pe_int (fun _ _ => rfl)) (nomark _)) (pss_one (ps_ret pe_bl)) pss_nil)))) (pss_one (ps_set (i := 4) scL_is_step.nd rfl (Or.inl rfl) (pe_ifExp (pt_cmpR op_eq (pe_ix (ixT (K := K)) (pv 2) pe_int (fun _ _ => rfl)) pe_str (nomark _)) (pe_slice (slA (K := K)) (pv 2) (po_some pe_int) (po_some pe_int)) (pe_slice (slA (K := K)) (pv 2) (po_some pe_int) po_none)))))
  (pss_cons (ps_if (pt_cmpR (opNeE (K := K) hr.units0) (pe_lc (own := [("_law_thing_here", 6)]) (g := gName 6) (by rfl) scL_is_step.nd (piTup (K := K) (pv 4)) (blkOk_by (own := [("_law_thing_here", 6)]) (N := nL_is_step) (sc := defScope sL_is_step) (by decide +kernel)) (fun _ _ _ _ _ => (pg_name (i := 6) scL_is_step.nd rfl (Or.inl rfl))) (fun _ _ _ _ _ => (pts_one (pt_not (pt_val (pcall C_law_is_thing (hr.mono (by first | exact Nat.le_of_ble_eq_true rfl | omega)) rfl (pa_cons (pv 6) (pa_cons (pe_ix (ixL (K := K)) (pv 0) (pv 1) (fun _ _ => rfl)) (pa_cons pe_int pa_nil)))))))) (fun _ _ _ _ _ => (pv 6))) (pe_lst pa_nil) (nomark _)) (pss_one (ps_ret pe_bl)) pss_nil)
  (Evl.pss_cut (ps_set (i := 5) scL_is_step.nd rfl (Or.inl rfl) (pe_ifExp (pt_cmpR op_eq (pe_ix (ixT (K := K)) (pv 2) pe_int (fun _ _ => rfl)) pe_str (nomark _)) (pe_slice (slA (K := K)) (pv 2) (po_some pe_int) po_none) (pe_tup pa_nil)))
  (Evl.pss_cut (ps_if (PW.pt (pw_and (pt_cmpR op_eq (pe_ix (ixT (K := K)) (pv 2) pe_int (fun _ _ => rfl)) pe_str (nomark _)) (pw_and1 (pt_cmpR (opNotIn (K := K)) (pe_ix (ixT (K := K)) (pe_ix (ixT (K := K)) (pv 2) pe_int (fun _ _ => rfl)) pe_int (fun _ _ => rfl)) (pe_tup (pa_cons pe_str (pa_cons pe_str (pa_cons pe_str pa_nil)))) (by with_unfolding_all rfl))))) (pss_one (ps_ret pe_bl)) pss_nil)
  (pss_one (ps_ret (pe_cmpR (opEqE (K := K) hr.units0) (pe_lc (own := [("_law_body_here", 7)]) (g := gName 7) (by rfl) scL_is_step.nd (piTup (K := K) (pv 5)) (blkOk_by (own := [("_law_body_here", 7)]) (N := nL_is_step) (sc := defScope sL_is_step) (by decide +kernel)) (fun _ _ _ _ _ => (pg_name (i := 7) scL_is_step.nd rfl (Or.inl rfl))) (fun _ _ _ _ _ => (pts_one (pt_not (pt_val (pcall C_law_is_body (hr.mono (by first | exact Nat.le_of_ble_eq_true rfl | omega)) rfl (pa_cons (pv 0) (pa_cons (pv 1) (pa_cons (pv 7) (pa_cons (pe_op op_add (pv 3) pe_int) pa_nil))))))))) (fun _ _ _ _ _ => (pv 7))) (pe_lst pa_nil) (nomark _)))))))))), ?_⟩
  walk_at "rd"
  rcases sq.cases with hf | rfl | ⟨x, ds, rfl, lds⟩
  · have e : okSt sh i (5 - h) d = false := by
      cases c : okSt sh i (5 - h) d with
      | false => rfl
      | true =>
        exfalso
        cases hk : 5 - h with
        | zero => rw [hk] at c; cases c
        | succ m =>
          rw [hk] at c
          unfold okSt at c
          cases d with
          | tuple _ => exact hf
          | list _ => exact hf
          | dict _ => exact hf
          | _ =>
            rw [if_neg (fun z => by cases z), if_neg (fun z => by cases z), if_neg (fun z => by cases z), Bool.and_eq_true] at c
            cases c.1
    rw [e] at q
    cases hR with
    | tup _ _ => exact hf.elim
    | _ =>
      refine r_or ?_
      walk_at "rd"
      exact q H Keep.refl
  · obtain ⟨a, xs, rfl, hT, hx⟩ := hR.tup_inv
    cases hx.inv0
    have e : okSt sh i (5 - h) (.tuple []) = false := by
      cases hk : 5 - h with
      | zero => rfl
      | succ m =>
        unfold okSt
        rw [if_neg (fun z => by obtain ⟨_, e, _⟩ := shaped_str z; cases e), if_neg (fun z => by obtain ⟨_, e, _⟩ := shaped_str z; cases e), if_neg (fun z => by obtain ⟨_, e, _⟩ := shaped_str z; cases e)]
        rfl
    rw [e] at q
    refine r_or ?_
    walk_at "rd"
    refine r_or ?_
    walk_at "rd"
    refine ite2 (fun c => ?_) (fun c => ?_)
    · walk_at "rd"
      exact q H Keep.refl
    · walk_at "rd"
      intro p1 H1 n1 h1 k1
      walk_at "rd"
      refine r_eqET ((keep_ts0 k1).sqT hT) (SqT.of h1) ?_
      walk_at "rd"
      exact q H1 k1
  obtain ⟨a, xs, rfl, hT, hx⟩ := hR.tup_inv
  obtain ⟨v0, r, rfl, h0, hr'⟩ := hx.inv
  cases h0.str_inv
  have lr := hr'.length
  have a0 : atI (V.str x :: r) 0 = some (.str x) := at0
  refine r_or ?_
  walk_at "rd"
  refine r_or ?_
  walk_at "rd"
  refine ite2 (fun c => ?_) (fun c => ?_)
  · have : (4 : Int) < (h : Int) := of_decide_eq_true c
    have e : 5 - h = 0 := by omega
    rw [e] at q
    walk_at "rd"
    exact q H Keep.refl
  have h4 : h ≤ 4 := by
    have : ¬ (4 : Int) < (h : Int) := fun z => c (decide_eq_true z)
    omega
  have e5 : 5 - h = (4 - h) + 1 := by omega
  have e4 : 5 - (h + 1) = 4 - h := by omega
  rw [e5] at q
  have no : ∀ H', Keep [] H H' → okSt sh i (4 - h + 1) (.tuple (.str x :: ds)) = false → Q (.bl false) H' := fun H' k e => by
    rw [e] at q
    exact q H' k
  walk_at "rd"
  intro p1 H1 n1 h1 k1
  have hT1 := (keep_ts0 k1).sqT hT
  walk_at "rd"
  refine r_eqET hT1 (SqT.of h1) ?_
  rw [show (V.str x :: r).isEmpty = false from rfl]
  walk_at "rd"
  refine r_or ?_
  walk_at "rd"
  intro p2 H2 n2 h2 k2
  have hT2 := (keep_ts0 k2).sqT hT1
  have k02 := k1.trans k2
  walk_at "rd"
  have ew : inV (V.str x) [V.str "set", V.str "say", V.str "if", V.str "call"] = decide (x ∈ (["set", "say", "if", "call"] : List Str)) := inV_strs' (l := ["set", "say", "if", "call"])
  rw [if_pos rfl, ew]
  by_cases cw : x ∈ (["set", "say", "if", "call"] : List Str)
  case neg =>
    rw [decide_eq_false cw]
    walk_at "rd"
    refine no H2 k02 ?_
    cases e : okSt sh i (4 - h + 1) (.tuple (.str x :: ds)) with
    | false => rfl
    | true =>
      refine absurd ?_ cw
      rcases okSt_inv e with ⟨rfl, _⟩ | ⟨rfl, _⟩ | ⟨rfl, _⟩ | ⟨rfl, _⟩ <;> simp
  rw [decide_eq_true cw]
  walk_at "rd"
  intro dp H3 n3 h3 k3
  have hT3 := (keep_ts0 k3).sqT hT2
  walk_at "rd"
  refine disp fourD h3 rfl (by show 4 ≤ 15; omega) (by show ([.inr ("set" : Str), .inr ("say" : Str), .inr ("if" : Str), .inr ("call" : Str)] : List Key).Nodup; decide +kernel) fun H4 h4' k4 => ?_
  have t34 : Tst H3 H4 := k4.ts fun y hy => by cases List.mem_singleton.mp hy; exact .inr (.inl ⟨_, h3⟩)
  have k24 : Keep [] H2 H4 := k3.fresh1 k4 n3
  have k04 := k02.trans k24
  have hT4 := (keep_ts0 k04).sqT hT
  have lx : ((V.str x :: r).length : Int) = (ds.length : Int) + 1 := by rw [List.length_cons, lr]; rfl
  walk_at "rd"
  refine r_dgetS h4' (four_val cw) ?_
  walk_at "rd"
  by_cases cl : (ds.length : Int) + 1 = sizeOf4 x
  case neg =>
    have e : decide (V.int ((V.str x :: r).length : Int) = V.int (sizeOf4 x)) = false := decide_eq_false fun z => cl (by have := V.int.inj z; omega)
    rw [e]
    walk_at "rd"
    refine no H4 k04 ?_
    cases e : okSt sh i (4 - h + 1) (.tuple (.str x :: ds)) with
    | false => rfl
    | true =>
      refine absurd ?_ cl
      rcases okSt_inv e with ⟨rfl, l⟩ | ⟨rfl, l⟩ | ⟨rfl, l⟩ | ⟨rfl, l⟩ <;> (rw [l]; decide +kernel)
  have e : decide (V.int ((V.str x :: r).length : Int) = V.int (sizeOf4 x)) = true := decide_eq_true (by rw [lx, cl])
  rw [e]
  walk_at "rd"
  refine cut (fun σ H' => ∃ (tp : Addr) (tvs : List V) (ts : List PyData), σ = [some (.ref s), some (.int (i : Int)), some (.ref a), some (.int (h : Int)), some (.ref tp), none, none, none] ∧ Keep [] H H' ∧ SqT K H' tp tvs ∧ Rps K H' tvs ts ∧ (∀ t ∈ ts, Tq t) ∧ ts.length ≤ 90000 ∧ (x = "set" → ts = ds) ∧
    okSt sh i (4 - h + 1) (.tuple (.str x :: ds)) = (ts.all (okT sh i) && (if x = "set" then placeD (ds.getD 0 .none) else if x = "if" then (ds.drop 1).all (bodyD (okSt sh i (4 - h))) else true))) ?_ ?_
  · have hS4 := hS.keep0 k04
    have g4 := fun {v : V} {d : PyData} (g : Rp K H v d) => g.ts (keep_ts0 k04)
    have t4 : Rps K H4 r ds := hr'.ts (keep_ts0 k04)
    have cw' := cw
    simp only [List.mem_cons, List.not_mem_nil, or_false] at cw'
    rcases cw' with xs' | xs' | xs' | xs'
    · have nx : decide (V.str x = V.str "call") = false := decide_eq_false fun z => by have := V.str.inj z; rw [xs'] at this; exact absurd this (by decide +kernel)
      have ni : decide (V.str x = V.str "if") = false := decide_eq_false fun z => by have := V.str.inj z; rw [xs'] at this; exact absurd this (by decide +kernel)
      have l2 : ds.length = 2 := by
        have : sizeOf4 "set" = 3 := by decide +kernel
        rw [xs'] at cl
        omega
      walk_at "rd"
      rw [nx]
      walk_at "rd"
      rw [ni]
      walk_at "rd"
      intro tp H5 hTT k5 f5
      rw [cutV_tail'] at hTT
      walk_at "rd"
      refine ⟨tp, r, ds, rfl, k04.trans k5, hTT, t4.ts (keep_ts0 k5), sq.things (by rw [xs']; decide +kernel) (by rw [xs']; decide +kernel), by omega, fun _ => rfl, ?_⟩
      obtain ⟨d0, d1, rfl⟩ : ∃ d0 d1, ds = [d0, d1] := by
        match ds, l2 with
        | [d0, d1], _ => exact ⟨d0, d1, rfl⟩
      rw [if_pos xs', xs', okSt_set]
      show ((okT sh i d0 && placeD d0) && okT sh i d1) = ((okT sh i d0 && (okT sh i d1 && true)) && placeD d0)
      cases okT sh i d0 <;> cases okT sh i d1 <;> cases placeD d0 <;> rfl
    · have nx : decide (V.str x = V.str "call") = false := decide_eq_false fun z => by have := V.str.inj z; rw [xs'] at this; exact absurd this (by decide +kernel)
      have ni : decide (V.str x = V.str "if") = false := decide_eq_false fun z => by have := V.str.inj z; rw [xs'] at this; exact absurd this (by decide +kernel)
      have l1 : ds.length = 1 := by
        have : sizeOf4 "say" = 2 := by decide +kernel
        rw [xs'] at cl
        omega
      walk_at "rd"
      rw [nx]
      walk_at "rd"
      rw [ni]
      walk_at "rd"
      intro tp H5 hTT k5 f5
      rw [cutV_tail'] at hTT
      walk_at "rd"
      refine ⟨tp, r, ds, rfl, k04.trans k5, hTT, t4.ts (keep_ts0 k5), sq.things (by rw [xs']; decide +kernel) (by rw [xs']; decide +kernel), by omega, fun _ => rfl, ?_⟩
      obtain ⟨d0, rfl⟩ : ∃ d0, ds = [d0] := by
        match ds, l1 with
        | [d0], _ => exact ⟨d0, rfl⟩
      rw [if_neg (by rw [xs']; decide +kernel), if_neg (by rw [xs']; decide +kernel), xs', okSt_say]
      show okT sh i d0 = ((okT sh i d0 && true) && true)
      rw [Bool.and_true, Bool.and_true]
    · have nx : decide (V.str x = V.str "call") = false := decide_eq_false fun z => by have := V.str.inj z; rw [xs'] at this; exact absurd this (by decide +kernel)
      have ni : decide (V.str x = V.str "if") = true := decide_eq_true (by rw [xs'])
      have l3 : ds.length = 3 := by
        have : sizeOf4 "if" = 4 := by decide +kernel
        rw [xs'] at cl
        omega
      obtain ⟨d0, d1, d2, rfl⟩ : ∃ d0 d1 d2, ds = [d0, d1, d2] := by
        match ds, l3 with
        | [d0, d1, d2], _ => exact ⟨d0, d1, d2, rfl⟩
      obtain ⟨w0, r0, rfl, g0, gr⟩ := t4.inv
      have tq0 : Tq d0 := by
        have := sq
        rw [xs'] at this
        exact this.ites.1
      walk_at "rd"
      rw [nx]
      walk_at "rd"
      rw [ni]
      walk_at "rd"
      intro tp H5 hTT k5 f5
      have cv : cutV (V.str x :: w0 :: r0) (some 1) (some 2) = [w0] := by
        unfold cutV HT.sIx
        simp
        try (rw [show min 1 (r0.length + 1 + 1) = 1 by omega, show min 2 (r0.length + 1 + 1) = 2 by omega]; rfl)
      rw [cv] at hTT
      walk_at "rd"
      refine ⟨tp, [w0], [d0], rfl, k04.trans k5, hTT, .cons (g0.ts (keep_ts0 k5)) .nil, all_c tq0 all_n, by simp, fun z => absurd (xs'.symm.trans z) (by decide +kernel), ?_⟩
      rw [if_neg (by rw [xs']; decide +kernel), if_pos xs', xs', okSt_ite]
      show (okT sh i d0 && (bodyD (okSt sh i (4 - h)) d1 && bodyD (okSt sh i (4 - h)) d2)) = ((okT sh i d0 && true) && (bodyD (okSt sh i (4 - h)) d1 && (bodyD (okSt sh i (4 - h)) d2 && true)))
      rw [Bool.and_true, Bool.and_true]
    · have nx : decide (V.str x = V.str "call") = true := decide_eq_true (by rw [xs'])
      have l2 : ds.length = 2 := by
        have : sizeOf4 "call" = 3 := by decide +kernel
        rw [xs'] at cl
        omega
      obtain ⟨d0, d1, rfl⟩ : ∃ d0 d1, ds = [d0, d1] := by
        match ds, l2 with
        | [d0, d1], _ => exact ⟨d0, d1, rfl⟩
      obtain ⟨w0, r0, rfl, g0, gr⟩ := t4.inv
      obtain ⟨w1, r1, rfl, g1, gr1⟩ := gr.inv
      cases gr1.inv0
      have cq : Cq d1 := by
        have := sq
        rw [xs'] at this
        exact this.calls
      have ecall : okSt sh i (4 - h + 1) (.tuple [.str x, d0, d1]) = callD sh i d0 d1 := by rw [xs']; exact okSt_call
      rw [ecall] at no
      obtain ⟨sx, hsx, lsx, ats⟩ := hS4
      have ls' : ((sx.length : Nat) : Int) = (sh.length : Int) := by rw [lsx]
      have a1 : atI [V.str x, w0, w1] 1 = some w0 := at1
      have a2 : atI [V.str x, w0, w1] 2 = some w1 := at2
      walk_at "rd"
      rw [nx]
      walk_at "rd"
      refine r_or ?_
      walk_at "rd"
      refine ask ⟨w0, d0, ((sx.length : Nat) : Int), rfl, g0, ?_⟩
      walk_at "rd"
      refine cases_b (belowD ((sx.length : Nat) : Int) d0) (fun cb => ?_) (fun cb => ?_)
      case refine_2 =>
        rw [cb]
        walk_at "rd"
        refine no H4 k04 ?_
        cases d0 with
        | int c0 =>
          have e : (decide (0 ≤ c0) && decide (c0 < ((sx.length : Nat) : Int))) = false := cb
          rw [ls'] at e
          cases d1 <;> first | rfl | rw [callD_tup, e, Bool.false_and]
        | _ => unfold callD; rfl
      obtain ⟨k, rfl, hk⟩ := below_nat' cb
      cases g0.int_inv
      rw [cb]
      walk_at "rd"
      refine r_or ?_
      walk_at "rd"
      have e' : (decide (0 ≤ (k : Int)) && decide ((k : Int) < (sh.length : Int))) = true := by
        rw [Bool.and_eq_true, decide_eq_true_eq, decide_eq_true_eq]
        omega
      refine ite2 (fun z => ?_) (fun z => ?_)
      · walk_at "rd"
        refine no H4 k04 ?_
        have := of_decide_eq_true z
        have e3 : decide ((i : Int) < (k : Int)) = false := decide_eq_false (by omega)
        cases d1 <;> first | rfl | rw [callD_tup, e3, Bool.false_and, Bool.and_false]
      have ik : (i : Int) < (k : Int) := by
        have : ¬ (k : Int) ≤ (i : Int) := fun y => z (decide_eq_true y)
        omega
      have unf : ∀ ts, callD sh i (.int (k : Int)) (.tuple ts) = (decide (ts.length = (shOf sh k).1) && ts.all (okT sh i)) := fun ts => by
        rw [callD_tup, e', decide_eq_true ik, Bool.true_and, Bool.true_and, Int.toNat_natCast]
      cases d1 with
      | list _ => cases g1
      | dict _ => cases g1
      | none =>
        cases g1
        walk_at "rd"
        exact no H4 k04 rfl
      | bool _ =>
        cases g1
        walk_at "rd"
        exact no H4 k04 rfl
      | int _ =>
        cases g1
        walk_at "rd"
        exact no H4 k04 rfl
      | str _ =>
        cases g1
        walk_at "rd"
        exact no H4 k04 rfl
      | tuple ts =>
        obtain ⟨tp, tvs, rfl, hTT, rts⟩ := g1.tup_inv
        obtain ⟨lts, tqt⟩ := cq ts rfl
        have lt := rts.length
        rw [unf ts] at no ecall
        obtain ⟨cp, eC, hC⟩ := ats k (by omega)
        have z0 : atI [V.int ((shOf sh k).1 : Int), .int ((shOf sh k).2 : Int)] 0 = some (.int ((shOf sh k).1 : Int)) := at0
        walk_at "rd"
        by_cases cl2 : ts.length = (shOf sh k).1
        case neg =>
          have e : decide (V.int (tvs.length : Int) = V.int ((shOf sh k).1 : Int)) = false := decide_eq_false fun z => cl2 (by have := V.int.inj z; omega)
          rw [e]
          walk_at "rd"
          refine no H4 k04 ?_
          rw [decide_eq_false cl2, Bool.false_and]
        have e : decide (V.int (tvs.length : Int) = V.int ((shOf sh k).1 : Int)) = true := decide_eq_true (by rw [lt, cl2])
        rw [e]
        walk_at "rd"
        refine ⟨tp, tvs, ts, rfl, k04, hTT, rts, tqt, lts, fun z => absurd (xs'.symm.trans z) (by decide +kernel), ?_⟩
        rw [if_neg (by rw [xs']; decide +kernel), if_neg (by rw [xs']; decide +kernel), ecall, decide_eq_true cl2, Bool.true_and, Bool.and_true]
  · rintro σ H5 ⟨tp, tvs, ts, rfl, k5, hTT, rts, tqt, lts, tset, eall⟩
    rw [eall] at q
    have lt := rts.length
    have hT5 := (keep_ts0 k5).sqT hT
    obtain ⟨sx, hsx, lsx, ats⟩ := hS.keep0 k5
    obtain ⟨wp, ewp, hwp⟩ := ats i hi
    walk_at "rd"
    refine lcTi' (xs := tvs) (fun E j H' => ∃ ys : List V, H5 E = none ∧ Keep [] H5 H' ∧ H' E = some (.lst ys) ∧ ys.length ≤ j ∧ ys.isEmpty = (ts.take j).all (okT sh i)) (fun E H6 nE e6 k6 => ⟨[], nE, k6, e6, Nat.le_refl _, rfl⟩) (fun E j H6 _ hp => ?_) (fun E j y H6 hy hp => ?_) (fun E H6 hp => ?_)
    · obtain ⟨ys, nE, k6, _⟩ := hp
      exact (keep_ts0 k6).sqT hTT
    · obtain ⟨ys, nE, k6, h6, ly, ey⟩ := hp
      obtain ⟨dd, ed, rd⟩ := rts.get' hy
      have mem := List.mem_of_getElem? ed
      have lt' : ys.length ≤ 90000 := by have := (List.getElem?_eq_some_iff.mp hy).1; omega
      have tk1 : ts.take (j + 1) = ts.take j ++ [dd] := by rw [List.take_add_one, ed]; rfl
      have al : (ts.take (j + 1)).all (okT sh i) = ((ts.take j).all (okT sh i) && okT sh i dd) := by
        rw [tk1, List.all_append]
        show (_ && (okT sh i dd && true)) = _
        rw [Bool.and_true]
      have hsx6 := k6.sqL (by simp) hsx
      walk_at "rd"
      refine ⟨rfl, ?_⟩
      walk_at "rd"
      refine ask ⟨y, wp, dd, _, _, 0, rfl, (keep_ts0 k6).sqT hwp, rd.ts (keep_ts0 k6), tqt dd mem, by omega, by omega, fun H7 k7 => ?_⟩
      have h7 := k7 _ _ h6 (by simp)
      walk_at "rd"
      refine cases_b (okT sh i dd) (fun c => ?_) (fun c => ?_)
      · have c' : okTh ((shOf sh i).1 : Int) ((shOf sh i).2 : Int) (5 - 0) dd = true := c
        rw [c', if_neg (by decide)]
        exact ⟨ys, nE, k6.trans k7, h7, by omega, by rw [al, c, Bool.and_true]; exact ey⟩
      · have c' : okTh ((shOf sh i).1 : Int) ((shOf sh i).2 : Int) (5 - 0) dd = false := c
        rw [c', if_pos (by decide)]
        walk_at "rd"
        intro H8 h8 k8
        refine ⟨_, nE, (k6.trans k7).fresh1 k8 nE, h8, by rw [List.length_append]; show ys.length + 1 ≤ _; omega, ?_⟩
        rw [al, c, Bool.and_false]
        cases ys <;> rfl
    obtain ⟨ys, nE, k6, h6, ly, ey⟩ := hp
    rw [List.take_of_length_le (by omega)] at ey
    walk_at "rd"
    intro el H7 nel hel k7
    have h7 := k7 _ _ h6 (by simp)
    have k57 := k6.trans k7
    have k07 := k5.trans k57
    have hT7 := (keep_ts0 k57).sqT hT5
    walk_at "rd"
    refine r_neE (SqL.of h7) (SqL.of hel) ?_
    rw [ey]
    refine cases_b (ts.all (okT sh i)) (fun ca => ?_) (fun ca => ?_)
    case refine_2 =>
      rw [ca] at q ⊢
      rw [Bool.false_and] at q
      walk_at "rd"
      exact q H7 k07
    rw [ca] at q ⊢
    rw [Bool.true_and] at q
    walk_at "rd"
    refine cut (fun σ H' => ∃ (bp : Addr) (bvs : List V) (bs : List PyData), σ = [some (.ref s), some (.int (i : Int)), some (.ref a), some (.int (h : Int)), some (.ref tp), some (.ref bp), none, none] ∧ Keep [] H7 H' ∧ SqT K H' bp bvs ∧ Rps K H' bvs bs ∧ (∀ b ∈ bs, Bq b) ∧ bs.length ≤ 90000 ∧ (x = "if" → bs = ds.drop 1) ∧ (x ≠ "if" → bs = [])) ?_ ?_
    · walk_at "rd"
      refine ite2 (fun ci => ?_) (fun ci => ?_)
      · have xi : x = "if" := V.str.inj (of_decide_eq_true ci)
        subst xi
        have l3 : ds.length = 3 := by
          have : sizeOf4 "if" = 4 := by decide +kernel
          omega
        obtain ⟨d0, d1, d2, rfl⟩ : ∃ d0 d1 d2, ds = [d0, d1, d2] := by
          match ds, l3 with
          | [d0, d1, d2], _ => exact ⟨d0, d1, d2, rfl⟩
        obtain ⟨w0, r0, rfl, g0, gr⟩ := hr'.inv
        obtain ⟨w1, r1, rfl, g1, gr1⟩ := gr.inv
        obtain ⟨w2, r2, rfl, g2, gr2⟩ := gr1.inv
        cases gr2.inv0
        obtain ⟨_, bq1, bq2⟩ := sq.ites
        walk_at "rd"
        intro bp H8 hb k8 fb
        have cv : cutV [V.str "if", w0, w1, w2] (some 2) none = [w1, w2] := rfl
        rw [cv] at hb
        walk_at "rd"
        have t8 := keep_ts0 (k07.trans k8)
        exact ⟨bp, [w1, w2], [d1, d2], rfl, k8, hb, .cons (g1.ts t8) (.cons (g2.ts t8) .nil), all_c bq1 (all_c bq2 all_n), by simp, fun _ => rfl, fun z => absurd rfl z⟩
      · have xi : x ≠ "if" := fun z => ci (decide_eq_true (congrArg V.str z))
        walk_at "rd"
        intro bp H8 nb hb k8
        exact ⟨bp, [], [], rfl, k8, SqT.of hb, .nil, all_n, Nat.zero_le _, fun z => absurd z xi, fun _ => rfl⟩
    · rintro σ H8 ⟨bp, bvs, bs, rfl, k8, hBB, rbs, bqs, lbs, b1, b2⟩
      have hT8 := (keep_ts0 k8).sqT hT7
      have k08 := k07.trans k8
      have hS8 := hS.keep0 k08
      refine cut (fun σ H' => σ = [some (.ref s), some (.int (i : Int)), some (.ref a), some (.int (h : Int)), some (.ref tp), some (.ref bp), none, none] ∧ Keep [] H8 H' ∧ (if x = "set" then placeD (ds.getD 0 .none) else if x = "if" then (ds.drop 1).all (bodyD (okSt sh i (4 - h))) else true) = bs.all (bodyD (okSt sh i (4 - h)))) ?_ ?_
      · walk_at "rd"
        refine r_and ?_
        walk_at "rd"
        refine ite2 (fun cs => ?_) (fun cs => ?_)
        · have xs' : x = "set" := V.str.inj (of_decide_eq_true cs)
          have eb := b2 (by rw [xs']; decide +kernel)
          have ets := tset xs'
          have l2 : ds.length = 2 := by
            have : sizeOf4 "set" = 3 := by decide +kernel
            rw [xs'] at cl
            omega
          obtain ⟨d0, d1, rfl⟩ : ∃ d0 d1, ds = [d0, d1] := by
            match ds, l2 with
            | [d0, d1], _ => exact ⟨d0, d1, rfl⟩
          subst eb
          subst ets
          obtain ⟨w0, r0, rfl, g0, gr⟩ := hr'.inv
          have ok0 : okT sh i d0 = true := by
            have := ca
            rw [List.all_cons, Bool.and_eq_true] at this
            exact this.1
          obtain ⟨y, es, rfl⟩ := okTh_str ok0
          obtain ⟨pp, ys, rfl, hPP, hy⟩ := (g0.ts (keep_ts0 k08)).tup_inv
          obtain ⟨y0, yr, rfl, gy, _⟩ := hy.inv
          cases gy.str_inv
          have a1 : atI (V.str x :: V.ref pp :: r0) 1 = some (.ref pp) := at1
          have a00 : atI (V.str y :: yr) 0 = some (.str y) := at0
          walk_at "rd"
          intro p9 H9 n9 h9 k9
          walk_at "rd"
          rw [if_pos rfl]
          rw [if_pos xs'] at q ⊢
          have epl : placeD (([.tuple (.str y :: es), d1] : List PyData).getD 0 .none) = inV (V.str y) [V.str "cell", V.str "own", V.str "par"] := rfl
          rw [epl] at q ⊢
          refine cases_b (inV (V.str y) [V.str "cell", V.str "own", V.str "par"]) (fun cp => ?_) (fun cp => ?_)
          · rw [cp, if_neg (by decide)]
            walk_at "rd"
            exact ⟨rfl, k9, rfl⟩
          · rw [cp] at q
            rw [cp, if_pos (by decide)]
            walk_at "rd"
            exact q H9 (k08.trans k9)
        · have xs' : ¬ x = "set" := fun z => cs (decide_eq_true (congrArg V.str z))
          walk_at "rd"
          refine ⟨rfl, Keep.refl, ?_⟩
          rw [if_neg xs']
          by_cases xi : x = "if"
          · rw [if_pos xi, b1 xi]
          · rw [if_neg xi, b2 xi]
            rfl
      · rintro σ H9 ⟨rfl, k9, elast⟩
        rw [elast] at q
        have hBB9 := (keep_ts0 k9).sqT hBB
        have k09 := k08.trans k9
        have lb := rbs.length
        walk_at "rd"
        refine lcTi' (xs := bvs) (fun E j H' => ∃ ys : List V, H9 E = none ∧ Keep [] H9 H' ∧ H' E = some (.lst ys) ∧ ys.length ≤ j ∧ ys.isEmpty = (bs.take j).all (bodyD (okSt sh i (4 - h)))) (fun E H6 nE e6 k6 => ⟨[], nE, k6, e6, Nat.le_refl _, rfl⟩) (fun E j H6 _ hp => ?_) (fun E j y H6 hy hp => ?_) (fun E H6 hp => ?_)
        · obtain ⟨ys, nE, k6, _⟩ := hp
          exact (keep_ts0 k6).sqT hBB9
        · obtain ⟨ys, nE, k6, h6, ly, ey⟩ := hp
          obtain ⟨dd, ed, rd⟩ := rbs.get' hy
          have mem := List.mem_of_getElem? ed
          have lt' : ys.length ≤ 90000 := by have := (List.getElem?_eq_some_iff.mp hy).1; omega
          have tk1 : bs.take (j + 1) = bs.take j ++ [dd] := by rw [List.take_add_one, ed]; rfl
          have al : (bs.take (j + 1)).all (bodyD (okSt sh i (4 - h))) = ((bs.take j).all (bodyD (okSt sh i (4 - h))) && bodyD (okSt sh i (4 - h)) dd) := by
            rw [tk1, List.all_append]
            show (_ && (bodyD (okSt sh i (4 - h)) dd && true)) = _
            rw [Bool.and_true]
          walk_at "rd"
          refine ⟨rfl, ?_⟩
          walk_at "rd"
          refine ask ⟨s, sh, i, h + 1, y, dd, by rw [Int.natCast_add]; rfl, hS.keep0 (k09.trans k6), hi, rd.ts (keep_ts0 (k9.trans k6)), bqs dd mem, by omega, by omega, fun H7' k7' => ?_⟩
          have h7' := k7' _ _ h6 (by simp)
          rw [e4]
          walk_at "rd"
          refine cases_b (bodyD (okSt sh i (4 - h)) dd) (fun c => ?_) (fun c => ?_)
          · rw [c, if_neg (by decide)]
            exact ⟨ys, nE, k6.trans k7', h7', by omega, by rw [al, c, Bool.and_true]; exact ey⟩
          · rw [c, if_pos (by decide)]
            walk_at "rd"
            intro H8' h8' k8'
            refine ⟨_, nE, (k6.trans k7').fresh1 k8' nE, h8', by rw [List.length_append]; show ys.length + 1 ≤ _; omega, ?_⟩
            rw [al, c, Bool.and_false]
            cases ys <;> rfl
        · obtain ⟨ys, nE, k6, h6, ly, ey⟩ := hp
          rw [List.take_of_length_le (by omega)] at ey
          walk_at "rd"
          intro el' H7' nel' hel' k7'
          have h7' := k7' _ _ h6 (by simp)
          walk_at "rd"
          refine r_eqEL (SqL.of h7') (SqL.of hel') ?_
          rw [ey]
          exact q H7' ((k09.trans k6).trans k7')
end
end
section
section
variable {P : Program} {w : World} {K : PySem.W.Frag} {mg : Str → Option Value} {base : Heap}
theorem okSt_if {sh : List (Nat × Nat)} {i m : Nat} {ds : List PyData} (h : okSt sh i (m + 1) (.tuple (.str "if" :: ds)) = true) : ∃ t b c, ds = [t, b, c] ∧ bodyD (okSt sh i m) b = true ∧ bodyD (okSt sh i m) c = true ∧ cntSt (m + 1) (.tuple (.str "if" :: ds)) = 1 + (cntB (cntSt m) b + cntB (cntSt m) c) := by
  have l3 : ds.length = 3 := by
    rcases okSt_inv h with ⟨z, _⟩ | ⟨z, _⟩ | ⟨_, l⟩ | ⟨z, _⟩
    · exact absurd z (by decide +kernel)
    · exact absurd z (by decide +kernel)
    · exact l
    · exact absurd z (by decide +kernel)
  obtain ⟨t, b, c, rfl⟩ : ∃ t b c, ds = [t, b, c] := by
    match ds, l3 with
    | [t, b, c], _ => exact ⟨t, b, c, rfl⟩
  rw [okSt_ite, Bool.and_eq_true, Bool.and_eq_true] at h
  refine ⟨t, b, c, rfl, h.2.1, h.2.2, ?_⟩
  show (if shapedD (.str "if") 4 (.tuple [.str "if", t, b, c]) = true then _ else 1) = _
  rw [if_pos (sd_yes (x := "if") (ds := [t, b, c]) (k := 4) rfl)]
  rfl
theorem cntSt_no {m : Nat} {x : Str} {ds : List PyData} (h : ¬ x = "if") : cntSt (m + 1) (.tuple (.str x :: ds)) = 1 := by
  show (if shapedD (.str "if") 4 (.tuple (.str x :: ds)) = true then _ else 1) = 1
  rw [if_neg (sd_no h)]
theorem okSt_str {sh : List (Nat × Nat)} {i : Nat} : ∀ {n : Nat} {d : PyData}, okSt sh i n d = true → ∃ x ds, d = .tuple (.str x :: ds)
  | 0, d, h => by cases h
  | n + 1, d, h => by
    unfold okSt at h
    split at h
    · rename_i c; obtain ⟨ds, e, _⟩ := shaped_str c; exact ⟨_, ds, e⟩
    split at h
    · rename_i c; obtain ⟨ds, e, _⟩ := shaped_str c; exact ⟨_, ds, e⟩
    split at h
    · rename_i c; obtain ⟨ds, e, _⟩ := shaped_str c; exact ⟨_, ds, e⟩
    · rw [Bool.and_eq_true] at h
      obtain ⟨ds, e, _⟩ := shaped_str h.1
      exact ⟨_, ds, e⟩
noncomputable def spLawCount (K : PySem.W.Frag) (n : Nat) : Sp := fun vs H Q _ => ∃ (v : V) (sh : List (Nat × Nat)) (i m : Nat) (d : PyData), vs = [v] ∧ Rp K H v d ∧ bodyD (okSt sh i m) d = true ∧ m < n ∧ Q (.int ((cntB (cntSt m) d : Nat) : Int)) H
noncomputable abbrev sL_count : Stmt := top 58
noncomputable abbrev nL_count : List Str := ["_law_body_here", "_law_found", "_law_step_here"]
noncomputable abbrev pL_count : List Str := ["_law_body_here"]
theorem scL_count : FnScope nL_count pL_count (defScope sL_count) := ⟨rfl, rfl, rfl, by decide +kernel, rfl, by decide +kernel, by decide +kernel⟩
noncomputable abbrev sL_is_program : Stmt := top 59
noncomputable abbrev nL_is_program : List Str := ["_law_program_here", "_law_shapes", "_law_at", "_law_work", "_law_one"]
noncomputable abbrev pL_is_program : List Str := ["_law_program_here"]
theorem scL_is_program : FnScope nL_is_program pL_is_program (defScope sL_is_program) := ⟨rfl, rfl, rfl, by decide +kernel, rfl, by decide +kernel, by decide +kernel⟩
theorem okLawCount (D : DefAt K mg "_law_count" sL_count pL_count) (T : Blt mg) : ∀ n : Nat, Callee P w K mg base "_law_count" (n + 1) pL_count (spLawCount K n)
  | 0 => D.none fun vs H Q E h => by
    obtain ⟨v, sh, i, m, d, rfl, _, _, z, _⟩ := h
    omega
  | n + 1 => by
    have C_law_count := okLawCount D T n
    refine D.ok scL_count (fun vs H Q E h => ?_) (fun f cdv A outer s H vs Q E hr h => ?_)
    · obtain ⟨v, sh, i, m, d, rfl, _⟩ := h
      rfl
    obtain ⟨v, sh, i, m, d, rfl, hR, hb, mn, q⟩ := h
    refine ⟨_, (pss_cons (ps_set (i := 1) scL_count.nd rfl (Or.inl rfl) (pe_callB (cLen (K := K)) (by rfl) T.len PySem.boot_len (pa_cons (pv 0) pa_nil)))
  (pss_cons (ps_for PassesOwn.never rfl (piTup (K := K) (pv 0)) (pg_name (i := 2) scL_count.nd rfl (Or.inl rfl))
   (pss_one (ps_if (pt_cmpR op_eq (pe_ix (ixT (K := K)) (pv 2) pe_int (fun _ _ => rfl)) pe_str (nomark _)) (pss_one (ps_set (i := 1) scL_count.nd rfl (Or.inl rfl) (pe_op op_add (pe_op op_add (pv 1) (pcall C_law_count (hr.mono (by first | exact Nat.le_of_ble_eq_true rfl | omega)) rfl (pa_cons (pe_ix (ixT (K := K)) (pv 2) pe_int (fun _ _ => rfl)) pa_nil))) (pcall C_law_count (hr.mono (by first | exact Nat.le_of_ble_eq_true rfl | omega)) rfl (pa_cons (pe_ix (ixT (K := K)) (pv 2) pe_int (fun _ _ => rfl)) pa_nil))))) pss_nil)))
  (pss_one (ps_ret (pv 1))))), ?_⟩
    cases d with
    | tuple ss =>
      have hb' : ss.all (okSt sh i m) = true := hb
      obtain ⟨a, xs, rfl, hT, hx⟩ := hR.tup_inv
      have lx := hx.length
      have ec : cntB (cntSt m) (.tuple ss) = (ss.map (cntSt m)).sum := rfl
      rw [ec] at q
      walk_at "rd"
      refine forT (xs := xs) (fun j σ H' => H' = H ∧ ∃ (x2 : Option V) (k : Nat), σ = [some (.ref a), some (.int (k : Int)), x2] ∧ k + j = ss.length + ((ss.take j).map (cntSt m)).sum) ⟨rfl, none, xs.length, rfl, by rw [List.take_zero]; show xs.length + 0 = ss.length + 0; omega⟩ (fun j σ H' _ hp => ?_) (fun j x σ H' hx' hp => ?_) (fun σ H' hp => ?_)
      · obtain ⟨rfl, _⟩ := hp
        exact hT
      · obtain ⟨rfl, x2, k, rfl, ek⟩ := hp
        obtain ⟨d, ed, rd⟩ := hx.get' hx'
        have ok := List.all_eq_true.mp hb' d (List.mem_of_getElem? ed)
        obtain ⟨y, ds, rfl⟩ := okSt_str ok
        obtain ⟨p, ys, rfl, hP, hy⟩ := rd.tup_inv
        obtain ⟨y0, yr, rfl, gy, gr⟩ := hy.inv
        cases gy.str_inv
        have a0 : atI (V.str y :: yr) 0 = some (.str y) := at0
        have sm : ((ss.take (j + 1)).map (cntSt m)).sum = ((ss.take j).map (cntSt m)).sum + cntSt m (.tuple (.str y :: ds)) := by
          rw [List.take_add_one, ed, List.map_append, List.sum_append]
          show _ + (cntSt m (.tuple (.str y :: ds)) + 0) = _
          omega
        obtain ⟨m', rfl⟩ : ∃ m', m = m' + 1 := by
          cases m with
          | zero => cases ok
          | succ m' => exact ⟨m', rfl⟩
        walk_at "rd"
        refine ite2 (fun c => ?_) (fun c => ?_)
        · have yi : y = "if" := V.str.inj (of_decide_eq_true c)
          subst yi
          obtain ⟨t, b, e, rfl, h1, h2, h3⟩ := okSt_if ok
          obtain ⟨w0, r0, rfl, g0, gr0⟩ := gr.inv
          obtain ⟨w1, r1, rfl, g1, gr1⟩ := gr0.inv
          obtain ⟨w2, r2, rfl, g2, gr2⟩ := gr1.inv
          cases gr2.inv0
          have a2 : atI [V.str "if", w0, w1, w2] 2 = some w1 := at2
          have a3 : atI [V.str "if", w0, w1, w2] 3 = some w2 := at3
          walk_at "rd"
          refine ask ⟨w1, sh, i, m', b, rfl, g1, h1, by omega, ?_⟩
          walk_at "rd"
          refine ask ⟨w2, sh, i, m', e, rfl, g2, h2, by omega, ?_⟩
          walk_at "rd"
          refine ⟨rfl, _, k + cntB (cntSt m') b + cntB (cntSt m') e, rfl, ?_⟩
          rw [sm, h3]
          omega
        · have yi : ¬ y = "if" := fun z => c (decide_eq_true (congrArg V.str z))
          walk_at "rd"
          refine ⟨rfl, _, k, rfl, ?_⟩
          rw [sm, cntSt_no yi]
          omega
      · obtain ⟨rfl, x2, k, rfl, ek⟩ := hp
        rw [List.take_of_length_le (by omega)] at ek
        have : k = (ss.map (cntSt m)).sum := by omega
        walk_at "rd"
        rw [this]
        exact q
    | _ => cases hb
/-- the program's works, as they are told -/
structure Wq (d : PyData) : Prop where
  is : ∃ (p o : Int) (b : PyData), d = .tuple [.int p, .int o, b] ∧ Bq b
noncomputable def spLawIsProgram (K : PySem.W.Frag) : Sp := fun vs H Q _ => ∃ (v : V) (ws : List PyData), vs = [v] ∧ Rp K H v (.tuple ws) ∧ (∀ d ∈ ws, Wq d) ∧ ws.length ≤ 90000 ∧ ∀ (b : Bool) (H' : Hp), (b = true ↔ OkProg (.tuple ws)) → Keep [] H H' → Q (.bl b) H'
theorem lcLi' {σ : L2.St} {H : Hp} {Q : VK} {te : TE} {a : Addr} {xs : List V} {g : TG} {tt : TT} {vs : List Nat} (Pv : Addr → Nat → Hp → Prop) (h0 : ∀ E H1, H E = none → H1 E = some (.lst []) → Keep [] H H1 → Pv E 0 H1) (hG : ∀ E i H, i ≤ xs.length → Pv E i H → SqL K H a xs)
    (hs : ∀ E i x H, xs[i]? = some x → Pv E i H → g x (wipe σ vs) H fun σ2 H2 => wipe σ2 vs = wipe σ vs ∧ tt σ2 H2 fun b H3 => if b = true then te σ2 H3 fun y H4 => Acc E y H4 (Pv E (i + 1)) else Pv E (i + 1) H3) (hd : ∀ E H, Pv E xs.length H → Q (.ref E) H) : LcIt (Itl K a) g tt te vs σ H Q :=
  lcYi walk_list Pv h0 hG (fun E i x H H' hi p y => by
    obtain ⟨rfl, e⟩ := y
    exact hs E i x H' e p) hd
noncomputable def goodPO (p o : Int) : Bool := (decide (0 ≤ p) && decide (p ≤ 3)) && (decide (0 ≤ o) && decide (o ≤ 99))
noncomputable def goodW (d : PyData) : Bool := match d with
  | .tuple [.int p, .int o, _] => goodPO p o
  | _ => false
theorem headD_good {i : Nat} {p o : Int} {b : PyData} : headD i (.tuple [.int p, .int o, b]) = true ↔ goodPO p o = true ∧ (i = 0 → p = 0) := by
  rw [headD_3]
  have e1 : belowD (if i = 0 then 0 + 1 else 3 + 1) (.int p) = (decide (0 ≤ p) && decide (p < if i = 0 then 0 + 1 else 3 + 1)) := rfl
  have e2 : belowD (99 + 1) (.int o) = (decide (0 ≤ o) && decide (o < 99 + 1)) := rfl
  unfold goodPO
  rw [e1, e2]
  simp only [Bool.and_eq_true, decide_eq_true_eq]
  by_cases z : i = 0
  · rw [if_pos z]
    constructor
    · intro h
      exact ⟨by omega, fun _ => by omega⟩
    · intro h
      have := h.2 z
      omega
  · rw [if_neg z]
    constructor
    · intro h
      exact ⟨by omega, fun y => absurd y z⟩
    · intro h
      omega
theorem okLawIsProgram (D : DefAt K mg "_law_is_program" sL_is_program pL_is_program) (T : Blt mg) (C_law_is_body : Callee P w K mg base "_law_is_body" 21 pL_is_body (spLawIsBody K 6)) (C_law_count : Callee P w K mg base "_law_count" 7 pL_count (spLawCount K 6)) : Callee P w K mg base "_law_is_program" 22 pL_is_program (spLawIsProgram K) := by
  refine D.ok scL_is_program (fun vs H Q E h => ?_) (fun f cdv A outer s H vs Q E hr h => ?_)
  · obtain ⟨v, ws, rfl, _⟩ := h
    rfl
  obtain ⟨v, ws, rfl, hR, wq, lw, q⟩ := h
  obtain ⟨a, xs, rfl, hT, hx⟩ := hR.tup_inv
  have lx := hx.length
  refine ⟨_, (pss_cons (ps_setLc (i := 1) (own := [("_law_work", 3)]) (g := gName 3) (by rfl) scL_is_program.nd rfl rfl (sw_true rfl rfl rfl (by decide +kernel)) (piTup (K := K) (pv 0)) (blkOk_by (own := [("_law_work", 3)]) (N := nL_is_program) (sc := defScope sL_is_program) (by decide +kernel)) (fun _ _ _ _ _ => (pg_name (i := 3) scL_is_program.nd rfl (Or.inl rfl))) (fun _ _ _ _ _ => pts_nil) (fun _ _ _ _ _ => (pe_slice (slA (K := K)) (pv 3) po_none (po_some pe_int))))
  (pss_cons (ps_if (PW.pt (pw_or (pt_not (pt_chain op_le op_le pe_int (pe_callB (cLen (K := K)) (by rfl) T.len PySem.boot_len (pa_cons (pv 1) pa_nil)) pe_int)) (pw_or1 (pt_cmpR op_ne (pe_ix (ixT (K := K)) (pe_ix (ixL (K := K)) (pv 1) pe_int (fun _ _ => rfl)) pe_int (fun _ _ => rfl)) pe_int (nomark _))))) (pss_one (ps_ret pe_bl)) pss_nil)
  (pss_cons (ps_if (pt_cmpR (opNeE (K := K) hr.units0) (pe_lc (own := [("_law_one", 4)]) (g := gName 4) (by rfl) scL_is_program.nd (piList (K := K) (pv 1)) (blkOk_by (own := [("_law_one", 4)]) (N := nL_is_program) (sc := defScope sL_is_program) (by decide +kernel)) (fun _ _ _ _ _ => (pg_name (i := 4) scL_is_program.nd rfl (Or.inl rfl))) (fun _ _ _ _ _ => (pts_one (PW.pt (pw_or (pt_not (pt_chain op_le op_le pe_int (pe_ix (ixT (K := K)) (pv 4) pe_int (fun _ _ => rfl)) pe_int)) (pw_or1 (pt_not (pt_chain op_le op_le pe_int (pe_ix (ixT (K := K)) (pv 4) pe_int (fun _ _ => rfl)) pe_int))))))) (fun _ _ _ _ _ => (pv 4))) (pe_lst pa_nil) (nomark _)) (pss_one (ps_ret pe_bl)) pss_nil)
  (pss_cons (ps_for PassesOwn.never rfl (pi_range1 rfl T.range (pa_cons (pe_callB (cLen (K := K)) (by rfl) T.len PySem.boot_len (pa_cons (pv 0) pa_nil)) pa_nil)) (pg_name (i := 2) scL_is_program.nd rfl (Or.inl rfl))
   (pss_one (ps_if (PW.pt (pw_or (pt_not (pt_val (pcall C_law_is_body (hr.mono (by first | exact Nat.le_of_ble_eq_true rfl | omega)) rfl (pa_cons (pv 1) (pa_cons (pv 2) (pa_cons (pe_ix (ixT (K := K)) (pe_ix (ixT (K := K)) (pv 0) (pv 2) (fun _ _ => rfl)) pe_int (fun _ _ => rfl)) (pa_cons pe_int pa_nil))))))) (pw_or1 (pt_cmpR op_gt (pcall C_law_count (hr.mono (by first | exact Nat.le_of_ble_eq_true rfl | omega)) rfl (pa_cons (pe_ix (ixT (K := K)) (pe_ix (ixT (K := K)) (pv 0) (pv 2) (fun _ _ => rfl)) pe_int (fun _ _ => rfl)) pa_nil)) pe_int (nomark _))))) (pss_one (ps_ret pe_bl)) pss_nil)))
  (pss_one (ps_ret pe_bl)))))), ?_⟩
  walk_at "rd"
  refine lcT (xs := xs) (fun E j H' => ∃ ys : List V, H E = none ∧ Keep [] H H' ∧ H' E = some (.lst ys) ∧ ys.length = j ∧ ∀ (m : Nat) (p o : Int) (b : PyData), m < j → ws[m]? = some (.tuple [.int p, .int o, b]) → ∃ t, ys[m]? = some (.ref t) ∧ SqT K H' t [.int p, .int o]) (fun E H1 nE e1 k1 => ⟨[], nE, k1, e1, rfl, fun m p o b z => by omega⟩) (fun E j H1 _ hp => ?_) (fun E j x H1 hx' hp => ?_) (fun E H1 hp => ?_)
  · obtain ⟨ys, nE, k1, _⟩ := hp
    exact (keep_ts0 k1).sqT hT
  · obtain ⟨ys, nE, k1, h1, ly, at_⟩ := hp
    obtain ⟨d, ed, rd⟩ := hx.get' hx'
    obtain ⟨p, o, b, rfl, _⟩ := (wq d (List.mem_of_getElem? ed)).is
    obtain ⟨wp, zs, rfl, hW, hz⟩ := (rd.ts (keep_ts0 k1)).tup_inv
    obtain ⟨v0, r0, rfl, g0, gr⟩ := hz.inv
    obtain ⟨v1, r1, rfl, g1, gr1⟩ := gr.inv
    obtain ⟨v2, r2, rfl, g2, gr2⟩ := gr1.inv
    cases gr2.inv0
    cases g0.int_inv
    cases g1.int_inv
    have lt : ys.length ≤ 90000 := by have := (List.getElem?_eq_some_iff.mp hx').1; omega
    walk_at "rd"
    refine ⟨rfl, ?_⟩
    walk_at "rd"
    intro sl H2 hsl k2 f2
    rw [show cutV [V.int p, .int o, v2] none (some 2) = [.int p, .int o] from rfl] at hsl
    have h2 := k2 _ _ h1 (by simp)
    walk_at "rd"
    intro H3 h3 k3
    have t23 : Tst H2 H3 := k3.ts fun y hy => by cases List.mem_singleton.mp hy; exact .inl ⟨_, h2⟩
    refine ⟨_, nE, (k1.trans k2).fresh1 k3 nE, h3, by rw [List.length_append, ly]; rfl, fun m p' o' b' hm em => ?_⟩
    by_cases z : m < j
    · obtain ⟨t, e1, e2⟩ := at_ m p' o' b' z em
      exact ⟨t, by rw [List.getElem?_append_left (by omega)]; exact e1, ((keep_ts0 k2).trans t23).sqT e2⟩
    · have : m = j := by omega
      subst this
      rw [ed] at em
      cases em
      exact ⟨sl, by rw [List.getElem?_append_right (by omega), ly, Nat.sub_self]; rfl, t23.sqT hsl⟩
  obtain ⟨ys, nE, k1, h1, ly, at_⟩ := hp
  have lyw : ys.length = ws.length := by omega
  have ely : ((ys.length : Nat) : Int) = (ws.length : Int) := by rw [lyw]
  have sE : SqL K H1 E ys := SqL.of h1
  walk_at "rd"
  refine r_or ?_
  walk_at "rd"
  by_cases c1 : 1 ≤ ws.length
  case neg =>
    rw [if_neg (fun z => c1 (by have := of_decide_eq_true z; omega))]
    walk_at "rd"
    exact q false H1 ⟨fun z => Bool.noConfusion z, fun ⟨_, z, z2, _⟩ => by cases z; exact absurd z2.1 c1⟩ k1
  rw [if_pos (decide_eq_true (by omega))]
  walk_at "rd"
  by_cases c4 : ws.length ≤ 4
  case neg =>
    rw [decide_eq_false (show ¬ (ys.length : Int) ≤ 4 by omega)]
    walk_at "rd"
    exact q false H1 ⟨fun z => Bool.noConfusion z, fun ⟨_, z, z2, _⟩ => by cases z; exact absurd z2.2 c4⟩ k1
  rw [decide_eq_true (show (ys.length : Int) ≤ 4 by omega)]
  obtain ⟨p0, o0, b0, ew0, _⟩ := (wq ws[0] (List.getElem_mem (by omega))).is
  have ew0' : ws[0]? = some (.tuple [.int p0, .int o0, b0]) := by rw [List.getElem?_eq_getElem (by omega), ew0]
  obtain ⟨t0, et0, ht0⟩ := at_ 0 p0 o0 b0 (by omega) ew0'
  have at00 : atI ys 0 = some (.ref t0) := atI_nat (j := 0) et0
  have at0p : atI [V.int p0, .int o0] 0 = some (.int p0) := at0
  walk_at "rd"
  by_cases cp : p0 = 0
  case neg =>
    rw [decide_eq_false (show ¬ V.int p0 = V.int 0 from fun z => cp (V.int.inj z))]
    walk_at "rd"
    refine q false H1 ⟨fun z => Bool.noConfusion z, fun ⟨_, z, _, z3, _⟩ => ?_⟩ k1
    cases z
    exact absurd ((headD_good.mp (z3 0 _ ew0')).2 rfl) cp
  rw [decide_eq_true (congrArg V.int cp)]
  walk_at "rd"
  refine lcLi' (xs := ys) (fun F j H' => ∃ zs : List V, H1 F = none ∧ Keep [] H1 H' ∧ H' F = some (.lst zs) ∧ zs.length ≤ j ∧ zs.isEmpty = (ws.take j).all goodW) (fun F H2 nF e2 k2 => ⟨[], nF, k2, e2, Nat.le_refl _, rfl⟩) (fun F j H2 _ hp => ?_) (fun F j x H2 hx' hp => ?_) (fun F H2 hp => ?_)
  · obtain ⟨zs, nF, k2, _⟩ := hp
    exact k2.sqL (by simp) sE
  · obtain ⟨zs, nF, k2, h2, lz, ez⟩ := hp
    have hj := (List.getElem?_eq_some_iff.mp hx').1
    rw [lyw] at hj
    obtain ⟨p, o, b, ew, _⟩ := (wq ws[j] (List.getElem_mem hj)).is
    have ew' : ws[j]? = some (.tuple [.int p, .int o, b]) := by rw [List.getElem?_eq_getElem hj, ew]
    obtain ⟨t, et, ht⟩ := at_ j p o b (by omega) ew'
    rw [hx'] at et
    cases et
    have ht2 := (keep_ts0 k2).sqT ht
    have ap : atI [V.int p, .int o] 0 = some (.int p) := at0
    have ao : atI [V.int p, .int o] 1 = some (.int o) := at1
    have lt : zs.length ≤ 90000 := by omega
    have al : (ws.take (j + 1)).all goodW = ((ws.take j).all goodW && goodPO p o) := by
      rw [List.take_add_one, ew', List.all_append]
      show (_ && (goodPO p o && true)) = _
      rw [Bool.and_true]
    have good : goodPO p o = true → ∃ zs : List V, H1 F = none ∧ Keep [] H1 H2 ∧ H2 F = some (.lst zs) ∧ zs.length ≤ j + 1 ∧ zs.isEmpty = (ws.take (j + 1)).all goodW := fun g => ⟨zs, nF, k2, h2, by omega, by rw [al, g, Bool.and_true]; exact ez⟩
    have bad : goodPO p o = false → ∀ H3, H3 F = some (.lst (zs ++ [V.ref t])) → Keep [F] H2 H3 → ∃ zs : List V, H1 F = none ∧ Keep [] H1 H3 ∧ H3 F = some (.lst zs) ∧ zs.length ≤ j + 1 ∧ zs.isEmpty = (ws.take (j + 1)).all goodW := fun g H3 h3 k3 => by
      refine ⟨_, nF, k2.fresh1 k3 nF, h3, by rw [List.length_append]; show zs.length + 1 ≤ _; omega, ?_⟩
      rw [al, g, Bool.and_false]
      cases zs <;> rfl
    unfold goodPO at good bad
    walk_at "rd"
    refine ⟨rfl, ?_⟩
    walk_at "rd"
    refine r_or ?_
    walk_at "rd"
    refine cases_b (decide (0 ≤ p)) (fun d1 => ?_) (fun d1 => ?_)
    case refine_2 =>
      rw [d1, if_neg (by decide)]
      rw [d1] at bad
      walk_at "rd"
      exact bad rfl
    rw [d1, if_pos rfl]
    walk_at "rd"
    refine cases_b (decide (p ≤ 3)) (fun d2 => ?_) (fun d2 => ?_)
    case refine_2 =>
      rw [d2]
      rw [d1, d2] at bad
      walk_at "rd"
      exact bad rfl
    rw [d2]
    walk_at "rd"
    refine cases_b (decide (0 ≤ o)) (fun d3 => ?_) (fun d3 => ?_)
    case refine_2 =>
      rw [d3, if_neg (by decide)]
      rw [d1, d2, d3] at bad
      walk_at "rd"
      exact bad rfl
    rw [d3, if_pos rfl]
    walk_at "rd"
    refine cases_b (decide (o ≤ 99)) (fun d4 => ?_) (fun d4 => ?_)
    case refine_2 =>
      rw [d4]
      rw [d1, d2, d3, d4] at bad
      walk_at "rd"
      exact bad rfl
    rw [d4]
    rw [d1, d2, d3, d4] at good
    walk_at "rd"
    exact good rfl
  obtain ⟨zs, nF, k2, h2, lz, ez⟩ := hp
  rw [List.take_of_length_le (by omega)] at ez
  walk_at "rd"
  intro el H3 nel hel k3
  have h3 := k3 _ _ h2 (by simp)
  have k13 := k2.trans k3
  have k03 := k1.trans k13
  walk_at "rd"
  refine r_neE (SqL.of h3) (SqL.of hel) ?_
  rw [ez]
  refine cases_b (ws.all goodW) (fun ca => ?_) (fun ca => ?_)
  case refine_2 =>
    rw [ca]
    walk_at "rd"
    refine q false H3 ⟨fun z => Bool.noConfusion z, fun ⟨_, z, _, z3, _⟩ => ?_⟩ k03
    cases z
    have : ws.all goodW = true := by
      rw [List.all_eq_true]
      intro d hd
      obtain ⟨j, ej⟩ := List.mem_iff_getElem?.mp hd
      obtain ⟨p, o, b, rfl, _⟩ := (wq d hd).is
      exact (headD_good.mp (z3 j _ ej)).1
    rw [ca] at this
    cases this
  rw [ca]
  have heads : ∀ (j : Nat) (x : PyData), ws[j]? = some x → headD j x = true := fun j x e => by
    have hx2 := List.all_eq_true.mp ca x (List.mem_of_getElem? e)
    obtain ⟨p, o, b, rfl, _⟩ := (wq x (List.mem_of_getElem? e)).is
    refine headD_good.mpr ⟨hx2, fun z => ?_⟩
    subst z
    rw [ew0'] at e
    cases e
    exact cp
  have ls : (shD ws).length = ws.length := List.length_map _
  have shs : Shs K H3 E (shD ws) := by
    refine ⟨ys, k13.sqL (by simp) sE, by omega, fun i hi => ?_⟩
    have hi' : i < ws.length := by omega
    have ew := List.getElem?_eq_getElem hi'
    obtain ⟨p, o, b, e, _⟩ := headD_inv (heads i _ ew)
    rw [e] at ew
    obtain ⟨t, et, ht⟩ := at_ i p o b (by omega) ew
    have es : shOf (shD ws) i = (p, o) := by
      unfold shOf shD
      rw [List.getD_eq_getElem?_getD, List.getElem?_map, ew]
      rfl
    rw [es]
    exact ⟨t, atI_nat et, (keep_ts0 k13).sqT ht⟩
  have hT3 := (keep_ts0 k03).sqT hT
  have elx : ((xs.length : Nat) : Int) = (ws.length : Int) := by rw [lx]
  walk_at "rd"
  rw [Int.toNat_natCast]
  refine forR (fun j σ H' => (∃ x2 : Option V, σ = [some (.ref a), some (.ref E), x2, none, none]) ∧ Keep [] H3 H' ∧ ∀ (m : Nat) (x : PyData), m < j → ws[m]? = some x → bodyD (okSt (shD ws) m 5) (itemD x 2) = true ∧ cntB (cntSt 5) (itemD x 2) ≤ 100) ⟨⟨_, rfl⟩, Keep.refl, fun m x z => by omega⟩ (fun j σ H4 hj hp => ?_) (fun σ H4 hp => ?_)
  · obtain ⟨⟨x2, rfl⟩, k4, okb⟩ := hp
    have hj' : j < ws.length := by omega
    have ew := List.getElem?_eq_getElem hj'
    obtain ⟨u, eu, hu⟩ := hx.get ew
    obtain ⟨p, o, b, e, bq⟩ := (wq ws[j] (List.getElem_mem hj')).is
    have eb : itemD ws[j] 2 = b := by rw [e]; rfl
    have k04 := k03.trans k4
    have hu4 := hu.ts (keep_ts0 k04)
    rw [e] at hu4
    obtain ⟨wp, zs', rfl, hW, hz⟩ := hu4.tup_inv
    obtain ⟨v0, r0, rfl, g0, gr⟩ := hz.inv
    obtain ⟨v1, r1, rfl, g1, gr1⟩ := gr.inv
    obtain ⟨v2, r2, rfl, g2, gr2⟩ := gr1.inv
    cases gr2.inv0
    have hT4 := (keep_ts0 k4).sqT hT3
    have au := atI_nat eu
    have a2 : atI [v0, v1, v2] 2 = some v2 := at2
    walk_at "rd"
    refine r_or ?_
    walk_at "rd"
    refine ask ⟨E, shD ws, j, 0, v2, b, rfl, shs.keep0 k4, by omega, g2, bq, by omega, by omega, fun H5 k5 => ?_⟩
    have hT5 := (keep_ts0 k5).sqT hT4
    have hW5 := (keep_ts0 k5).sqT hW
    walk_at "rd"
    refine cases_b (bodyD (okSt (shD ws) j (5 - 0)) b) (fun cb => ?_) (fun cb => ?_)
    case refine_2 =>
      rw [cb]
      walk_at "rd"
      refine q false H5 ⟨fun z => Bool.noConfusion z, fun ⟨_, z, _, _, z4⟩ => ?_⟩ (k04.trans k5)
      cases z
      have := (z4 j _ ew).1
      rw [eb] at this
      have cb' : bodyD (okSt (shD ws) j 5) b = false := cb
      rw [cb'] at this
      cases this
    rw [cb]
    walk_at "rd"
    refine ask ⟨v2, shD ws, j, 5, b, rfl, g2.ts (keep_ts0 k5), cb, by omega, ?_⟩
    walk_at "rd"
    refine ite2 (fun c => ?_) (fun c => ?_)
    · walk_at "rd"
      refine q false H5 ⟨fun z => Bool.noConfusion z, fun ⟨_, z, _, _, z4⟩ => ?_⟩ (k04.trans k5)
      cases z
      have := (z4 j _ ew).2
      rw [eb] at this
      have := of_decide_eq_true c
      omega
    · have c' : ¬ (100 : Int) < ((cntB (cntSt 5) b : Nat) : Int) := fun z => c (decide_eq_true z)
      walk_at "rd"
      refine ⟨⟨_, rfl⟩, k4.trans k5, fun m x hm em => ?_⟩
      by_cases z : m < j
      · exact okb m x z em
      · have : m = j := by omega
        subst this
        rw [ew] at em
        cases em
        rw [eb]
        exact ⟨cb, by omega⟩
  · obtain ⟨⟨x2, rfl⟩, k4, okb⟩ := hp
    walk_at "rd"
    exact q true H4 ⟨fun _ => ⟨ws, rfl, ⟨c1, c4⟩, heads, fun i x e => okb i x (by have := (List.getElem?_eq_some_iff.mp e).1; omega) e⟩, fun _ => rfl⟩ (k03.trans k4)
end
end
section
section
variable {P : Program} {w : World} {K : PySem.W.Frag} {mg : Str → Option Value} {base : Heap}
theorem r_notInS {c : Nat} {z : Str} {H : Hp} {Q : VK} (q : Q (.bl (!decide (c ∈ z.cps.toList))) H) : rNotInS (.str ⟨#[c]⟩) (.str z) H Q := ⟨c, z, rfl, rfl, q⟩
theorem lcSi {σ : L2.St} {H : Hp} {Q : VK} {te : TE} {z : Str} {g : TG} {tt : TT} {vs : List Nat} (Pv : Addr → Nat → Hp → Prop) (h0 : ∀ E H1, H E = none → H1 E = some (.lst []) → Keep [] H H1 → Pv E 0 H1)
    (hs : ∀ E i c H, z.cps[i]? = some c → Pv E i H → g (.str ⟨#[c]⟩) (wipe σ vs) H fun σ2 H2 => wipe σ2 vs = wipe σ vs ∧ tt σ2 H2 fun b H3 => if b = true then te σ2 H3 fun y H4 => Acc E y H4 (Pv E (i + 1)) else Pv E (i + 1) H3) (hd : ∀ E H, Pv E z.cps.size H → Q (.ref E) H) : LcIt (Its z) g tt te vs σ H Q :=
  lcYi walk_str Pv h0 (fun _ _ _ _ _ => trivial) (fun E i x H H' hi p y => by
    obtain ⟨rfl, c, e, rfl⟩ := y
    exact hs E i c H' e p) hd
theorem str_zero {z : Str} : decide (z = "0") = decide (z.cps.toList = [48]) := by
  rw [Bool.eq_iff_iff, decide_eq_true_eq, decide_eq_true_eq]
  constructor
  · rintro rfl
    decide +kernel
  · intro h
    cases z with
    | mk a =>
      have : a = (Str.ofString "0").cps := by
        refine Array.toList_inj.mp ?_
        rw [show a.toList = [48] from h]
        decide +kernel
      rw [this]
theorem fig_law {z : Str} (h : figA z = true) : (decide (z = "0") || !decide (z.cps.toList.head? = some 48)) = !figZ z := by
  have zl : z.cps.toList.length = z.length := rfl
  unfold figA at h
  rw [Bool.and_eq_true, decide_eq_true_eq, decide_eq_true_eq] at h
  rw [str_zero]
  unfold figZ
  match e : z.cps.toList, zl with
  | [], zl => simp at zl; omega
  | [a], zl =>
    have : decide (1 < z.length) = false := decide_eq_false (by simp at zl; omega)
    rw [this]
    show (decide ([a] = [48]) || !decide (some a = some 48)) = true
    by_cases c : a = 48
    · subst c; rfl
    · rw [decide_eq_false (show ¬ some a = some 48 from fun y => c (Option.some.inj y))]
      simp
  | a :: b :: r, zl =>
    have : decide (1 < z.length) = true := decide_eq_true (by simp at zl; omega)
    rw [this, decide_eq_false (show ¬ a :: b :: r = [48] from fun y => by cases y)]
    rfl
noncomputable def spLawFigures : Sp := fun vs H Q _ => ∃ z : Str, vs = [.str z] ∧ z.length ≤ 100000 ∧ ∀ H', Keep [] H H' → Q (.bl (figOf z).isSome) H'
noncomputable abbrev sL_is_figures : Stmt := top 60
noncomputable abbrev nL_is_figures : List Str := ["_law_word", "_law_sign"]
noncomputable abbrev pL_is_figures : List Str := ["_law_word"]
theorem scL_is_figures : FnScope nL_is_figures pL_is_figures (defScope sL_is_figures) := ⟨rfl, rfl, rfl, by decide +kernel, rfl, by decide +kernel, by decide +kernel⟩
theorem okLawFigures (D : DefAt K mg "_law_is_figures" sL_is_figures pL_is_figures) (T : Blt mg) : Callee P w K mg base "_law_is_figures" 1 pL_is_figures spLawFigures := by
  refine D.ok scL_is_figures (fun vs H Q E h => ?_) (fun f cdv A outer s H vs Q E hr h => ?_)
  · obtain ⟨z, rfl, _⟩ := h
    rfl
  obtain ⟨z, rfl, hz, q⟩ := h
  have hs : z.length ≤ sizeLine := Nat.le_trans hz (small (by omega))
  rw [← fig_is] at q
  refine ⟨_, (pss_cons (ps_if (PW.pt (pw_or (pt_not (pt_chain op_le op_le pe_int (pe_callB cLenS (by rfl) T.len PySem.boot_len (pa_cons (pv 0) pa_nil)) pe_int)) (pw_or1 (pt_cmpR (opNeE (K := K) hr.units0) (pe_lc (own := [("_law_sign", 1)]) (g := gName 1) (by rfl) scL_is_figures.nd (pi_str (pv 0)) (blkOk_by (own := [("_law_sign", 1)]) (N := nL_is_figures) (sc := defScope sL_is_figures) (by decide +kernel)) (fun _ _ _ _ _ => (pg_name (i := 1) scL_is_figures.nd rfl (Or.inl rfl))) (fun _ _ _ _ _ => (pts_one (pt_cmpR op_notInS (pv 1) pe_str (by with_unfolding_all rfl)))) (fun _ _ _ _ _ => (pv 1))) (pe_lst pa_nil) (nomark _))))) (pss_one (ps_ret pe_bl)) pss_nil)
  (pss_one (ps_ret (pe_or (pe_cmpR op_eq (pv 0) pe_str (nomark _)) (pe_one (pe_cmpR op_ne (pe_ix ix_str (pv 0) pe_int (fun _ _ => rfl)) pe_str (nomark _))))))), ?_⟩
  have zl : z.cps.toList.length = z.length := rfl
  have cast1 : decide ((1 : Int) ≤ (z.length : Int)) = decide (1 ≤ z.length) := by rw [Bool.eq_iff_iff, decide_eq_true_eq, decide_eq_true_eq]; omega
  have cast2 : decide ((z.length : Int) ≤ 2) = decide (z.length ≤ 2) := by rw [Bool.eq_iff_iff, decide_eq_true_eq, decide_eq_true_eq]; omega
  walk_at "rd"
  refine r_or ?_
  walk_at "rd"
  have figs : ∀ {Qf : Hp → Prop}, True := fun {_} => trivial
  by_cases c1 : 1 ≤ z.length
  case neg =>
    rw [cast1, decide_eq_false c1]
    walk_at "rd"
    have e : (figA z && !figZ z && figS z) = false := by
      unfold figA
      rw [decide_eq_false c1]
      rfl
    rw [e] at q
    exact q H Keep.refl
  rw [cast1, decide_eq_true c1]
  walk_at "rd"
  by_cases c2 : z.length ≤ 2
  case neg =>
    rw [cast2, decide_eq_false c2]
    walk_at "rd"
    have e : (figA z && !figZ z && figS z) = false := by
      unfold figA
      rw [decide_eq_false c2, Bool.and_false]
      rfl
    rw [e] at q
    exact q H Keep.refl
  have fa : figA z = true := by
    unfold figA
    rw [decide_eq_true c1, decide_eq_true c2]
    rfl
  rw [fa, Bool.true_and] at q
  rw [cast2, decide_eq_true c2]
  walk_at "rd"
  refine r_iStr ?_
  walk_at "rd"
  refine ⟨z, rfl, ?_⟩
  refine lcSi (fun E i H' => ∃ ys : List V, H E = none ∧ Keep [] H H' ∧ H' E = some (.lst ys) ∧ ys.length ≤ i ∧ ys.isEmpty = (z.cps.toList.take i).all (fun c => decide (c ∈ FIGS.cps.toList))) (fun E H1 nE e1 k1 => ⟨[], nE, k1, e1, Nat.le_refl _, rfl⟩) (fun E i c H1 hc hp => ?_) (fun E H1 hp => ?_)
  · obtain ⟨ys, nE, k1, h1, ly, ey⟩ := hp
    have hc' : z.cps.toList[i]? = some c := by rw [Array.getElem?_toList]; exact hc
    have hi := (List.getElem?_eq_some_iff.mp hc').1
    have lt : ys.length ≤ 1000 := by omega
    have al : (z.cps.toList.take (i + 1)).all (fun c => decide (c ∈ FIGS.cps.toList)) = ((z.cps.toList.take i).all (fun c => decide (c ∈ FIGS.cps.toList)) && decide (c ∈ FIGS.cps.toList)) := by
      rw [List.take_add_one, hc', List.all_append]
      show (_ && (decide (c ∈ FIGS.cps.toList) && true)) = _
      rw [Bool.and_true]
    walk_at "rd"
    refine ⟨rfl, ?_⟩
    walk_at "rd"
    refine r_notInS ?_
    walk_at "rd"
    refine cases_b (decide (c ∈ FIGS.cps.toList)) (fun cc => ?_) (fun cc => ?_)
    · have cc' : decide (c ∈ (Str.ofString "0123456789").cps.toList) = true := cc
      rw [cc', if_neg (by decide)]
      exact ⟨ys, nE, k1, h1, by omega, by rw [al, cc, Bool.and_true]; exact ey⟩
    · have cc' : decide (c ∈ (Str.ofString "0123456789").cps.toList) = false := cc
      rw [cc', if_pos (by decide)]
      walk_at "rd"
      intro H2 h2 k2
      refine ⟨_, nE, k1.fresh1 k2 nE, h2, by rw [List.length_append]; show ys.length + 1 ≤ _; omega, ?_⟩
      rw [al, cc, Bool.and_false]
      cases ys <;> rfl
  · obtain ⟨ys, nE, k1, h1, ly, ey⟩ := hp
    rw [List.take_of_length_le (show z.cps.toList.length ≤ z.cps.size from Nat.le_refl _)] at ey
    have ey' : ys.isEmpty = figS z := ey
    walk_at "rd"
    intro el H2 nel hel k2
    have h2 := k2 _ _ h1 (by simp)
    walk_at "rd"
    refine r_neE (SqL.of h2) (SqL.of hel) ?_
    rw [ey']
    refine cases_b (figS z) (fun cf => ?_) (fun cf => ?_)
    case refine_2 =>
      rw [cf, Bool.and_false] at q
      rw [cf]
      walk_at "rd"
      exact q H2 (k1.trans k2)
    rw [cf, Bool.and_true] at q
    rw [cf]
    have fl := fig_law fa
    rw [← fl] at q
    obtain ⟨x, r, e⟩ : ∃ x r, z.cps.toList = x :: r := by
      cases e : z.cps.toList with
      | nil => rw [e] at zl; simp at zl; omega
      | cons a r => exact ⟨a, r, rfl⟩
    have a0 : atI z.cps.toList 0 = some x := by rw [e]; exact atI_nat (j := 0) rfl
    rw [e] at q
    have e0 : decide (V.str z = V.str "0") = decide (z = "0") := decide_eq_decide.mpr ⟨V.str.inj, congrArg V.str⟩
    walk_at "rd"
    rw [e0]
    refine cases_b (decide (z = "0")) (fun c0 => ?_) (fun c0 => ?_)
    · rw [c0, Bool.true_or] at q
      rw [c0]
      walk_at "rd"
      exact q H2 (k1.trans k2)
    · rw [c0, Bool.false_or] at q
      rw [c0]
      walk_at "rd"
      refine r_ixS hs a0 ?_
      walk_at "rd"
      have e2 : decide (V.str ⟨#[x]⟩ = V.str "0") = decide ((x :: r).head? = some 48) := by
        rw [Bool.eq_iff_iff, decide_eq_true_eq, decide_eq_true_eq]
        constructor
        · intro h
          have := V.str.inj h
          have h2 : (⟨#[x]⟩ : Str).cps = (Str.ofString "0").cps := congrArg Str.cps this
          have h3 : (#[x] : Array Nat).toList = [48] := by rw [show (#[x] : Array Nat) = (Str.ofString "0").cps from h2]; decide +kernel
          have h4 : [x] = [48] := h3
          cases h4
          rfl
        · intro h
          cases h
          decide +kernel
      rw [e2]
      exact q H2 (k1.trans k2)
end
end
section
section
variable {P : Program} {w : World} {K : PySem.W.Frag} {mg : Str → Option Value} {base : Heap}
theorem cutV_mid {xs : List V} {i j : Nat} : cutV xs (some (i : Int)) (some (j : Int)) = (xs.drop i).take (j - i) := by
  unfold cutV
  rw [HT.sIx_nat, HT.sIx_nat]
  by_cases c0 : j ≤ i
  · rw [show j - i = 0 by omega, show min j xs.length - min i xs.length = 0 by omega, List.take_zero, List.take_zero]
  by_cases c : i ≤ xs.length
  · by_cases d : j ≤ xs.length
    · rw [Nat.min_eq_left c, Nat.min_eq_left d]
    · rw [Nat.min_eq_left c, Nat.min_eq_right (by omega)]
      exact (List.take_of_length_le (by rw [List.length_drop]; exact Nat.le_refl _)).trans (List.take_of_length_le (by rw [List.length_drop]; omega)).symm
  · rw [Nat.min_eq_right (show xs.length ≤ i by omega), List.drop_of_length_le (Nat.le_refl _), List.drop_of_length_le (show xs.length ≤ i by omega), List.take_nil, List.take_nil]
theorem cutV_one {xs : List V} {i : Nat} : cutV xs (some (i : Int)) (some ((i : Int) + 1)) = (xs.drop i).take 1 := by
  have := cutV_mid (xs := xs) (i := i) (j := i + 1)
  rw [Nat.add_sub_cancel_left] at this
  exact this
theorem cutV_two {xs : List V} {i : Nat} : cutV xs (some ((i : Int) + 1)) (some ((i : Int) + 2)) = (xs.drop (i + 1)).take 1 := by
  have := cutV_one (xs := xs) (i := i + 1)
  have e : (((i + 1 : Nat) : Int) + 1) = (i : Int) + 2 := by omega
  rw [e] at this
  exact this
theorem at_front {ws : List Str} {i : Nat} {y : Str} {r : List V} (e : y = "") : atI (((ws.map V.str).drop i).take 1 ++ (V.str y :: r)) 0 = some (.str (hdW (ws.drop i))) := by
  subst e
  refine atI_nat (j := 0) ?_
  rw [← List.map_drop]
  cases ws.drop i <;> rfl
theorem inV_pair {x a b : Str} : inV (V.str x) [V.str a, V.str b] = decide (x = a ∨ x = b) := (inV_strs' (l := [a, b])).trans (decide_eq_decide.mpr (by simp))
/-- what is told of a reading at a place -/
noncomputable def Told (K : PySem.W.Frag) (H : Hp) (i : Nat) : Option (PyData × Nat) → V → Prop
  | none, v => v = .non
  | some r, v => ∃ p u, v = .ref p ∧ SqT K H p [u, .int ((i + r.2 : Nat) : Int)] ∧ Rp K H u r.1
theorem fig_short {y : Str} {k : Nat} (h : figOf y = some k) : y.length ≤ 640 := by
  obtain ⟨a, rfl⟩ := figOf_mem h
  have := (nW_figs k a).1
  unfold figA at this
  rw [Bool.and_eq_true, decide_eq_true_eq, decide_eq_true_eq] at this
  omega
structure WdsL (H : Hp) (a : Addr) (ws : List Str) : Prop where
  at_ : H a = some (.lst (ws.map V.str))
  few : ws.length ≤ 90000
  short : ∀ z ∈ ws, z.length ≤ 100000
  ok : ∀ z ∈ ws, PyData.strOk z = true
theorem WdsL.hd {H : Hp} {a : Addr} {ws : List Str} (h : WdsL H a ws) (i : Nat) : (hdW (ws.drop i)).length ≤ 100000 := by
  cases e : ws.drop i with
  | nil => show (0 : Nat) ≤ _; omega
  | cons x r =>
    exact h.short x (List.drop_subset i ws (by rw [e]; exact List.mem_cons_self))
theorem WdsL.keep {H H1 : Hp} {a : Addr} {ws : List Str} (h : WdsL H a ws) (k : Keep [] H H1) : WdsL H1 a ws := ⟨k _ _ h.at_ (by simp), h.few, h.short, h.ok⟩
noncomputable def spLawThingAt (K : PySem.W.Frag) (n : Nat) : Sp := fun vs H Q _ => ∃ (a : Addr) (ws : List Str) (i : Nat) (r : Option (PyData × Nat)), vs = [.ref a, .int (i : Int)] ∧ WdsL H a ws ∧ lthF n (ws.drop i) = some r ∧ ∀ v H', Told K H' i r v → Keep [] H H' → Q v H'
noncomputable abbrev sL_thing_at : Stmt := top 61
noncomputable abbrev nL_thing_at : List Str := ["_law_words_here", "_law_at", "_law_word", "_law_number", "_law_first", "_law_second"]
noncomputable abbrev pL_thing_at : List Str := ["_law_words_here", "_law_at"]
theorem scL_thing_at : FnScope nL_thing_at pL_thing_at (defScope sL_thing_at) := ⟨rfl, rfl, rfl, by decide +kernel, rfl, by decide +kernel, by decide +kernel⟩
theorem okLawThingAt (D : DefAt K mg "_law_thing_at" sL_thing_at pL_thing_at) (T : Blt mg) (C_law_is_figures : Callee P w K mg base "_law_is_figures" 1 pL_is_figures spLawFigures) : ∀ n : Nat, CalleeA P w K mg base "_law_thing_at" (n + 1) pL_thing_at (spLawThingAt K n)
  | 0 => D.noneA fun vs H Q E h => by
    obtain ⟨a, ws, i, r, rfl, _, h, _⟩ := h
    cases h
  | n + 1 => by
    have C_law_thing_at := okLawThingAt D T C_law_is_figures n
    refine D.okA scL_thing_at (fun vs H Q E h => ?_) (fun f cdv A outer s H vs Q E hd h => ?_)
    · obtain ⟨a, ws, i, r, rfl, _⟩ := h
      rfl
    have hr := hd.room
    obtain ⟨a, ws, i, r, rfl, hw, hf, q⟩ := h
    refine ⟨_, (pss_cons (ps_set (i := 2) scL_thing_at.nd rfl (Or.inl rfl) (pe_ix (ixL (K := K)) (pe_op op_cat (pe_slice (slL (K := K)) (pv 0) (po_some (pv 1)) (po_some (pe_op op_add (pv 1) pe_int))) (pe_lst (pa_cons pe_str (pa_cons pe_str pa_nil)))) pe_int (fun _ _ => rfl)))
  (pss_cons (ps_if (pt_cmpR (opIn (K := K)) (pv 2) (pe_tup (pa_cons pe_str (pa_cons pe_str pa_nil))) (by with_unfolding_all rfl)) (pss_cons (ps_set (i := 3) scL_thing_at.nd rfl (Or.inl rfl) (pe_ix (ixL (K := K)) (pe_op op_cat (pe_slice (slL (K := K)) (pv 0) (po_some (pe_op op_add (pv 1) pe_int)) (po_some (pe_op op_add (pv 1) pe_int))) (pe_lst (pa_cons pe_str pa_nil))) pe_int (fun _ _ => rfl)))
  (pss_one (ps_ret (pe_ifExp (pt_val (pcall C_law_is_figures (hr.mono (by first | exact Nat.le_of_ble_eq_true rfl | omega)) rfl (pa_cons (pv 3) pa_nil))) (pe_tup (pa_cons (pe_tup (pa_cons (pv 2) (pa_cons (pe_callTy cIntS (by rfl) T.int (by decide +kernel) (pa_cons (pv 3) pa_nil)) pa_nil))) (pa_cons (pe_op op_add (pv 1) pe_int) pa_nil))) pe_non)))) pss_nil)
  (pss_cons (ps_if (pt_cmpR (opNotIn (K := K)) (pv 2) (pe_tup (pa_cons pe_str (pa_cons pe_str pa_nil))) (by with_unfolding_all rfl)) (pss_one (ps_ret (pe_ifExp (pt_val (pcall C_law_is_figures (hr.mono (by first | exact Nat.le_of_ble_eq_true rfl | omega)) rfl (pa_cons (pv 2) pa_nil))) (pe_tup (pa_cons (pe_tup (pa_cons pe_str (pa_cons (pe_callTy cIntS (by rfl) T.int (by decide +kernel) (pa_cons (pv 2) pa_nil)) pa_nil))) (pa_cons (pe_op op_add (pv 1) pe_int) pa_nil))) pe_non))) pss_nil)
  (pss_cons (ps_set (i := 4) scL_thing_at.nd rfl (Or.inl rfl) (pcallA C_law_thing_at (hd.mono (by omega)) rfl (pa_cons (pv 0) (pa_cons (pe_op op_add (pv 1) pe_int) pa_nil))))
  (pss_cons (ps_if (PW.pt (pw_or (pt_cmpR op_isN1 (pv 4) pe_non (nomark _)) (pw_or1 (pt_cmpR op_eq (pv 2) pe_str (nomark _))))) (pss_one (ps_ret (pe_ifExp (pt_cmpR op_isN1 (pv 4) pe_non (nomark _)) pe_non (pe_tup (pa_cons (pe_tup (pa_cons pe_str (pa_cons (pe_ix (ixT (K := K)) (pv 4) pe_int (fun _ _ => rfl)) pa_nil))) (pa_cons (pe_ix (ixT (K := K)) (pv 4) pe_int (fun _ _ => rfl)) pa_nil)))))) pss_nil)
  (pss_cons (ps_set (i := 5) scL_thing_at.nd rfl (Or.inl rfl) (pcallA C_law_thing_at (hd.mono (by omega)) rfl (pa_cons (pv 0) (pa_cons (pe_ix (ixT (K := K)) (pv 4) pe_int (fun _ _ => rfl)) pa_nil))))
  (pss_one (ps_ret (pe_ifExp (pt_cmpR op_isN1 (pv 5) pe_non (nomark _)) pe_non (pe_tup (pa_cons (pe_tup (pa_cons pe_str (pa_cons (pe_ix (ixT (K := K)) (pv 4) pe_int (fun _ _ => rfl)) (pa_cons (pe_ix (ixT (K := K)) (pv 5) pe_int (fun _ _ => rfl)) pa_nil)))) (pa_cons (pe_ix (ixT (K := K)) (pv 5) pe_int (fun _ _ => rfl)) pa_nil)))))))))))), ?_⟩
    have hwa := hw.at_
    walk_at "rd"
    intro p1 H1 n1 h1 k1
    rw [cutV_one] at h1
    walk_at "rd"
    intro p2 H2 n2 h2 k2
    have h1' := k2 _ _ h1 (by simp)
    walk_at "rd"
    refine r_cat h1' h2 (small (by rw [List.length_take]; simp; omega)) ?_
    walk_at "rd"
    intro p3 H3 n3 h3 k3
    have at3 := at_front (ws := ws) (i := i) (y := "") (r := [V.str ""]) rfl
    have k03 := (k1.trans k2).trans k3
    have hw3 := hw.keep k03
    walk_at "rd"
    intro p4 H4 n4 h4 k4
    have k04 := k03.trans k4
    have hw4 := hw.keep k04
    generalize ez : hdW (ws.drop i) = z
    walk_at "rd"
    rw [if_neg Bool.false_ne_true, inV_pair]
    unfold lthF at hf
    rw [ez] at hf
    have hd1 : hdW ((ws.drop i).drop 1) = hdW (ws.drop (i + 1)) := by rw [List.drop_drop]
    have toldN : ∀ H', Keep [] H H' → r = none → Q .non H' := fun H' k e => q _ H' (by rw [e]; rfl) k
    have hwa4 := hw4.at_
    by_cases c1 : z = "own" ∨ z = "par"
    · rw [if_pos c1, hd1] at hf
      rw [decide_eq_true c1]
      walk_at "rd"
      intro p5 H5 n5 h5 k5
      rw [cutV_two] at h5
      walk_at "rd"
      intro p6 H6 n6 h6 k6
      have h5' := k6 _ _ h5 (by simp)
      walk_at "rd"
      refine r_cat h5' h6 (small (by rw [List.length_take]; simp; omega)) ?_
      walk_at "rd"
      intro p7 H7 n7 h7 k7
      have at7 := at_front (ws := ws) (i := i + 1) (y := "") (r := []) rfl
      have k07 := ((k04.trans k5).trans k6).trans k7
      have hw7 := hw.keep k07
      have hz2 := hw.hd (i + 1)
      generalize ey : hdW (ws.drop (i + 1)) = y at hf at7 hz2
      walk_at "rd"
      refine ask ⟨y, rfl, hz2, fun H8 k8 => ?_⟩
      have k08 := k07.trans k8
      cases ef : figOf y with
      | none =>
        rw [ef] at hf
        walk_at "rd"
        exact toldN _ k08 (Option.some.inj hf).symm
      | some k =>
        rw [ef] at hf
        walk_at "rd"
        refine ite_t rfl ?_
        walk_at "rd"
        refine r_intS (fig_int ef) (fig_short ef) ?_
        walk_at "rd"
        intro p9 H9 n9 h9 k9
        walk_at "rd"
        intro p10 H10 n10 h10 k10
        have h9' := k10 _ _ h9 (by simp)
        refine q _ H10 ?_ ((k08.trans k9).trans k10)
        rw [← Option.some.inj hf]
        exact ⟨p10, _, rfl, SqT.of h10, .tup (SqT.of h9') (.cons (.str _) (.cons (.int _) .nil))⟩
    rw [if_neg c1] at hf
    rw [decide_eq_false c1]
    walk_at "rd"
    intro p5 H5 n5 h5 k5
    walk_at "rd"
    rw [if_pos rfl, inV_pair]
    have k05 := k04.trans k5
    by_cases c2 : z = "+" ∨ z = "cell"
    case neg =>
      rw [if_pos c2] at hf
      rw [decide_eq_false c2]
      walk_at "rd"
      have hz := hw.hd i
      rw [ez] at hz
      refine ask ⟨z, rfl, hz, fun H8 k8 => ?_⟩
      have k08 := k05.trans k8
      cases ef : figOf z with
      | none =>
        rw [ef] at hf
        walk_at "rd"
        exact toldN _ k08 (Option.some.inj hf).symm
      | some k =>
        rw [ef] at hf
        walk_at "rd"
        refine ite_t rfl ?_
        walk_at "rd"
        refine r_intS (fig_int ef) (fig_short ef) ?_
        walk_at "rd"
        intro p9 H9 n9 h9 k9
        walk_at "rd"
        intro p10 H10 n10 h10 k10
        have h9' := k10 _ _ h9 (by simp)
        refine q _ H10 ?_ ((k08.trans k9).trans k10)
        rw [← Option.some.inj hf]
        exact ⟨p10, _, rfl, SqT.of h10, .tup (SqT.of h9') (.cons (.str _) (.cons (.int _) .nil))⟩
    rw [if_neg (fun z => z c2)] at hf
    rw [decide_eq_true c2]
    walk_at "rd"
    rw [List.drop_drop] at hf
    have hw5 := hw.keep k05
    cases e1 : lthF n (ws.drop (i + 1)) with
    | none => rw [e1] at hf; cases hf
    | some ra =>
      rw [e1] at hf
      refine ask ⟨a, ws, i + 1, ra, rfl, hw5, e1, fun v1 H6 t1 k6 => ?_⟩
      have k06 := k05.trans k6
      have hw6 := hw.keep k06
      cases ra with
      | none =>
        cases (show v1 = .non from t1)
        walk_at "rd"
        refine r_or ?_
        walk_at "rd"
        exact toldN _ k06 (Option.some.inj hf).symm
      | some ra =>
        obtain ⟨p, u, rfl, hT, hR⟩ := t1
        have hf' : (if z = "cell" then some (some (PyData.tuple [.str "cell", ra.1], 1 + ra.2)) else o2 (lthF n ((ws.drop i).drop (1 + ra.2))) fun b => some (some (.tuple [.str "sum", ra.1, b.1], 1 + ra.2 + b.2))) = some r := hf
        have a0 : atI [u, .int ((i + 1 + ra.2 : Nat) : Int)] 0 = some u := at0
        have a1 : atI [u, .int ((i + 1 + ra.2 : Nat) : Int)] 1 = some (.int ((i + 1 + ra.2 : Nat) : Int)) := atI_nat (j := 1) rfl
        walk_at "rd"
        refine r_or ?_
        walk_at "rd"
        refine ite2 (fun c => ?_) (fun c => ?_)
        · have c3 : z = "cell" := V.str.inj (of_decide_eq_true c)
          rw [if_pos c3] at hf'
          walk_at "rd"
          intro p7 H7 n7 h7 k7
          have hT7 := (keep_ts0 k7).sqT hT
          walk_at "rd"
          intro p8 H8 n8 h8 k8
          have h7' := k8 _ _ h7 (by simp)
          have k78 := k7.trans k8
          refine q _ H8 ?_ (k06.trans k78)
          rw [← Option.some.inj hf']
          refine ⟨p8, _, rfl, SqT.of (by rw [show i + (1 + ra.2) = i + 1 + ra.2 by omega]; exact h8), .tup (SqT.of h7') (.cons (.str _) (.cons (hR.ts (keep_ts0 k78)) .nil))⟩
        · have c3 : ¬ z = "cell" := fun y => c (decide_eq_true (congrArg V.str y))
          rw [if_neg c3, List.drop_drop, show i + (1 + ra.2) = i + 1 + ra.2 by omega] at hf'
          walk_at "rd"
          cases e2 : lthF n (ws.drop (i + 1 + ra.2)) with
          | none => rw [e2] at hf'; cases hf'
          | some rb =>
            rw [e2] at hf'
            refine ask ⟨a, ws, i + 1 + ra.2, rb, rfl, hw6, e2, fun v2 H7 t2 k7 => ?_⟩
            have k07 := k06.trans k7
            have hT7 := (keep_ts0 k7).sqT hT
            have hR7 := hR.ts (keep_ts0 k7)
            cases rb with
            | none =>
              cases (show v2 = .non from t2)
              walk_at "rd"
              exact toldN _ k07 (Option.some.inj hf').symm
            | some rb =>
              obtain ⟨p', u', rfl, gT, gR⟩ := t2
              have b0 : atI [u', .int ((i + 1 + ra.2 + rb.2 : Nat) : Int)] 0 = some u' := at0
              have b1 : atI [u', .int ((i + 1 + ra.2 + rb.2 : Nat) : Int)] 1 = some (.int ((i + 1 + ra.2 + rb.2 : Nat) : Int)) := atI_nat (j := 1) rfl
              walk_at "rd"
              intro p8 H8 n8 h8 k8
              have gT8 := (keep_ts0 k8).sqT gT
              walk_at "rd"
              intro p9 H9 n9 h9 k9
              have h8' := k9 _ _ h8 (by simp)
              have k89 := k8.trans k9
              refine q _ H9 ?_ (k07.trans k89)
              rw [← Option.some.inj hf']
              refine ⟨p9, _, rfl, SqT.of (by rw [show i + (1 + ra.2 + rb.2) = i + 1 + ra.2 + rb.2 by omega]; exact h9), .tup (SqT.of h8') (.cons (.str _) (.cons (hR7.ts (keep_ts0 k89)) (.cons (gR.ts (keep_ts0 k89)) .nil)))⟩
end
end
section
section
variable {P : Program} {w : World} {K : PySem.W.Frag} {mg : Str → Option Value} {base : Heap}
theorem th_one : ∀ {t : Th}, 1 ≤ t.words.length
  | .num _ => Nat.le_refl _
  | .own _ => by show 1 ≤ 2; omega
  | .par _ => by show 1 ≤ 2; omega
  | .cell t => by show 1 ≤ t.words.length + 1; omega
  | .sum t u => by show 1 ≤ (t.words ++ u.words).length + 1; omega
theorem th_took {n : Nat} {ws : List Str} {r : PyData × Nat} (h : lthF n ws = some (some r)) : 1 ≤ r.2 ∧ r.2 ≤ ws.length := by
  obtain ⟨t, _, _, h3, h4⟩ := th_sound (d := r.1) (k := r.2) h
  rw [h3]
  refine ⟨th_one, ?_⟩
  have := congrArg List.length h4
  rw [List.length_append] at this
  omega
noncomputable def tupR (r : Option (List PyData × Nat)) : Option (PyData × Nat) := r.map fun l => (.tuple l.1, l.2)
theorem at_front1 {ws : List Str} {i : Nat} : atI (((ws.map V.str).drop i).take 1 ++ [V.str ""]) 0 = some (.str (hdW (ws.drop i))) := at_front rfl
noncomputable def spLawThingsAt (K : PySem.W.Frag) (n : Nat) : Sp := fun vs H Q _ => ∃ (a : Addr) (ws : List Str) (i m : Nat) (r : Option (List PyData × Nat)), vs = [.ref a, .int (i : Int)] ∧ WdsL H a ws ∧ ltsF n m (ws.drop i) = some r ∧ ∀ v H', Told K H' i (tupR r) v → Keep [] H H' → Q v H'
noncomputable abbrev sL_things_at : Stmt := top 62
noncomputable abbrev nL_things_at : List Str := ["_law_words_here", "_law_at", "_law_found", "_law_told_here"]
noncomputable abbrev pL_things_at : List Str := ["_law_words_here", "_law_at"]
theorem scL_things_at : FnScope nL_things_at pL_things_at (defScope sL_things_at) := ⟨rfl, rfl, rfl, by decide +kernel, rfl, by decide +kernel, by decide +kernel⟩
theorem okLawThingsAt (D : DefAt K mg "_law_things_at" sL_things_at pL_things_at) (T : Blt mg) {n : Nat} (C_law_thing_at : CalleeA P w K mg base "_law_thing_at" (n + 1) pL_thing_at (spLawThingAt K n)) : CalleeA P w K mg base "_law_things_at" (n + 2) pL_things_at (spLawThingsAt K n) := by
  refine D.okA scL_things_at (fun vs H Q E h => ?_) (fun f cdv A outer s H vs Q E hd h => ?_)
  · obtain ⟨a, ws, i, m, r, rfl, _⟩ := h
    rfl
  have hr := hd.room
  obtain ⟨a, ws, i, m, r, rfl, hw, hf, q⟩ := h
  refine ⟨_, (pss_cons (ps_set (i := 2) scL_things_at.nd rfl (Or.inl rfl) (pe_lst pa_nil))
  (pss_cons (ps_while PassesOwn.never (pt_cmpR op_ne (pe_ix (ixL (K := K)) (pe_op op_cat (pe_slice (slL (K := K)) (pv 0) (po_some (pv 1)) (po_some (pe_op op_add (pv 1) pe_int))) (pe_lst (pa_cons pe_str pa_nil))) pe_int (fun _ _ => rfl)) pe_str (nomark _))
   (pss_cons (ps_set (i := 3) scL_things_at.nd rfl (Or.inl rfl) (pcallA C_law_thing_at (hd.mono (by omega)) rfl (pa_cons (pv 0) (pa_cons (pv 1) pa_nil))))
  (pss_cons (ps_if (pt_cmpR op_isN1 (pv 3) pe_non (nomark _)) (pss_one (ps_ret pe_non)) pss_nil)
  (pss_cons (ps_expr (peApp (K := K) (pv 2) (pe_ix (ixT (K := K)) (pv 3) pe_int (fun _ _ => rfl))))
  (pss_one (ps_set (i := 1) scL_things_at.nd rfl (Or.inl rfl) (pe_ix (ixT (K := K)) (pv 3) pe_int (fun _ _ => rfl))))))))
  (pss_one (ps_ret (pe_tup (pa_cons (pe_callTy (cTuple (K := K)) (by rfl) T.tuple (by decide +kernel) (pa_cons (pv 2) pa_nil)) (pa_cons (pe_op op_add (pv 1) pe_int) pa_nil))))))), ?_⟩
  walk_at "rd"
  intro b H1 nb hb k1
  have ab : a ≠ b := fun z => by rw [← z, hw.at_] at nb; cases nb
  have ab' : a ∉ [b] := by rw [List.mem_singleton]; exact ab
  walk_at "rd"
  refine whileM (fun m σ H' => ∃ (c : Nat) (ys : List V) (ds : List PyData) (r' : Option (List PyData × Nat)) (y : Option V), σ = [some (.ref a), some (.int ((i + c : Nat) : Int)), some (.ref b), y] ∧ Keep [b] H1 H' ∧ H' b = some (.lst ys) ∧ Rps K H' ys ds ∧ ys.length ≤ c ∧ c ≤ ws.length ∧ ltsF n m (ws.drop (i + c)) = some r' ∧ r = r'.map fun l => (ds ++ l.1, c + l.2)) m ⟨0, [], [], r, none, rfl, Keep.refl, hb, .nil, Nat.le_refl _, Nat.zero_le _, hf, by cases r with | none => rfl | some r => show some r = some ([] ++ r.1, 0 + r.2); rw [Nat.zero_add]; rfl⟩ (fun m σ H2 hp => ?_)
  obtain ⟨c, ys, ds, r', y, rfl, k2, hb2, rys, ly, lc, hf', er⟩ := hp
  have hw2 : WdsL H2 a ws := ⟨k2 _ _ (k1 _ _ hw.at_ (by simp)) ab', hw.few, hw.short, hw.ok⟩
  have hwa2 := hw2.at_
  walk_at "rd"
  intro p1 H3 n3 h3 k3
  rw [cutV_one] at h3
  walk_at "rd"
  intro p2 H4 n4 h4 k4
  have h3' := k4 _ _ h3 (by simp)
  walk_at "rd"
  refine r_cat h3' h4 (small (by rw [List.length_take]; simp; omega)) ?_
  walk_at "rd"
  intro p3 H5 n5 h5 k5
  have at5 := at_front1 (ws := ws) (i := i + c)
  have k25 := (k3.trans k4).trans k5
  have hb5 := k25 _ _ hb2 (by simp)
  have hw5 := hw2.keep k25
  have few := hw.few
  generalize ez : hdW (ws.drop (i + c)) = z at at5
  walk_at "rd"
  have m0 : ∃ m', m = m' + 1 := by
    cases m with
    | zero => cases hf'
    | succ m => exact ⟨m, rfl⟩
  obtain ⟨m', rfl⟩ := m0
  unfold ltsF at hf'
  rw [ez] at hf'
  have k02 : Keep [] H H5 := k1.fresh1 (k2.trans (k25.mono (by simp))) nb
  refine ite2 (fun cc => ?_) (fun cc => ?_)
  case refine_2 =>
    have e : z = "." := Decidable.byContradiction fun y => cc (by rw [decide_eq_false (show ¬ V.str z = V.str "." from fun x => y (V.str.inj x))]; rfl)
    rw [if_pos e] at hf'
    walk_at "rd"
    intro p6 H6 n6 h6 k6
    have rys6 := (rys.ts (keep_ts0 k25)).ts (keep_ts0 k6)
    walk_at "rd"
    intro p7 H7 n7 h7 k7
    have h6' := k7 _ _ h6 (by simp)
    refine q _ H7 ?_ ((k02.trans k6).trans k7)
    rw [er, ← Option.some.inj hf']
    exact ⟨p7, _, rfl, SqT.of h7, .tup (SqT.of h6') (by show Rps K H7 ys (ds ++ []); rw [List.append_nil]; exact rys6.ts (keep_ts0 k7))⟩
  have e : ¬ z = "." := fun y => by
    rw [y] at cc
    revert cc
    decide +kernel
  rw [if_neg e] at hf'
  walk_at "rd"
  cases e1 : lthF n (ws.drop (i + c)) with
  | none => rw [e1] at hf'; cases hf'
  | some ra =>
    rw [e1] at hf'
    refine ask ⟨a, ws, i + c, ra, rfl, hw5, e1, fun v1 H6 t1 k6 => ?_⟩
    have hb6 := k6 _ _ hb5 (by simp)
    cases ra with
    | none =>
      cases (show v1 = .non from t1)
      walk_at "rd"
      refine q _ H6 ?_ (k02.trans k6)
      rw [er, ← Option.some.inj hf']
      exact rfl
    | some ra =>
      obtain ⟨p, u, rfl, hT, hR⟩ := t1
      obtain ⟨took, room⟩ := th_took e1
      rw [List.length_drop] at room
      have a0 : atI [u, .int ((i + c + ra.2 : Nat) : Int)] 0 = some u := at0
      have a1 : atI [u, .int ((i + c + ra.2 : Nat) : Int)] 1 = some (.int ((i + c + ra.2 : Nat) : Int)) := atI_nat (j := 1) rfl
      have lt : ys.length ≤ 100000 := by omega
      walk_at "rd"
      intro H7 h7 k7
      have t67 : Tst H6 H7 := k7.ts fun x hx => by cases List.mem_singleton.mp hx; exact .inl ⟨_, hb6⟩
      have hT7 := t67.sqT hT
      walk_at "rd"
      cases e2 : ltsF n m' ((ws.drop (i + c)).drop ra.2) with
      | none =>
        have : o2 (ltsF n m' ((ws.drop (i + c)).drop ra.2)) (fun l => some (some (ra.1 :: l.1, ra.2 + l.2))) = some r' := hf'
        rw [e2] at this
        cases this
      | some rl =>
        have e3 : o2 (ltsF n m' ((ws.drop (i + c)).drop ra.2)) (fun l => some (some (ra.1 :: l.1, ra.2 + l.2))) = some r' := hf'
        rw [e2] at e3
        refine ⟨m', Nat.lt_succ_self _, c + ra.2, ys ++ [u], ds ++ [ra.1], rl, some (.ref p), by rw [← Nat.add_assoc]; rfl, (k2.trans ((k25.trans k6).mono (by simp))).trans k7, h7, (((rys.ts (keep_ts0 k25)).ts (keep_ts0 k6)).ts t67).append (.cons (hR.ts t67) .nil), by rw [List.length_append, List.length_singleton]; omega, by omega, by rw [← Nat.add_assoc, ← List.drop_drop]; exact e2, ?_⟩
        rw [er]
        cases rl with
        | none => rw [← Option.some.inj e3]; rfl
        | some rl =>
          rw [← Option.some.inj e3]
          show some (ds ++ (ra.1 :: rl.1), c + (ra.2 + rl.2)) = some (ds ++ [ra.1] ++ rl.1, c + ra.2 + rl.2)
          rw [List.append_assoc, Nat.add_assoc]
          rfl
end
end
section
section
variable {P : Program} {w : World} {K : PySem.W.Frag} {mg : Str → Option Value} {base : Heap}
theorem inV_quad {x a b c d : Str} : inV (V.str x) [V.str a, V.str b, V.str c, V.str d] = decide (x ∈ [a, b, c, d]) := inV_strs' (l := [a, b, c, d])
theorem ifs_drop {ws : List Str} {k : Nat} : ifs (ws.drop k) ≤ ifs ws := (List.drop_sublist k ws).countP_le
theorem st_one : ∀ {s : St}, 1 ≤ s.words.length := fun {s} => by
  cases s <;> (rw [St.words]; simp)
theorem st_took {n m f : Nat} {ws : List Str} {r : PyData × Nat} (hw : hdW ws ∈ fourW) (h : lstF n m (lbdF n m f) ws = some (some r)) : 1 ≤ r.2 ∧ r.2 ≤ ws.length := by
  obtain ⟨t, _, _, h3, h4⟩ := st_sound (bd_sound (n := n) (m := m) (f := f)) (d := r.1) (k := r.2) hw h
  rw [h3]
  refine ⟨st_one, ?_⟩
  have := congrArg List.length h4
  rw [List.length_append] at this
  omega
noncomputable def spLawStepAt (K : PySem.W.Frag) (n d : Nat) : Sp := fun vs H Q _ => ∃ (a : Addr) (ws : List Str) (i m f : Nat) (r : Option (PyData × Nat)), vs = [.ref a, .int (i : Int)] ∧ WdsL H a ws ∧ hdW (ws.drop i) ∈ fourW ∧ lstF n m (lbdF n m f) (ws.drop i) = some r ∧ ifs (ws.drop i) ≤ d ∧ ∀ v H', Told K H' i r v → Keep [] H H' → Q v H'
noncomputable def spLawBodyAt (K : PySem.W.Frag) (n d : Nat) : Sp := fun vs H Q _ => ∃ (a : Addr) (ws : List Str) (i m f : Nat) (r : Option (List PyData × Nat)), vs = [.ref a, .int (i : Int)] ∧ WdsL H a ws ∧ lbdF n m f (ws.drop i) = some r ∧ ifs (ws.drop i) < d ∧ ∀ v H', Told K H' i (tupR r) v → Keep [] H H' → Q v H'
noncomputable abbrev sL_body_at : Stmt := top 64
noncomputable abbrev nL_body_at : List Str := ["_law_words_here", "_law_at", "_law_found", "_law_told_here"]
noncomputable abbrev pL_body_at : List Str := ["_law_words_here", "_law_at"]
theorem scL_body_at : FnScope nL_body_at pL_body_at (defScope sL_body_at) := ⟨rfl, rfl, rfl, by decide +kernel, rfl, by decide +kernel, by decide +kernel⟩
theorem okLawBodyAt (D : DefAt K mg "_law_body_at" sL_body_at pL_body_at) (T : Blt mg) {n d L : Nat} (C_law_step_at : CalleeA P w K mg base "_law_step_at" L pL_step_at (spLawStepAt K n d)) : CalleeA P w K mg base "_law_body_at" (L + 1) pL_body_at (spLawBodyAt K n (d + 1)) := by
  refine D.okA scL_body_at (fun vs H Q E h => ?_) (fun f cdv A outer s H vs Q E hd h => ?_)
  · obtain ⟨a, ws, i, m, f, r, rfl, _⟩ := h
    rfl
  have hr := hd.room
  obtain ⟨a, ws, i, m, fu, r, rfl, hw, hf, hif, q⟩ := h
  refine ⟨_, (pss_cons (ps_set (i := 2) scL_body_at.nd rfl (Or.inl rfl) (pe_lst pa_nil))
  (pss_cons (ps_while PassesOwn.never (pt_cmpR (opIn (K := K)) (pe_ix (ixL (K := K)) (pe_op op_cat (pe_slice (slL (K := K)) (pv 0) (po_some (pv 1)) (po_some (pe_op op_add (pv 1) pe_int))) (pe_lst (pa_cons pe_str pa_nil))) pe_int (fun _ _ => rfl)) (pe_tup (pa_cons pe_str (pa_cons pe_str (pa_cons pe_str (pa_cons pe_str pa_nil))))) (by with_unfolding_all rfl))
   (pss_cons (ps_set (i := 3) scL_body_at.nd rfl (Or.inl rfl) (pcallA C_law_step_at (hd.mono (by omega)) rfl (pa_cons (pv 0) (pa_cons (pv 1) pa_nil))))
  (pss_cons (ps_if (pt_cmpR op_isN1 (pv 3) pe_non (nomark _)) (pss_one (ps_ret pe_non)) pss_nil)
  (pss_cons (ps_expr (peApp (K := K) (pv 2) (pe_ix (ixT (K := K)) (pv 3) pe_int (fun _ _ => rfl))))
  (pss_one (ps_set (i := 1) scL_body_at.nd rfl (Or.inl rfl) (pe_ix (ixT (K := K)) (pv 3) pe_int (fun _ _ => rfl))))))))
  (pss_one (ps_ret (pe_tup (pa_cons (pe_callTy (cTuple (K := K)) (by rfl) T.tuple (by decide +kernel) (pa_cons (pv 2) pa_nil)) (pa_cons (pv 1) pa_nil))))))), ?_⟩
  walk_at "rd"
  intro b H1 nb hb k1
  have ab : a ≠ b := fun z => by rw [← z, hw.at_] at nb; cases nb
  have ab' : a ∉ [b] := by rw [List.mem_singleton]; exact ab
  walk_at "rd"
  refine whileM (fun f' σ H' => ∃ (c : Nat) (ys : List V) (ds : List PyData) (r' : Option (List PyData × Nat)) (y : Option V), σ = [some (.ref a), some (.int ((i + c : Nat) : Int)), some (.ref b), y] ∧ Keep [b] H1 H' ∧ H' b = some (.lst ys) ∧ Rps K H' ys ds ∧ ys.length ≤ c ∧ c ≤ ws.length ∧ lbdF n m f' (ws.drop (i + c)) = some r' ∧ r = r'.map fun l => (ds ++ l.1, c + l.2)) fu ⟨0, [], [], r, none, rfl, Keep.refl, hb, .nil, Nat.le_refl _, Nat.zero_le _, hf, by cases r with | none => rfl | some r => show some r = some ([] ++ r.1, 0 + r.2); rw [Nat.zero_add]; rfl⟩ (fun f' σ H2 hp => ?_)
  obtain ⟨c, ys, ds, r', y, rfl, k2, hb2, rys, ly, lc, hf', er⟩ := hp
  have hw2 : WdsL H2 a ws := ⟨k2 _ _ (k1 _ _ hw.at_ (by simp)) ab', hw.few, hw.short, hw.ok⟩
  have hwa2 := hw2.at_
  walk_at "rd"
  intro p1 H3 n3 h3 k3
  rw [cutV_one] at h3
  walk_at "rd"
  intro p2 H4 n4 h4 k4
  have h3' := k4 _ _ h3 (by simp)
  walk_at "rd"
  refine r_cat h3' h4 (small (by rw [List.length_take]; simp; omega)) ?_
  walk_at "rd"
  intro p3 H5 n5 h5 k5
  have at5 := at_front1 (ws := ws) (i := i + c)
  have few := hw.few
  generalize ez : hdW (ws.drop (i + c)) = z at at5
  walk_at "rd"
  intro p4 H6 n6 h6 k6
  have k26 := ((k3.trans k4).trans k5).trans k6
  have hb6 := k26 _ _ hb2 (by simp)
  have hw6 := hw2.keep k26
  walk_at "rd"
  rw [if_neg Bool.false_ne_true, inV_quad]
  have m0 : ∃ m', f' = m' + 1 := by
    cases f' with
    | zero => cases hf'
    | succ m => exact ⟨m, rfl⟩
  obtain ⟨m', rfl⟩ := m0
  unfold lbdF at hf'
  rw [ez] at hf'
  have k02 : Keep [] H H6 := k1.fresh1 (k2.trans (k26.mono (by simp))) nb
  by_cases e : z ∈ fourW
  case neg =>
    rw [if_neg e] at hf'
    rw [decide_eq_false (show ¬ z ∈ [("set" : Str), "say", "if", "call"] from e)]
    walk_at "rd"
    intro p6 H7 n7 h7 k7
    have rys7 := (rys.ts (keep_ts0 k26)).ts (keep_ts0 k7)
    walk_at "rd"
    intro p7 H8 n8 h8 k8
    have h7' := k8 _ _ h7 (by simp)
    refine q _ H8 ?_ ((k02.trans k7).trans k8)
    rw [er, ← Option.some.inj hf']
    exact ⟨p7, _, rfl, SqT.of h8, .tup (SqT.of h7') (by show Rps K H8 ys (ds ++ []); rw [List.append_nil]; exact rys7.ts (keep_ts0 k8))⟩
  rw [if_pos e] at hf'
  rw [decide_eq_true (show z ∈ [("set" : Str), "say", "if", "call"] from e)]
  walk_at "rd"
  have e' : hdW (ws.drop (i + c)) ∈ fourW := by rw [ez]; exact e
  cases e1 : lstF n m (lbdF n m m') (ws.drop (i + c)) with
  | none => rw [e1] at hf'; cases hf'
  | some ra =>
    rw [e1] at hf'
    have hif' : ifs (ws.drop (i + c)) ≤ d := by
      rw [← List.drop_drop]
      exact Nat.le_trans ifs_drop (by omega)
    refine ask ⟨a, ws, i + c, m, m', ra, rfl, hw6, e', e1, hif', fun v1 H7 t1 k7 => ?_⟩
    have hb7 := k7 _ _ hb6 (by simp)
    cases ra with
    | none =>
      cases (show v1 = .non from t1)
      walk_at "rd"
      refine q _ H7 ?_ (k02.trans k7)
      rw [er, ← Option.some.inj hf']
      exact rfl
    | some ra =>
      obtain ⟨p, u, rfl, hT, hR⟩ := t1
      obtain ⟨took, room⟩ := st_took e' e1
      rw [List.length_drop] at room
      have a0 : atI [u, .int ((i + c + ra.2 : Nat) : Int)] 0 = some u := at0
      have a1 : atI [u, .int ((i + c + ra.2 : Nat) : Int)] 1 = some (.int ((i + c + ra.2 : Nat) : Int)) := atI_nat (j := 1) rfl
      have lt : ys.length ≤ 100000 := by omega
      walk_at "rd"
      intro H8 h8 k8
      have t78 : Tst H7 H8 := k8.ts fun x hx => by cases List.mem_singleton.mp hx; exact .inl ⟨_, hb7⟩
      have hT8 := t78.sqT hT
      walk_at "rd"
      have e3 : o2 (lbdF n m m' ((ws.drop (i + c)).drop ra.2)) (fun l => some (some (ra.1 :: l.1, ra.2 + l.2))) = some r' := hf'
      cases e2 : lbdF n m m' ((ws.drop (i + c)).drop ra.2) with
      | none =>
        rw [e2] at e3
        cases e3
      | some rl =>
        rw [e2] at e3
        refine ⟨m', Nat.lt_succ_self _, c + ra.2, ys ++ [u], ds ++ [ra.1], rl, some (.ref p), by rw [← Nat.add_assoc]; rfl, (k2.trans ((k26.trans k7).mono (by simp))).trans k8, h8, (((rys.ts (keep_ts0 k26)).ts (keep_ts0 k7)).ts t78).append (.cons (hR.ts t78) .nil), by rw [List.length_append, List.length_singleton]; omega, by omega, by rw [← Nat.add_assoc, ← List.drop_drop]; exact e2, ?_⟩
        rw [er]
        cases rl with
        | none => rw [← Option.some.inj e3]; rfl
        | some rl =>
          rw [← Option.some.inj e3]
          show some (ds ++ (ra.1 :: rl.1), c + (ra.2 + rl.2)) = some (ds ++ [ra.1] ++ rl.1, c + ra.2 + rl.2)
          rw [List.append_assoc, Nat.add_assoc]
          rfl
end
end
section
section
variable {P : Program} {w : World} {K : PySem.W.Frag} {mg : Str → Option Value} {base : Heap}
noncomputable def threeD : List (Key × V) := [(.inr ("set" : Str), .int 2), (.inr ("say" : Str), .int 1), (.inr ("if" : Str), .int 1)]
noncomputable def thsOf (z : Str) : Nat := if z = "set" then 2 else 1
theorem three_val {z : Str} (h : z = "set" ∨ z = "say" ∨ z = "if") : valV threeD (.inr z) = some (.int ((thsOf z : Nat) : Int)) := by
  rcases h with rfl | rfl | rfl
  · rfl
  · unfold valV threeD
    rw [List.find?_cons_of_neg (by show ¬ decide ((.inr ("set" : Str) : Key) = .inr ("say" : Str)) = true; decide +kernel), List.find?_cons_of_pos (by show decide ((.inr ("say" : Str) : Key) = .inr ("say" : Str)) = true; decide +kernel)]
    unfold thsOf
    rw [if_neg (by decide +kernel)]
    rfl
  · unfold valV threeD
    rw [List.find?_cons_of_neg (by show ¬ decide ((.inr ("set" : Str) : Key) = .inr ("if" : Str)) = true; decide +kernel), List.find?_cons_of_neg (by show ¬ decide ((.inr ("say" : Str) : Key) = .inr ("if" : Str)) = true; decide +kernel), List.find?_cons_of_pos (by show decide ((.inr ("if" : Str) : Key) = .inr ("if" : Str)) = true; decide +kernel)]
    unfold thsOf
    rw [if_neg (by decide +kernel)]
    rfl
theorem cut_cases {ws : List Str} {i : Nat} : (((ws.map V.str).drop i).take 1 = [] ∧ hdW (ws.drop i) = "") ∨ ∃ x ∈ ws, ((ws.map V.str).drop i).take 1 = [V.str x] ∧ hdW (ws.drop i) = x := by
  rw [← List.map_drop, ← List.map_take]
  cases e : ws.drop i with
  | nil => exact .inl ⟨rfl, rfl⟩
  | cons x l => exact .inr ⟨x, List.drop_subset i ws (by rw [e]; exact List.mem_cons_self), rfl, rfl⟩
theorem eqv_one {x y : Str} : PyData.eqv (.list [.str x]) (.list [.str y]) = decide (x = y) := by
  show ((x == y) && true) = decide (x = y)
  rw [Bool.and_true]
  by_cases h : x = y
  · rw [decide_eq_true h, h]
    exact beq_self_eq_true y
  · rw [decide_eq_false h]
    exact beq_false_of_ne h
theorem ifs_cons {r : List Str} : ifs (("if" : Str) :: r) = ifs r + 1 := by
  unfold ifs
  rw [List.countP_cons_of_pos (by decide +kernel)]
theorem shaped_one {y : Str} (h : PyData.strOk y = true) : SeqAt.shaped (.list [.str y]) = true :=
  neat_shaped (n := 1) (by unfold neat; intro d hd; rw [List.mem_singleton.mp hd]; exact neat_str h) (by omega)
theorem cut_eqv {H : Hp} {a : Addr} {ws : List Str} {i : Nat} {p q : Addr} {y : Str} (hw : WdsL H a ws) (hy : y ≠ "") (ho : PyData.strOk y = true) (h1 : H p = some (.lst (((ws.map V.str).drop i).take 1))) (h2 : H q = some (.lst [.str y])) :
    ∃ d e, Dp K H (.ref p) d ∧ Dp K H (.ref q) e ∧ SeqAt.shaped d = true ∧ SeqAt.shaped e = true ∧ PyData.eqv d e = decide (hdW (ws.drop i) = y) := by
  rcases cut_cases (ws := ws) (i := i) with ⟨c, e⟩ | ⟨x, hx, c, e⟩
  · rw [c] at h1
    rw [e, decide_eq_false (fun z => hy z.symm)]
    exact ⟨.list [], .list [.str y], .lst (SqL.of h1) .nil, .lst (SqL.of h2) (.cons (.str _) .nil), rfl, shaped_one ho, rfl⟩
  · rw [c] at h1
    rw [e]
    exact ⟨.list [.str x], .list [.str y], .lst (SqL.of h1) (.cons (.str _) .nil), .lst (SqL.of h2) (.cons (.str _) .nil), shaped_one (hw.ok x hx), shaped_one ho, eqv_one⟩
theorem r_cutEq {H : Hp} {a : Addr} {ws : List Str} {i : Nat} {p q : Addr} {y : Str} {Q : VK} (hw : WdsL H a ws) (hy : y ≠ "") (ho : PyData.strOk y = true) (h1 : H p = some (.lst (((ws.map V.str).drop i).take 1))) (h2 : H q = some (.lst [.str y])) (k : Q (.bl (decide (hdW (ws.drop i) = y))) H) : rEqD K (.ref p) (.ref q) H Q := by
  obtain ⟨d, e, a, b, c, f, g⟩ := cut_eqv (K := K) hw hy ho h1 h2
  exact ⟨d, e, a, b, c, f, by rw [g]; exact k⟩
theorem r_cutNe {H : Hp} {a : Addr} {ws : List Str} {i : Nat} {p q : Addr} {y : Str} {Q : VK} (hw : WdsL H a ws) (hy : y ≠ "") (ho : PyData.strOk y = true) (h1 : H p = some (.lst (((ws.map V.str).drop i).take 1))) (h2 : H q = some (.lst [.str y])) (k : Q (.bl (!decide (hdW (ws.drop i) = y))) H) : rNeD K (.ref p) (.ref q) H Q := by
  obtain ⟨d, e, a, b, c, f, g⟩ := cut_eqv (K := K) hw hy ho h1 h2
  exact ⟨d, e, a, b, c, f, by rw [g]; exact k⟩
noncomputable abbrev sL_step_at : Stmt := top 63
noncomputable abbrev nL_step_at : List Str := ["_law_words_here", "_law_at", "_law_number", "_law_told_here", "_law_found", "_law_k"]
noncomputable abbrev pL_step_at : List Str := ["_law_words_here", "_law_at"]
theorem scL_step_at : FnScope nL_step_at pL_step_at (defScope sL_step_at) := ⟨rfl, rfl, rfl, by decide +kernel, rfl, by decide +kernel, by decide +kernel⟩
theorem okLawStepAt (D : DefAt K mg "_law_step_at" sL_step_at pL_step_at) (T : Blt mg) {n d : Nat} (C_law_is_figures : Callee P w K mg base "_law_is_figures" 1 pL_is_figures spLawFigures) (C_law_thing_at : CalleeA P w K mg base "_law_thing_at" (n + 1) pL_thing_at (spLawThingAt K n)) (C_law_things_at : CalleeA P w K mg base "_law_things_at" (n + 2) pL_things_at (spLawThingsAt K n)) (C_law_body_at : CalleeA P w K mg base "_law_body_at" (n + 3 + 2 * d) pL_body_at (spLawBodyAt K n d)) : CalleeA P w K mg base "_law_step_at" (n + 3 + 2 * d + 1) pL_step_at (spLawStepAt K n d) := by
  refine D.okA scL_step_at (fun vs H Q E h => ?_) (fun f cdv A outer s H vs Q E hd h => ?_)
  · obtain ⟨a, ws, i, m, f, r, rfl, _⟩ := h
    rfl
  have hr := hd.room
  obtain ⟨a, ws, i, m, fu, r, rfl, hw, h4, hf, hif, q⟩ := h
  refine ⟨_, (pss_cons (ps_if (pt_cmpR op_eq (pe_ix (ixL (K := K)) (pv 0) (pv 1) (fun _ _ => rfl)) pe_str (nomark _)) (pss_cons (ps_set (i := 2) scL_step_at.nd rfl (Or.inl rfl) (pe_ix (ixL (K := K)) (pe_op op_cat (pe_slice (slL (K := K)) (pv 0) (po_some (pe_op op_add (pv 1) pe_int)) (po_some (pe_op op_add (pv 1) pe_int))) (pe_lst (pa_cons pe_str pa_nil))) pe_int (fun _ _ => rfl)))
  (pss_cons (ps_set (i := 3) scL_step_at.nd rfl (Or.inl rfl) (pe_ifExp (pt_val (pcall C_law_is_figures (hr.mono (by first | exact Nat.le_of_ble_eq_true rfl | omega)) rfl (pa_cons (pv 2) pa_nil))) (pcallA C_law_things_at (hd.mono (by omega)) rfl (pa_cons (pv 0) (pa_cons (pe_op op_add (pv 1) pe_int) pa_nil))) pe_non))
  (pss_one (ps_ret (pe_ifExp (pt_cmpR op_isN1 (pv 3) pe_non (nomark _)) pe_non (pe_tup (pa_cons (pe_tup (pa_cons pe_str (pa_cons (pe_callTy cIntS (by rfl) T.int (by decide +kernel) (pa_cons (pv 2) pa_nil)) (pa_cons (pe_ix (ixT (K := K)) (pv 3) pe_int (fun _ _ => rfl)) pa_nil)))) (pa_cons (pe_ix (ixT (K := K)) (pv 3) pe_int (fun _ _ => rfl)) pa_nil)))))))) pss_nil)
  (pss_cons (ps_set (i := 4) scL_step_at.nd rfl (Or.inl rfl) (pe_lst (pa_cons (pe_ix (ixL (K := K)) (pv 0) (pv 1) (fun _ _ => rfl)) pa_nil)))
  (pss_cons (ps_set (i := 1) scL_step_at.nd rfl (Or.inl rfl) (pe_op op_add (pv 1) pe_int))
  (pss_cons (ps_for PassesOwn.never rfl (pi_range1 rfl T.range (pa_cons (pe_dget (hu_of hr) (pe_disp (pps_cons pe_str pe_int (pps_cons pe_str pe_int (pps_cons pe_str pe_int pps_nil))) (by rfl) (by rfl) (fun z => by cases z) (by decide)) (pe_ix (ixL (K := K)) (pv 4) pe_int (fun _ _ => rfl)) (fun _ _ => rfl)) pa_nil)) (pg_name (i := 5) scL_step_at.nd rfl (Or.inl rfl))
   (pss_cons (ps_set (i := 3) scL_step_at.nd rfl (Or.inl rfl) (pcallA C_law_thing_at (hd.mono (by omega)) rfl (pa_cons (pv 0) (pa_cons (pv 1) pa_nil))))
  (pss_cons (ps_if (pt_cmpR op_isN1 (pv 3) pe_non (nomark _)) (pss_one (ps_ret pe_non)) pss_nil)
  (pss_cons (ps_expr (peApp (K := K) (pv 4) (pe_ix (ixT (K := K)) (pv 3) pe_int (fun _ _ => rfl))))
  (pss_one (ps_set (i := 1) scL_step_at.nd rfl (Or.inl rfl) (pe_ix (ixT (K := K)) (pv 3) pe_int (fun _ _ => rfl))))))))
  (pss_cons (ps_for PassesOwn.never rfl (pi_range1 rfl T.range (pa_cons (pe_op op_mul pe_int (pe_callTy c_int (by rfl) T.int (by decide +kernel) (pa_cons (pe_cmpR op_eq (pe_ix (ixL (K := K)) (pv 4) pe_int (fun _ _ => rfl)) pe_str (nomark _)) pa_nil))) pa_nil)) (pg_name (i := 5) scL_step_at.nd rfl (Or.inl rfl))
   (pss_cons (ps_set (i := 3) scL_step_at.nd rfl (Or.inl rfl) (pe_ifExp (pt_cmpR (opEqD (K := K) hr.units) (pe_slice (slL (K := K)) (pv 0) (po_some (pv 1)) (po_some (pe_op op_add (pv 1) pe_int))) (pe_lst (pa_cons pe_str pa_nil)) (nomark _)) (pcallA C_law_body_at (hd.mono (by omega)) rfl (pa_cons (pv 0) (pa_cons (pe_op op_add (pv 1) pe_int) pa_nil))) pe_non))
  (pss_cons (ps_if (PW.pt (pw_or (pt_cmpR op_isN1 (pv 3) pe_non (nomark _)) (pw_or1 (pt_cmpR (opNeD (K := K) hr.units) (pe_slice (slL (K := K)) (pv 0) (po_some (pe_ix (ixT (K := K)) (pv 3) pe_int (fun _ _ => rfl))) (po_some (pe_op op_add (pe_ix (ixT (K := K)) (pv 3) pe_int (fun _ _ => rfl)) pe_int))) (pe_lst (pa_cons pe_str pa_nil)) (nomark _))))) (pss_one (ps_ret pe_non)) pss_nil)
  (pss_cons (ps_expr (peApp (K := K) (pv 4) (pe_ix (ixT (K := K)) (pv 3) pe_int (fun _ _ => rfl))))
  (pss_one (ps_set (i := 1) scL_step_at.nd rfl (Or.inl rfl) (pe_op op_add (pe_ix (ixT (K := K)) (pv 3) pe_int (fun _ _ => rfl)) pe_int)))))))
  (pss_one (ps_ret (pe_tup (pa_cons (pe_callTy (cTuple (K := K)) (by rfl) T.tuple (by decide +kernel) (pa_cons (pv 4) pa_nil)) (pa_cons (pv 1) pa_nil)))))))))), ?_⟩
  have hwa := hw.at_
  generalize ez : hdW (ws.drop i) = z at h4
  have zne : z ≠ "" := fun y => by rw [y] at h4; revert h4; decide +kernel
  have atz : atI (ws.map V.str) (i : Int) = some (.str z) := by
    refine atI_nat ?_
    rw [List.getElem?_map]
    cases e : ws.drop i with
    | nil => rw [e] at ez; exact absurd ez.symm zne
    | cons x l =>
      rw [e] at ez
      have e2 : ws[i]? = some x := by rw [← List.head?_drop, e]; rfl
      rw [e2]
      exact congrArg (fun y => some (V.str y)) ez
  have few := hw.few
  have hf0 := hf
  unfold lstF at hf
  rw [ez] at hf
  have hd1 : hdW ((ws.drop i).drop 1) = hdW (ws.drop (i + 1)) := by rw [List.drop_drop]
  walk_at "rd"
  refine ite2 (fun cc => ?_) (fun cc => ?_)
  · have ec : z = "call" := V.str.inj (of_decide_eq_true cc)
    rw [if_pos ec, hd1, List.drop_drop] at hf
    walk_at "rd"
    intro p5 H5 n5 h5 k5
    rw [cutV_two] at h5
    walk_at "rd"
    intro p6 H6 n6 h6 k6
    have h5' := k6 _ _ h5 (by simp)
    walk_at "rd"
    refine r_cat h5' h6 (small (by rw [List.length_take]; simp; omega)) ?_
    walk_at "rd"
    intro p7 H7 n7 h7 k7
    have at7 := at_front1 (ws := ws) (i := i + 1)
    have k07 := (k5.trans k6).trans k7
    have hw7 := hw.keep k07
    have hz2 := hw.hd (i + 1)
    generalize ey : hdW (ws.drop (i + 1)) = y at hf at7 hz2
    walk_at "rd"
    refine ask ⟨y, rfl, hz2, fun H8 k8 => ?_⟩
    have k08 := k07.trans k8
    have hw8 := hw.keep k08
    cases ef : figOf y with
    | none =>
      rw [ef] at hf
      walk_at "rd"
      exact q _ _ (by rw [← Option.some.inj hf]; rfl) k08
    | some k =>
      rw [ef] at hf
      have hf' : o2 (ltsF n m (ws.drop (i + 2))) (fun l => some (some (PyData.tuple [.str "call", .int (k : Int), .tuple l.1], 2 + l.2))) = some r := hf
      walk_at "rd"
      refine ite_t rfl ?_
      walk_at "rd"
      cases e1 : ltsF n m (ws.drop (i + 2)) with
      | none => rw [e1] at hf'; cases hf'
      | some ra =>
        rw [e1] at hf'
        refine ask ⟨a, ws, i + 2, m, ra, rfl, hw8, e1, fun v1 H9 t1 k9 => ?_⟩
        have k09 := k08.trans k9
        cases ra with
        | none =>
          cases (show v1 = .non from t1)
          walk_at "rd"
          exact q _ _ (by rw [← Option.some.inj hf']; rfl) k09
        | some ra =>
          obtain ⟨p, u, rfl, hT, hR⟩ := t1
          have a0 : atI [u, .int ((i + 2 + ra.2 : Nat) : Int)] 0 = some u := at0
          have a1 : atI [u, .int ((i + 2 + ra.2 : Nat) : Int)] 1 = some (.int ((i + 2 + ra.2 : Nat) : Int)) := atI_nat (j := 1) rfl
          have hT' : SqT K H9 p [u, .int ((i + 2 + ra.2 : Nat) : Int)] := hT
          walk_at "rd"
          refine r_intS (fig_int ef) (fig_short ef) ?_
          walk_at "rd"
          intro p10 H10 n10 h10 k10
          have hT10 := (keep_ts0 k10).sqT hT'
          walk_at "rd"
          intro p11 H11 n11 h11 k11
          have h10' := k11 _ _ h10 (by simp)
          have k1011 := k10.trans k11
          refine q _ H11 ?_ (k09.trans k1011)
          rw [← Option.some.inj hf']
          exact ⟨p11, _, rfl, SqT.of (by rw [show i + (2 + ra.2) = i + 2 + ra.2 by omega]; exact h11), .tup (SqT.of h10') (.cons (.str _) (.cons (.int _) (.cons (hR.ts (keep_ts0 k1011)) .nil)))⟩
  have ec : ¬ z = "call" := fun y => cc (decide_eq_true (congrArg V.str y))
  rw [if_neg ec] at hf
  walk_at "rd"
  intro b H1 nb hb k1
  have ab : a ≠ b := fun y => by rw [← y, hw.at_] at nb; cases nb
  have hw1 := hw.keep k1
  have b0 : atI [V.str z] 0 = some (.str z) := at0
  walk_at "rd"
  intro dp H3 n3 h3 k3
  walk_at "rd"
  have hb3 := k3 _ _ hb (by simp)
  refine disp threeD h3 rfl (by show 3 ≤ 15; omega) (by show ([.inr ("set" : Str), .inr ("say" : Str), .inr ("if" : Str)] : List Key).Nodup; decide +kernel) fun H4 h4' k4 => ?_
  have k14 : Keep [] H1 H4 := k3.fresh1 k4 n3
  have hb4 := k14 _ _ hb (by simp)
  have hw4 := hw1.keep k14
  have z3 : z = "set" ∨ z = "say" ∨ z = "if" := by
    have := h4
    simp only [fourW, List.mem_cons, List.not_mem_nil, or_false] at this
    rcases this with e | e | e | e
    · exact .inl e
    · exact .inr (.inl e)
    · exact .inr (.inr e)
    · exact absurd e ec
  walk_at "rd"
  refine r_dgetS h4' (three_val z3) ?_
  walk_at "rd"
  obtain ⟨kk, bb, hk, hseq⟩ : ∃ kk bb : Nat, thsOf z = kk ∧ (z = "set" ∧ kk = 2 ∧ bb = 0 ∨ z = "say" ∧ kk = 1 ∧ bb = 0 ∨ z = "if" ∧ kk = 1 ∧ bb = 2) := by
    rcases z3 with rfl | rfl | rfl
    · exact ⟨2, 0, rfl, .inl ⟨rfl, rfl, rfl⟩⟩
    · exact ⟨1, 0, by unfold thsOf; rw [if_neg (by decide +kernel)], .inr (.inl ⟨rfl, rfl, rfl⟩)⟩
    · exact ⟨1, 2, by unfold thsOf; rw [if_neg (by decide +kernel)], .inr (.inr ⟨rfl, rfl, rfl⟩)⟩
  rw [lst_seq ez hseq] at hf0
  have kk2 : kk ≤ 2 := by rcases hseq with h | h | h <;> omega
  rw [hk]
  rw [List.drop_drop] at hf0
  have e0 : ∀ (c : Nat), (ws.drop i).drop (1 + c) = ws.drop (i + 1 + c) := fun c => by rw [List.drop_drop, Nat.add_assoc]
  cases e1 : thsF n kk (ws.drop (i + 1)) with
  | none => rw [e1] at hf0; cases hf0
  | some R =>
    rw [e1] at hf0
    walk_at "rd"
    rw [Int.toNat_natCast]
    refine forR (n := kk) (fun j σ H' => ∃ (c : Nat) (ys : List V) (ds : List PyData) (R' : Option (List PyData × Nat)) (x2 x3 x5 : Option V), σ = [some (.ref a), some (.int ((i + 1 + c : Nat) : Int)), x2, x3, some (.ref b), x5] ∧ Keep [b] H1 H' ∧ H' b = some (.lst (.str z :: ys)) ∧ Rps K H' ys ds ∧ ys.length = j ∧ thsF n (kk - j) (ws.drop (i + 1 + c)) = some R' ∧ R = R'.map fun l => (ds ++ l.1, c + l.2)) ⟨0, [], [], R, none, none, none, rfl, k14.mono (by simp), hb4, .nil, rfl, e1, by cases R with | none => rfl | some r => show some r = some ([] ++ r.1, 0 + r.2); rw [Nat.zero_add]; rfl⟩ (fun j σ H5 hj hp => ?_) (fun σ H5 hp => ?_)
    · obtain ⟨c, ys, ds, R', x2, x3, x5, rfl, k5, hb5, rys, ly, hf', er⟩ := hp
      have hw5 : WdsL H5 a ws := ⟨k5 _ _ hw1.at_ (by rw [List.mem_singleton]; exact ab), hw.few, hw.short, hw.ok⟩
      rw [show kk - j = (kk - (j + 1)) + 1 by omega] at hf'
      unfold thsF at hf'
      walk_at "rd"
      cases e2 : lthF n (ws.drop (i + 1 + c)) with
      | none => rw [e2] at hf'; cases hf'
      | some ra =>
        rw [e2] at hf'
        refine ask ⟨a, ws, i + 1 + c, ra, rfl, hw5, e2, fun v1 H6 t1 k6 => ?_⟩
        have hb6 := k6 _ _ hb5 (by simp)
        have k06 : Keep [] H H6 := k1.fresh1 (k5.trans (k6.mono (by simp))) nb
        cases ra with
        | none =>
          cases (show v1 = .non from t1)
          walk_at "rd"
          refine q _ H6 ?_ k06
          rw [er, ← Option.some.inj hf'] at hf0
          rw [← Option.some.inj hf0]
          exact rfl
        | some ra =>
          obtain ⟨p, u, rfl, hT, hR⟩ := t1
          have a0 : atI [u, .int ((i + 1 + c + ra.2 : Nat) : Int)] 0 = some u := at0
          have a1 : atI [u, .int ((i + 1 + c + ra.2 : Nat) : Int)] 1 = some (.int ((i + 1 + c + ra.2 : Nat) : Int)) := atI_nat (j := 1) rfl
          have lt : (V.str z :: ys).length ≤ 100000 := by rw [List.length_cons]; omega
          walk_at "rd"
          intro H7 h7 k7
          have t67 : Tst H6 H7 := k7.ts fun x hx => by cases List.mem_singleton.mp hx; exact .inl ⟨_, hb6⟩
          have hT7 := t67.sqT hT
          walk_at "rd"
          have e3 : o2 (thsF n (kk - (j + 1)) ((ws.drop (i + 1 + c)).drop ra.2)) (fun l => some (some (ra.1 :: l.1, ra.2 + l.2))) = some R' := hf'
          rw [List.drop_drop] at e3
          cases e4 : thsF n (kk - (j + 1)) (ws.drop (i + 1 + c + ra.2)) with
          | none =>
            rw [e4] at e3
            cases e3
          | some rl =>
            rw [e4] at e3
            refine ⟨c + ra.2, ys ++ [u], ds ++ [ra.1], rl, x2, some (.ref p), some (.int (j : Int)), by rw [← Nat.add_assoc]; rfl, (k5.trans (k6.mono (by simp))).trans k7, h7, ((rys.ts (keep_ts0 k6)).ts t67).append (.cons (hR.ts t67) .nil), by rw [List.length_append, List.length_singleton, ly], by rw [← Nat.add_assoc]; exact e4, ?_⟩
            rw [er]
            cases rl with
            | none => rw [← Option.some.inj e3]; rfl
            | some rl =>
              rw [← Option.some.inj e3]
              show some (ds ++ (ra.1 :: rl.1), c + (ra.2 + rl.2)) = some (ds ++ [ra.1] ++ rl.1, c + ra.2 + rl.2)
              rw [List.append_assoc, Nat.add_assoc]
              rfl
    · obtain ⟨c, ys, ds, R', x2, x3, x5, rfl, k5, hb5, rys, ly, hf', er⟩ := hp
      rw [Nat.sub_self] at hf'
      unfold thsF at hf'
      cases hf'
      rw [er] at hf0
      have atz0 : atI (V.str z :: ys) 0 = some (.str z) := at0
      obtain ⟨bt, hbt, hbz⟩ : ∃ bt : Nat, bb = 2 * bt ∧ (if decide (V.str z = V.str "if") = true then (1 : Int) else 0) = (bt : Int) := by
        rcases hseq with ⟨rfl, _, rfl⟩ | ⟨rfl, _, rfl⟩ | ⟨rfl, _, rfl⟩
        · exact ⟨0, rfl, if_neg (by decide +kernel)⟩
        · exact ⟨0, rfl, if_neg (by decide +kernel)⟩
        · exact ⟨1, rfl, if_pos (by decide +kernel)⟩
      have bt1 : bt ≤ 1 := by rcases hseq with h | h | h <;> omega
      have hf1 : (o2 (lbsF (lbdF n m fu) bb (ws.drop (i + 1 + c))) fun q => some (some (PyData.tuple (.str z :: (ds ++ q.1)), 1 + c + q.2))) = some r := by
        have h := hf0
        rw [show Option.map (fun l : List PyData × Nat => (ds ++ l.1, c + l.2)) (some ([], 0)) = some (ds, c) by simp, o2_some] at h
        rw [← e0 c]
        exact h
      walk_at "rd"
      rw [hbz]
      refine r_I (.inl ⟨by decide, by decide⟩) ?_
      walk_at "rd"
      rw [show ((2 : Int) * (bt : Int)).toNat = bb by omega]
      have k01 : Keep [] H H5 := k1.fresh1 k5 nb
      have hw5 := hw.keep k01
      cases e5 : lbsF (lbdF n m fu) bb (ws.drop (i + 1 + c)) with
      | none => rw [e5] at hf1; cases hf1
      | some R2 =>
        rw [e5] at hf1
        have lys : ys.length ≤ 2 := by omega
        refine forR (n := bb) (fun j σ H' => ∃ (c2 : Nat) (zs : List V) (es : List PyData) (R' : Option (List PyData × Nat)) (x2 x3 x5 : Option V), σ = [some (.ref a), some (.int ((i + 1 + c + c2 : Nat) : Int)), x2, x3, some (.ref b), x5] ∧ Keep [b] H1 H' ∧ H' b = some (.lst (.str z :: (ys ++ zs))) ∧ Rps K H' (ys ++ zs) (ds ++ es) ∧ zs.length = j ∧ lbsF (lbdF n m fu) (bb - j) (ws.drop (i + 1 + c + c2)) = some R' ∧ R2 = R'.map fun l => (es ++ l.1, c2 + l.2)) ⟨0, [], [], R2, x2, x3, x5, rfl, k5, by rw [List.append_nil]; exact hb5, by rw [List.append_nil, List.append_nil]; exact rys, rfl, e5, by cases R2 with | none => rfl | some r => show some r = some ([] ++ r.1, 0 + r.2); rw [Nat.zero_add]; rfl⟩ (fun j σ H6 hj hp => ?_) (fun σ H6 hp => ?_)
        · obtain ⟨c2, zs, es, R', x2, x3, x5, rfl, k6, hb6, rzs, lz, hf', er⟩ := hp
          have hw6 : WdsL H6 a ws := ⟨k6 _ _ hw1.at_ (by rw [List.mem_singleton]; exact ab), hw.few, hw.short, hw.ok⟩
          have hwa6 := hw6.at_
          have zif : z = "if" ∧ bb = 2 := by
            rcases hseq with h | h | h
            · omega
            · omega
            · exact ⟨h.1, h.2.2⟩
          rw [show bb - j = (bb - (j + 1)) + 1 by omega] at hf'
          unfold lbsF at hf'
          have toNone : ∀ H', Keep [] H H' → (none : Option (List PyData × Nat)) = R' → Q .non H' := fun H' kk e => by
            refine q _ H' ?_ kk
            rw [er, ← e] at hf1
            rw [← Option.some.inj hf1]
            exact rfl
          walk_at "rd"
          intro p7 H7 n7 h7 k7
          rw [cutV_one] at h7
          walk_at "rd"
          intro p8 H8 n8 h8 k8
          have h7' := k8 _ _ h7 (by simp)
          have k68 := k7.trans k8
          have hw8 := hw6.keep k68
          have hb8 := k68 _ _ hb6 (by simp)
          walk_at "rd"
          refine r_cutEq hw8 (by decide +kernel) (by decide +kernel) h7' h8 ?_
          walk_at "rd"
          have k08 : Keep [] H H8 := k1.fresh1 (k6.trans (k68.mono (by simp))) nb
          by_cases co : hdW (ws.drop (i + 1 + c + c2)) = "("
          case neg =>
            rw [decide_eq_false co]
            have hl : lbpF (lbdF n m fu) (ws.drop (i + 1 + c + c2)) = some none := by
              unfold lbpF
              rw [if_neg co]
            rw [hl] at hf'
            walk_at "rd"
            refine r_or ?_
            walk_at "rd"
            exact toNone _ k08 (Option.some.inj hf')
          rw [decide_eq_true co]
          unfold lbpF at hf'
          rw [if_pos co, List.drop_drop, o2_o2] at hf'
          walk_at "rd"
          cases e6 : lbdF n m fu (ws.drop (i + 1 + c + c2 + 1)) with
          | none => rw [e6] at hf'; cases hf'
          | some ra =>
            rw [e6] at hf'
            have hif' : ifs (ws.drop (i + 1 + c + c2 + 1)) < d := by
              have h1 := hd_cons (ez.trans zif.1) (by decide +kernel)
              rw [h1, ifs_cons, List.drop_drop] at hif
              have h2 := ifs_drop (ws := ws.drop (i + 1)) (k := c + c2 + 1)
              rw [List.drop_drop, show i + 1 + (c + c2 + 1) = i + 1 + c + c2 + 1 by omega] at h2
              omega
            refine ask ⟨a, ws, i + 1 + c + c2 + 1, m, fu, ra, rfl, hw8, e6, hif', fun v1 H9 t1 k9 => ?_⟩
            have hb9 := k9 _ _ hb8 (by simp)
            have hw9 := hw8.keep k9
            have hwa9 := hw9.at_
            have k09 : Keep [] H H9 := k08.trans k9
            cases ra with
            | none =>
              cases (show v1 = .non from t1)
              walk_at "rd"
              refine r_or ?_
              walk_at "rd"
              exact toNone _ k09 (Option.some.inj hf')
            | some ra =>
              obtain ⟨p, u, rfl, hT, hR⟩ := t1
              have a0 : atI [u, .int ((i + 1 + c + c2 + 1 + ra.2 : Nat) : Int)] 0 = some u := at0
              have a1 : atI [u, .int ((i + 1 + c + c2 + 1 + ra.2 : Nat) : Int)] 1 = some (.int ((i + 1 + c + c2 + 1 + ra.2 : Nat) : Int)) := atI_nat (j := 1) rfl
              have hT9 : SqT K H9 p [u, .int ((i + 1 + c + c2 + 1 + ra.2 : Nat) : Int)] := hT
              walk_at "rd"
              refine r_or ?_
              walk_at "rd"
              intro p10 H10 n10 h10 k10
              rw [cutV_one] at h10
              have hT10 := (keep_ts0 k10).sqT hT9
              walk_at "rd"
              intro p11 H11 n11 h11 k11
              have h10' := k11 _ _ h10 (by simp)
              have hT11 := (keep_ts0 k11).sqT hT10
              have k911 := k10.trans k11
              have hw11 := hw9.keep k911
              have hb11 := k911 _ _ hb9 (by simp)
              walk_at "rd"
              refine r_cutNe hw11 (by decide +kernel) (by decide +kernel) h10' h11 ?_
              walk_at "rd"
              have hf2 : (o2 (if hdW (ws.drop (i + 1 + c + c2 + 1 + ra.2)) = ")" then some (some (PyData.tuple ra.1, 1 + ra.2 + 1)) else some none) fun a => o2 (lbsF (lbdF n m fu) (bb - (j + 1)) (ws.drop (i + 1 + c + c2 + a.2))) fun l => some (some (a.1 :: l.1, a.2 + l.2))) = some R' := by
                have h := hf'
                rw [o2_some] at h
                simp only [List.drop_drop] at h
                rw [show i + 1 + c + c2 + 1 + ra.2 = i + 1 + c + c2 + (1 + ra.2) by omega]
                exact h
              by_cases cl : hdW (ws.drop (i + 1 + c + c2 + 1 + ra.2)) = ")"
              case neg =>
                rw [if_neg cl] at hf2
                rw [decide_eq_false cl]
                walk_at "rd"
                exact toNone _ (k09.trans k911) (Option.some.inj hf2)
              rw [if_pos cl, o2_some] at hf2
              rw [decide_eq_true cl]
              have lt : (V.str z :: (ys ++ zs)).length ≤ 100000 := by rw [List.length_cons, List.length_append]; omega
              walk_at "rd"
              intro H12 h12 k12
              have t12 : Tst H11 H12 := k12.ts fun x hx => by cases List.mem_singleton.mp hx; exact .inl ⟨_, hb11⟩
              have hT12 := t12.sqT hT11
              walk_at "rd"
              cases e4 : lbsF (lbdF n m fu) (bb - (j + 1)) (ws.drop (i + 1 + c + c2 + (1 + ra.2 + 1))) with
              | none =>
                have h := hf2
                simp only [] at h
                rw [e4] at h
                cases h
              | some rl =>
                have h := hf2
                simp only [] at h
                rw [e4] at h
                have tt : Tst H6 H12 := ((keep_ts0 (k68.trans k9)).trans (keep_ts0 k911)).trans t12
                refine ⟨c2 + (ra.2 + 2), zs ++ [u], es ++ [.tuple ra.1], rl, x2, some (.ref p), some (.int (j : Int)), by rw [show i + 1 + c + (c2 + (ra.2 + 2)) = i + 1 + c + c2 + 1 + ra.2 + 1 by omega]; rfl, (k6.trans (((k68.trans k9).trans k911).mono (by simp))).trans k12, by rw [← List.append_assoc]; exact h12, by rw [← List.append_assoc, ← List.append_assoc]; exact (rzs.ts tt).append (.cons (hR.ts ((keep_ts0 k911).trans t12)) .nil), by rw [List.length_append, List.length_singleton, lz], by rw [show i + 1 + c + (c2 + (ra.2 + 2)) = i + 1 + c + c2 + (1 + ra.2 + 1) by omega]; exact e4, ?_⟩
                rw [er]
                cases rl with
                | none => rw [← Option.some.inj h]; rfl
                | some rl =>
                  rw [← Option.some.inj h]
                  show some (es ++ (PyData.tuple ra.1 :: rl.1), c2 + (1 + ra.2 + 1 + rl.2)) = some (es ++ [PyData.tuple ra.1] ++ rl.1, c2 + (ra.2 + 2) + rl.2)
                  rw [List.append_assoc, show c2 + (1 + ra.2 + 1 + rl.2) = c2 + (ra.2 + 2) + rl.2 by omega]
                  rfl
        · obtain ⟨c2, zs, es, R', x2, x3, x5, rfl, k6, hb6, rzs, lz, hf', er⟩ := hp
          rw [Nat.sub_self] at hf'
          unfold lbsF at hf'
          cases hf'
          rw [er] at hf1
          walk_at "rd"
          intro p7 H7 n7 h7 k7
          have rzs7 := rzs.ts (keep_ts0 k7)
          walk_at "rd"
          intro p8 H8 n8 h8 k8
          have h7' := k8 _ _ h7 (by simp)
          have k68 := k7.trans k8
          refine q _ H8 ?_ (k1.fresh1 (k6.trans (k68.mono (by simp))) nb)
          rw [show Option.map (fun l : List PyData × Nat => (es ++ l.1, c2 + l.2)) (some ([], 0)) = some (es, c2) by simp, o2_some] at hf1
          rw [← Option.some.inj hf1]
          exact ⟨p8, _, rfl, SqT.of (by rw [show i + (1 + c + c2) = i + 1 + c + c2 by omega]; exact h8), .tup (SqT.of h7') (.cons (.str _) (rzs7.ts (keep_ts0 k8)))⟩
end
end
section
section
variable {P : Program} {w : World} {K : PySem.W.Frag} {mg : Str → Option Value} {base : Heap}
theorem okLawBodyFrom (D : DefAt K mg "_law_body_at" sL_body_at pL_body_at) (D2 : DefAt K mg "_law_step_at" sL_step_at pL_step_at) (T : Blt mg) {n : Nat} (C_law_is_figures : Callee P w K mg base "_law_is_figures" 1 pL_is_figures spLawFigures) (C_law_thing_at : CalleeA P w K mg base "_law_thing_at" (n + 1) pL_thing_at (spLawThingAt K n)) (C_law_things_at : CalleeA P w K mg base "_law_things_at" (n + 2) pL_things_at (spLawThingsAt K n)) : ∀ d : Nat, CalleeA P w K mg base "_law_body_at" (n + 3 + 2 * d) pL_body_at (spLawBodyAt K n d)
  | 0 => D.noneA fun vs H Q E h => by
    obtain ⟨a, ws, i, m, f, r, _, _, _, h, _⟩ := h
    omega
  | d + 1 => okLawBodyAt D T (okLawStepAt D2 T C_law_is_figures C_law_thing_at C_law_things_at (okLawBodyFrom D D2 T C_law_is_figures C_law_thing_at C_law_things_at d))
end
end
section
section
variable {P : Program} {w : World} {K : PySem.W.Frag} {mg : Str → Option Value} {base : Heap}
/-- what is told of a text -/
noncomputable def FirstBad (ls : List Str) (i : Nat) : Prop := (∃ l, ls[i]? = some l ∧ rdWk (rowT l) = none) ∧ ∀ j l, j < i → ls[j]? = some l → rdWk (rowT l) ≠ none
noncomputable def workD (l : Str) : PyData := (rdWk (rowT l)).getD .none
noncomputable def TellsT (ls : List Str) (d : PyData) : Prop :=
  (∃ i, FirstBad ls i ∧ d = .tuple [.str "text", .int (i : Int)]) ∨
  ((∀ l ∈ ls, rdWk (rowT l) ≠ none) ∧ OkProg (.tuple (ls.map workD)) ∧ d = .tuple [.str "read", .tuple (ls.map workD)]) ∨
  ((∀ l ∈ ls, rdWk (rowT l) ≠ none) ∧ ¬ OkProg (.tuple (ls.map workD)) ∧ d = .tuple [.str "program"])
theorem TellsT.same {ls : List Str} {d e : PyData} (h : TellsT ls d) (g : TellsT ls e) : d = e := by
  have no : ∀ {i}, FirstBad ls i → ¬ ∀ l ∈ ls, rdWk (rowT l) ≠ none := fun b z => by
    obtain ⟨⟨l, e1, e2⟩, _⟩ := b
    exact z l (List.mem_of_getElem? e1) e2
  rcases h with ⟨i, b, rfl⟩ | ⟨a, b, rfl⟩ | ⟨a, b, rfl⟩ <;> rcases g with ⟨j, c, rfl⟩ | ⟨a', c, rfl⟩ | ⟨a', c, rfl⟩
  · have : i = j := by
      rcases Nat.lt_trichotomy i j with l | l | l
      · obtain ⟨⟨x, e1, e2⟩, _⟩ := b
        exact absurd e2 (c.2 i x l e1)
      · exact l
      · obtain ⟨⟨x, e1, e2⟩, _⟩ := c
        exact absurd e2 (b.2 j x l e1)
    rw [this]
  · exact absurd a' (no b)
  · exact absurd a' (no b)
  · exact absurd a (no c)
  · rfl
  · exact absurd b c
  · exact absurd a (no c)
  · exact absurd c b
  · rfl
theorem Wl.wds {n f L : Nat} {ws : List Str} (h : Wl n f L ws) : ws.length ≤ L + 1 ∧ (∀ z ∈ ws, z.length ≤ L) ∧ ∀ z ∈ ws, PyData.strOk z = true := by
  have key : ∀ {vs : List Str}, vs.length ≤ Hw.mu vs ∧ ∀ z ∈ vs, z.length + 1 ≤ Hw.mu vs := by
    intro vs
    induction vs with
    | nil => exact ⟨Nat.zero_le _, fun z hz => by cases hz⟩
    | cons v vs ih =>
      rw [mu_cons]
      refine ⟨by rw [List.length_cons]; omega, fun z hz => ?_⟩
      rcases List.mem_cons.mp hz with rfl | hz
      · omega
      · have := ih.2 z hz
        omega
  have m := h.mu
  refine ⟨by have := (key (vs := ws)).1; omega, fun z hz => by have := (key (vs := ws)).2 z hz; omega, fun z hz => ?_⟩
  show z.cps.all (· < 0x110000) = true
  rw [← Array.all_toList, List.all_eq_true]
  intro c hc
  have := (h.sign z hz c hc).1
  exact decide_eq_true (by omega)
theorem flat_int {i : Int} : Tq (.int i) := .flat (by first | trivial | (unfold flatD; trivial) | (unfold flatD; rfl) | rfl)
theorem th_tq : ∀ t : Th, Tq t.enc
  | .num n => .str (by show 1 ≤ 90000; omega) fun e he => by
    rw [List.mem_singleton.mp he]
    exact flat_int
  | .own n => .str (by show 1 ≤ 90000; omega) fun e he => by
    rw [List.mem_singleton.mp he]
    exact flat_int
  | .par n => .str (by show 1 ≤ 90000; omega) fun e he => by
    rw [List.mem_singleton.mp he]
    exact flat_int
  | .cell t => .str (by show 1 ≤ 90000; omega) fun e he => by
    rw [List.mem_singleton.mp he]
    exact th_tq t
  | .sum a b => .str (by show 2 ≤ 90000; omega) fun e he => by
    rcases List.mem_cons.mp he with rfl | he
    · exact th_tq a
    · rw [List.mem_singleton.mp he]
      exact th_tq b
theorem encs_words : ∀ {b : Sts}, b.encs.length ≤ b.words.length
  | .nil => by unfold Sts.encs; exact Nat.zero_le _
  | .cons s r => by
    have := encs_words (b := r)
    have := st_one (s := s)
    unfold Sts.encs Sts.words
    rw [List.length_cons, List.length_append]
    omega
theorem ths_count : ∀ {ts : List Th}, ts.length ≤ (wordsOf ts).length
  | [] => Nat.zero_le _
  | t :: ts => by
    have := ths_count (ts := ts)
    have := th_one (t := t)
    show (t :: ts).length ≤ (t.words ++ wordsOf ts).length
    rw [List.length_cons, List.length_append]
    omega
mutual
theorem st_sq : ∀ {s : St}, s.words.length ≤ 90000 → Sq s.enc
  | .set p t, _ => by
    unfold St.enc
    exact .other (by decide +kernel) (by decide +kernel) (by show 2 ≤ 90000; omega) fun e he => by
      rcases List.mem_cons.mp he with rfl | he
      · exact th_tq p
      · rw [List.mem_singleton.mp he]
        exact th_tq t
  | .say t, _ => by
    unfold St.enc
    exact .other (by decide +kernel) (by decide +kernel) (by show 1 ≤ 90000; omega) fun e he => by
      rw [List.mem_singleton.mp he]
      exact th_tq t
  | .ite t a b, h => by
    unfold St.words at h
    simp only [List.length_cons, List.length_append, List.length_nil] at h
    have la := encs_words (b := a)
    have lb := encs_words (b := b)
    have ia := sts_sq (b := a) (by omega)
    have ib := sts_sq (b := b) (by omega)
    unfold St.enc
    exact .ite (by show 2 ≤ 90000; omega) (th_tq t) fun e he => by
      rcases List.mem_cons.mp he with rfl | he
      · exact .tup (by omega) ia
      · rw [List.mem_singleton.mp he]
        exact .tup (by omega) ib
  | .call w ts, h => by
    unfold St.words at h
    simp only [List.length_cons, List.length_append, List.length_nil] at h
    have l := ths_count (ts := ts)
    unfold St.enc
    exact .call (by show 2 ≤ 90000; omega) fun e he => by
      cases he
      intro us hu
      cases hu
      refine ⟨by rw [List.length_map]; omega, fun t ht => ?_⟩
      obtain ⟨x, _, rfl⟩ := List.mem_map.mp ht
      exact th_tq x
theorem sts_sq : ∀ {b : Sts}, b.words.length ≤ 90000 → ∀ e ∈ b.encs, Sq e
  | .nil, _, e, he => by
    unfold Sts.encs at he
    cases he
  | .cons s r, h, e, he => by
    unfold Sts.words at h
    rw [List.length_append] at h
    unfold Sts.encs at he
    rcases List.mem_cons.mp he with rfl | he
    · exact st_sq (by omega)
    · exact sts_sq (by omega) e he
end
theorem row_wq {l : Str} {d : PyData} (h : rdWk (rowT l) = some d) (few : (rowT l).length ≤ 90000) : Wq d := by
  obtain ⟨wk, h1, h2, low, e1, rfl⟩ := rdWk_sound h
  have l1 : wk.body.words.length ≤ 90000 := by
    have := congrArg List.length e1
    unfold Wk.words at this
    rw [List.length_append] at this
    omega
  refine ⟨_, _, _, rfl, .tup (Nat.le_trans encs_words l1) (sts_sq l1)⟩
/-- what a reader from the front makes of a line -/
theorem ll_bad0 {n m f : Nat} {ws : List Str} (h : figOf (hdW ws) = none) : rdWk ws = none := by
  refine (ll_rdWk (n := n) (m := m) (f := f) (r := none) ?_).symm
  unfold llF
  rw [h]
theorem ll_bad1 {n m f : Nat} {ws : List Str} (h : figOf (hdW (ws.drop 1)) = none) : rdWk ws = none := by
  refine (ll_rdWk (n := n) (m := m) (f := f) (r := none) ?_).symm
  unfold llF
  rw [h]
  cases figOf (hdW ws) <;> rfl
theorem ll_rest {n m f p o : Nat} {ws : List Str} (h0 : figOf (hdW ws) = some p) (h1 : figOf (hdW (ws.drop 1)) = some o) {ra : Option (List PyData × Nat)} (e : lbdF n m f (ws.drop 2) = some ra) :
    rdWk ws = ra.bind fun l => if 2 + l.2 = ws.length then some (.tuple [.int (p : Int), .int (o : Int), .tuple l.1]) else none := by
  refine (ll_rdWk (n := n) (m := m) (f := f) ?_).symm
  unfold llF
  rw [h0, h1]
  show o2 (lbdF n m f (ws.drop 2)) _ = _
  rw [e]
  cases ra with
  | none => rfl
  | some l =>
    show (if 2 + l.2 = ws.length then _ else _) = some (if 2 + l.2 = ws.length then _ else _)
    by_cases c : 2 + l.2 = ws.length
    · rw [if_pos c, if_pos c]
    · rw [if_neg c, if_neg c]
theorem at_w0 {ws : List Str} (h : ws ≠ []) : atI (ws.map V.str) 0 = some (.str (hdW ws)) := by
  cases ws with
  | nil => exact absurd rfl h
  | cons x r => exact at0
theorem at_w1 {ws : List Str} (h : ws ≠ []) : atI (ws.map V.str ++ [V.str ""]) 1 = some (.str (hdW (ws.drop 1))) := by
  refine atI_nat (j := 1) ?_
  match ws, h with
  | [x], _ => rfl
  | x :: y :: r, _ => rfl
theorem at_w1' {ws : List Str} {k : Nat} (h : figOf (hdW (ws.drop 1)) = some k) : atI (ws.map V.str) 1 = some (.str (hdW (ws.drop 1))) := by
  refine atI_nat (j := 1) ?_
  match ws, h with
  | [], h => rw [show hdW ([].drop 1) = "" from rfl, figOf_empty] at h; cases h
  | [x], h => rw [show hdW ([x].drop 1) = "" from rfl, figOf_empty] at h; cases h
  | x :: y :: r, _ => rfl
theorem take_map {α β : Type} {f : α → β} {l : List α} {i : Nat} {x : α} (e : l[i]? = some x) : (l.map f).take (i + 1) = (l.map f).take i ++ [f x] := by
  rw [List.take_succ, List.getElem?_map, e]
  rfl
noncomputable def spLawReading (K : PySem.W.Frag) (nn ff : Nat) : Sp := fun vs H Q _ => ∃ t : Str, vs = [.str t] ∧ Mt nn ff 48200 8 (TL.tl t) ∧ ∀ v d H', TellsT (linesT t) d → Rp K H' v d → Keep [] H H' → Q v H'
noncomputable abbrev sL_reading : Stmt := top 65
noncomputable abbrev nL_reading : List Str := ["_law_text_here", "_law_found", "_law_rows", "_law_row", "_law_words_here", "_law_told_here"]
noncomputable abbrev pL_reading : List Str := ["_law_text_here"]
theorem scL_reading : FnScope nL_reading pL_reading (defScope sL_reading) := ⟨rfl, rfl, rfl, by decide +kernel, rfl, by decide +kernel, by decide +kernel⟩
theorem okLawReading (D : DefAt K mg "_law_reading" sL_reading pL_reading) (T : Blt mg) (C_law_is_figures : Callee P w K mg base "_law_is_figures" 1 pL_is_figures spLawFigures) (C_law_body_at : CalleeA P w K mg base "_law_body_at" 283 pL_body_at (spLawBodyAt K 122 79)) (C_law_is_program : Callee P w K mg base "_law_is_program" 22 pL_is_program (spLawIsProgram K)) : CalleeA P w K mg base "_law_reading" 284 pL_reading (spLawReading K 121 78) := by
  refine D.okA scL_reading (fun vs H Q E h => ?_) (fun f cdv A outer s H vs Q E hd h => ?_)
  · obtain ⟨t, rfl, _⟩ := h
    rfl
  have hr := hd.room
  obtain ⟨t, rfl, ok, q⟩ := h
  have sm := ok.len
  have few : (linesT t).length ≤ 8 := by rw [linesT_eq, List.length_map]; exact ok.few
  refine ⟨_, (pss_cons (ps_set (i := 1) scL_reading.nd rfl (Or.inl rfl) (pe_lst pa_nil))
  (pss_cons (ps_set (i := 2) scL_reading.nd rfl (Or.inl rfl) (peSplit (pv 0) pe_str))
  (pss_cons (ps_for PassesOwn.never rfl (pi_range1 rfl T.range (pa_cons (pe_callB (cLen (K := K)) (by rfl) T.len PySem.boot_len (pa_cons (pv 2) pa_nil)) pa_nil)) (pg_name (i := 3) scL_reading.nd rfl (Or.inl rfl))
   (pss_cons (ps_set (i := 4) scL_reading.nd rfl (Or.inl rfl) (peSplit (pe_ix (ixL (K := K)) (pv 2) (pv 3) (fun _ _ => rfl)) pe_str))
  (pss_cons (ps_set (i := 5) scL_reading.nd rfl (Or.inl rfl) (pcallA C_law_body_at (hd.mono (by omega)) rfl (pa_cons (pv 4) (pa_cons pe_int pa_nil))))
  (pss_cons (ps_if (PW.pt (pw_or (pt_not (pt_val (pcall C_law_is_figures (hr.mono (by first | exact Nat.le_of_ble_eq_true rfl | omega)) rfl (pa_cons (pe_ix (ixL (K := K)) (pv 4) pe_int (fun _ _ => rfl)) pa_nil)))) (pw_or1 (pt_not (pt_val (pcall C_law_is_figures (hr.mono (by first | exact Nat.le_of_ble_eq_true rfl | omega)) rfl (pa_cons (pe_ix (ixL (K := K)) (pe_op op_cat (pv 4) (pe_lst (pa_cons pe_str pa_nil))) pe_int (fun _ _ => rfl)) pa_nil))))))) (pss_one (ps_ret (pe_tup (pa_cons pe_str (pa_cons (pv 3) pa_nil))))) pss_nil)
  (pss_cons (ps_if (PW.pt (pw_or (pt_cmpR op_isN1 (pv 5) pe_non (nomark _)) (pw_or1 (pt_cmpR op_ne (pe_ix (ixT (K := K)) (pv 5) pe_int (fun _ _ => rfl)) (pe_callB (cLen (K := K)) (by rfl) T.len PySem.boot_len (pa_cons (pv 4) pa_nil)) (nomark _))))) (pss_one (ps_ret (pe_tup (pa_cons pe_str (pa_cons (pv 3) pa_nil))))) pss_nil)
  (pss_one (ps_expr (peApp (K := K) (pv 1) (pe_tup (pa_cons (pe_callTy cIntS (by rfl) T.int (by decide +kernel) (pa_cons (pe_ix (ixL (K := K)) (pv 4) pe_int (fun _ _ => rfl)) pa_nil)) (pa_cons (pe_callTy cIntS (by rfl) T.int (by decide +kernel) (pa_cons (pe_ix (ixL (K := K)) (pv 4) pe_int (fun _ _ => rfl)) pa_nil)) (pa_cons (pe_ix (ixT (K := K)) (pv 5) pe_int (fun _ _ => rfl)) pa_nil))))))))))))
  (pss_one (ps_ret (pe_ifExp (pt_val (pcall C_law_is_program (hr.mono (by first | exact Nat.le_of_ble_eq_true rfl | omega)) rfl (pa_cons (pe_callTy (cTuple (K := K)) (by rfl) T.tuple (by decide +kernel) (pa_cons (pv 1) pa_nil)) pa_nil))) (pe_tup (pa_cons pe_str (pa_cons (pe_callTy (cTuple (K := K)) (by rfl) T.tuple (by decide +kernel) (pa_cons (pv 1) pa_nil)) pa_nil))) (pe_tup (pa_cons pe_str pa_nil)))))))), ?_⟩
  walk_at "rd"
  intro b H1 nb hb k1
  walk_at "rd"
  refine r_split (by decide) (by have : (900002 : Nat) ≤ sizeLine := by decide
                                 omega) (fun p H2 np hp k2 => ?_)
  have bp : b ∉ [p] := by rw [List.mem_singleton]; exact fun z => by rw [← z, hb] at np; cases np
  have hb2 := k2 _ _ hb (by simp)
  have pb : p ∉ [b] := by rw [List.mem_singleton]; exact fun z => bp (by rw [z]; exact List.mem_singleton.mpr rfl)
  have tsb : ∀ {H3 : Hp}, Keep [b] H2 H3 → Tst H2 H3 := fun k => k.ts fun x hx => by cases List.mem_singleton.mp hx; exact .inl ⟨_, hb2⟩
  have out : ∀ {H3 : Hp}, Keep [b] H2 H3 → Keep [] H H3 := fun k => (k1.trans k2).fresh1 k nb
  have lw : (List.map V.str (Txt.split t "\n")).length = (linesT t).length := List.length_map _
  walk_at "rd"
  rw [lw, Int.toNat_natCast]
  refine forR (n := (linesT t).length) (fun i σ H' => ∃ (x3 x4 x5 : Option V) (ys : List V), σ = [some (.str t), some (.ref b), some (.ref p), x3, x4, x5] ∧ Keep [b] H2 H' ∧ H' b = some (.lst ys) ∧ Rps K H' ys (((linesT t).map workD).take i) ∧ ∀ j l, j < i → (linesT t)[j]? = some l → rdWk (rowT l) ≠ none) ⟨none, none, none, [], rfl, Keep.refl, hb2, .nil, fun j l z => by omega⟩ (fun i σ H3 hi hp' => ?_) (fun σ H3 hp' => ?_)
  · obtain ⟨x3, x4, x5, ys, rfl, k3, hb3, rys, hall⟩ := hp'
    have el : (linesT t)[i]? = some (linesT t)[i] := List.getElem?_eq_getElem hi
    generalize (linesT t)[i] = l at el
    have ml := List.mem_of_getElem? el
    have W := ok.row ml
    obtain ⟨w1, w2, w3⟩ := W.wds
    have ll : l.length ≤ 48200 := by
      have := (ok.line _ (linesT_mem.mp ml)).len
      rw [tl_len] at this
      exact this
    have hp3 := k3 _ _ hp pb
    have ati : atI (List.map V.str (Txt.split t "\n")) (i : Int) = some (.str l) := by
      refine atI_nat ?_
      rw [List.getElem?_map]
      exact congrArg (Option.map V.str) el
    have lys : ys.length ≤ 1000 := by rw [rys.length, List.length_take, List.length_map]; omega
    walk_at "rd"
    refine r_split (by decide) (by have : (900002 : Nat) ≤ sizeLine := by decide
                                   omega) (fun c H4 nc hc k4 => ?_)
    have hc' : H4 c = some (.lst ((rowT l).map V.str)) := hc
    have hw4 : WdsL H4 c (rowT l) := ⟨hc', by omega, fun z hz => Nat.le_trans (w2 z hz) (by omega), w3⟩
    have hb4 := k4 _ _ hb3 (by simp)
    have toText : ∀ (u : Addr) (H' : Hp), H' u = some (.tup [.str "text", .int (i : Int)]) → Keep [] H H' → rdWk (rowT l) = none → Q (.ref u) H' := fun u H' hu k e =>
      q _ _ H' (.inl ⟨i, ⟨⟨l, el, e⟩, hall⟩, rfl⟩) (.tup (SqT.of hu) (.cons (.str _) (.cons (.int _) .nil))) k
    walk_at "rd"
    have e0 := bd_enf (n := 121) (m := (rowT l).length + 1) (f := (rowT l).length + 1) (ws := (rowT l).drop 2) W.wd.enf.drop (by rw [List.length_drop]; omega) (by rw [List.length_drop]; omega)
    cases e1 : lbdF 122 ((rowT l).length + 1) ((rowT l).length + 1) ((rowT l).drop 2) with
    | none => exact absurd e1 e0
    | some ra =>
      refine ask ⟨c, rowT l, 2, _, _, ra, rfl, hw4, e1, Nat.lt_of_le_of_lt ifs_drop (Nat.lt_succ_of_le W.wd.ifs), fun v1 H5 t1 k5 => ?_⟩
      have hw5 := hw4.keep k5
      have hw5a := hw5.at_
      have hb5 := k5 _ _ hb4 (by simp)
      have k05 : Keep [] H H5 := out (k3.trans ((k4.trans k5).mono (by simp)))
      have h0 := at_w0 (rowT_ne (l := l))
      have s0 := hw4.hd 0
      have s1 := hw4.hd 1
      rw [List.drop_zero] at s0
      walk_at "rd"
      refine r_or ?_
      walk_at "rd"
      refine ask ⟨hdW (rowT l), rfl, s0, fun H6 k6 => ?_⟩
      have k06 := k05.trans k6
      cases f0 : figOf (hdW (rowT l)) with
      | none =>
        walk_at "rd"
        intro u H7 n7 h7 k7
        exact toText u H7 h7 (k06.trans k7) (ll_bad0 (n := 0) (m := 0) (f := 0) f0)
      | some p0 =>
        have hw6 := hw5.keep k6
        have hw6a := hw6.at_
        have hb6 := k6 _ _ hb5 (by simp)
        walk_at "rd"
        rw [show (!(some p0).isSome) = false from rfl]
        walk_at "rd"
        intro p7 H7 n7 h7 k7
        have hw7a := k7 _ _ hw6a (by simp)
        walk_at "rd"
        refine r_cat hw7a h7 (small (by rw [List.length_map]; simp; omega)) ?_
        walk_at "rd"
        intro p8 H8 n8 h8 k8
        have k68 := k7.trans k8
        have hw8 := hw6.keep k68
        have hw8a := hw8.at_
        have hb8 := k68 _ _ hb6 (by simp)
        have h1 := at_w1 (rowT_ne (l := l))
        walk_at "rd"
        refine ask ⟨hdW ((rowT l).drop 1), rfl, s1, fun H9 k9 => ?_⟩
        have k09 := (k06.trans k68).trans k9
        cases f1 : figOf (hdW ((rowT l).drop 1)) with
        | none =>
          walk_at "rd"
          intro u H10 n10 h10 k10
          exact toText u H10 h10 (k09.trans k10) (ll_bad1 (n := 0) (m := 0) (f := 0) f1)
        | some o0 =>
          have hw9 := hw8.keep k9
          have hw9a := hw9.at_
          have hb9 := k9 _ _ hb8 (by simp)
          have rest := ll_rest f0 f1 e1
          have k59 := (k6.trans k68).trans k9
          walk_at "rd"
          rw [show (!(some o0).isSome) = false from rfl]
          walk_at "rd"
          cases ra with
          | none =>
            cases (show v1 = .non from t1)
            refine r_or ?_
            walk_at "rd"
            intro u H10 n10 h10 k10
            exact toText u H10 h10 (k09.trans k10) rest
          | some ra =>
            obtain ⟨pt, u, rfl, hT, hR⟩ := t1
            have a0 : atI [u, .int ((2 + ra.2 : Nat) : Int)] 0 = some u := at0
            have a1 : atI [u, .int ((2 + ra.2 : Nat) : Int)] 1 = some (.int ((2 + ra.2 : Nat) : Int)) := atI_nat (j := 1) rfl
            have hT9 : SqT K H9 pt [u, .int ((2 + ra.2 : Nat) : Int)] := (keep_ts0 k59).sqT hT
            refine r_or ?_
            walk_at "rd"
            have lmap : ((rowT l).map V.str).length = (rowT l).length := List.length_map _
            rw [lmap]
            refine ite2 (fun cc => ?_) (fun cc => ?_)
            · have ne : ¬ 2 + ra.2 = (rowT l).length := fun z => by
                rw [z] at cc
                simp at cc
              have rest' : rdWk (rowT l) = none := by
                rw [rest]
                show (if 2 + ra.2 = (rowT l).length then _ else _) = _
                rw [if_neg ne]
              walk_at "rd"
              intro u2 H10 n10 h10 k10
              exact toText u2 H10 h10 (k09.trans k10) rest'
            have eq : 2 + ra.2 = (rowT l).length := Decidable.byContradiction fun z => cc (by
              rw [decide_eq_false (fun y => z (by have := V.int.inj y; omega))]
              rfl)
            have rest' : rdWk (rowT l) = some (.tuple [.int (p0 : Int), .int (o0 : Int), .tuple ra.1]) := by
              rw [rest]
              show (if 2 + ra.2 = (rowT l).length then _ else _) = _
              rw [if_pos eq]
            have h1' := at_w1' f1
            walk_at "rd"
            refine r_intS (fig_int f0) (fig_short f0) ?_
            walk_at "rd"
            refine r_intS (fig_int f1) (fig_short f1) ?_
            walk_at "rd"
            intro p10 H10 n10 h10 k10
            have hb10 := k10 _ _ hb9 (by simp)
            walk_at "rd"
            intro H11 h11 k11
            have t1011 : Tst H10 H11 := k11.ts fun x hx => by cases List.mem_singleton.mp hx; exact .inl ⟨_, hb10⟩
            have hR11 := (hR.ts (keep_ts0 k59)).ts ((keep_ts0 k10).trans t1011)
            have ew : workD l = .tuple [.int (p0 : Int), .int (o0 : Int), .tuple ra.1] := by unfold workD; rw [rest']; rfl
            have k310 : Keep [] H3 H10 := ((k4.trans k5).trans k59).trans k10
            walk_at "rd"
            refine ⟨_, _, _, ys ++ [.ref p10], rfl, (k3.trans (k310.mono (by simp))).trans k11, h11, ?_, fun j l' hj hl' => ?_⟩
            · rw [take_map el, ew]
              exact (rys.ts ((keep_ts0 k310).trans t1011)).append (.cons (.tup (t1011.sqT (SqT.of h10)) (.cons (.int _) (.cons (.int _) (.cons hR11 .nil)))) .nil)
            · by_cases c : j < i
              · exact hall j l' c hl'
              · have : j = i := by omega
                subst this
                rw [el] at hl'
                cases hl'
                rw [rest']
                exact fun z => by cases z
  · obtain ⟨x3, x4, x5, ys, rfl, k3, hb3, rys, hall⟩ := hp'
    rw [List.take_of_length_le (by rw [List.length_map]; exact Nat.le_refl _)] at rys
    have hall' : ∀ l ∈ linesT t, rdWk (rowT l) ≠ none := fun l hl => by
      obtain ⟨j, hj⟩ := List.mem_iff_getElem?.mp hl
      exact hall j l (List.getElem?_eq_some_iff.mp hj).1 hj
    walk_at "rd"
    intro u H4 n4 h4 k4
    have rys4 := rys.ts (keep_ts0 k4)
    have hb4 := k4 _ _ hb3 (by simp)
    walk_at "rd"
    refine ask ⟨.ref u, (linesT t).map workD, rfl, .tup (SqT.of h4) rys4, fun d hd => ?_, by rw [List.length_map]; omega, fun bo H5 hbo k5 => ?_⟩
    · obtain ⟨l, hl, rfl⟩ := List.mem_map.mp hd
      have W := ok.row hl
      cases e : rdWk (rowT l) with
      | none => exact absurd e (hall' l hl)
      | some d =>
        have : workD l = d := by unfold workD; rw [e]; rfl
        rw [this]
        exact row_wq e (by have := W.wds.1; omega)
    · have hb5 := k5 _ _ hb4 (by simp)
      have k05 := (out k3).trans (k4.trans k5)
      have rys5 := rys4.ts (keep_ts0 k5)
      cases bo with
      | true =>
        walk_at "rd"
        intro u6 H6 n6 h6 k6
        walk_at "rd"
        intro u7 H7 n7 h7 k7
        have h6' := k7 _ _ h6 (by simp)
        exact q _ _ H7 (.inr (.inl ⟨hall', hbo.mp rfl, rfl⟩)) (.tup (SqT.of h7) (.cons (.str _) (.cons (.tup (SqT.of h6') (rys5.ts (keep_ts0 (k6.trans k7)))) .nil))) ((k05.trans k6).trans k7)
      | false =>
        walk_at "rd"
        intro u7 H7 n7 h7 k7
        exact q _ _ H7 (.inr (.inr ⟨hall', fun z => (by have := hbo.mpr z; cases this), rfl⟩)) (.tup (SqT.of h7) (.cons (.str _) .nil)) (k05.trans k7)
end
end
end Hw
namespace Hw
open PySem PySem.Spec PyProof.Rows L2 NdefX
local macro_rules | `(tactic| walk_at "sz") => `(tactic| first | exact Nat.le_of_ble_eq_true rfl | exact small (by first | omega | (simp; done) | (simp; omega)))
local macro_rules | `(tactic| walk_at "szT") => `(tactic| first | exact Nat.lt_of_lt_of_le (Nat.lt_succ_self _) (Nat.le_of_ble_eq_true rfl) | exact smallT (by first | omega | (simp; done) | (simp; omega)))
local macro_rules | `(tactic| walk_at "cond") => `(tactic| first | decide | omega | (dsimp only; omega) | exact ⟨by omega, by omega⟩ | exact .inr ⟨by decide, by decide⟩)
local macro_rules | `(tactic| walk_at "sq") => `(tactic| first | assumption | exact SqL.of (by assumption) | exact SqT.of (by assumption))
local macro_rules | `(tactic| walk_at "ty") => `(tactic| first | (with_reducible assumption) | exact .base (.int _) | exact .base (.str _) | exact .base (.bl _) | exact .base .non | exact tyT (by walk_at "sq") | exact tyL (by walk_at "sq"))
local macro_rules | `(tactic| walk_at "lk") => `(tactic| first | (with_reducible exact cell_number) | (with_reducible exact cell_loans) | (with_reducible exact frame_owns) | (with_reducible exact frame_handed) | (with_reducible exact frame_roads) | (with_reducible exact want_thing) | (with_reducible exact want_frame) | (with_reducible exact run_program) | (with_reducible exact run_ways) | (with_reducible exact run_commons) | (with_reducible exact run_said) | (with_reducible exact run_lent) | (with_reducible exact run_mixed))
local macro_rules | `(tactic| walk_at "rd") => `(tactic| repeat (first
  | ((with_reducible apply r_var); exact rfl)
  | ((with_reducible apply r_cons))
  | ((with_reducible apply r_c))
  | ((with_reducible apply r_op))
  | ((with_reducible apply r_nil))
  | ((with_reducible apply r_bl))
  | ((with_reducible apply r_seq))
  | ((with_reducible apply r_test))
  | ((with_reducible apply r_if))
  | ((with_reducible apply r_ixT); (walk_at "sq"); first | exact rfl | assumption)
  | ((with_reducible apply r_name))
  | ((with_reducible apply r_call))
  | ((fail_if_success (first | (with_reducible apply stopAsk) | (with_reducible intro _) | (with_reducible apply stopEx) | (with_reducible apply stopFor) | (with_reducible apply stopLc) | (with_reducible apply stopAnd) | (with_reducible apply stopOr))); first
  | ((with_reducible apply ite_t); (first | (with_reducible exact nRN) | (with_reducible exact nIN) | (with_reducible exact dNN) | decide +kernel))
    | ((with_reducible apply ite_f); (first | (with_reducible exact dRN) | (with_reducible exact dIN) | (with_reducible exact nNN) | decide +kernel))
    | ((with_reducible apply r_next))
    | ((with_reducible apply r_eq); exact rfl)
    | ((with_reducible apply new); (walk_at "sz"))
    | ((with_reducible apply r_ret))
    | ((with_reducible apply r_asg))
    | ((with_reducible apply r_cb))
    | ((with_reducible apply r_tup))
    | ((with_reducible apply r_B))
    | ((with_reducible apply r_I0))
    | ((with_reducible apply r_drop))
    | ((with_reducible apply r_isi); (walk_at "ty"); (decide +kernel))
    | ((with_reducible apply r_ixL); (walk_at "sq"); first | exact rfl | assumption)
    | ((with_reducible apply r_fld))
    | ((with_reducible apply r_fld1); assumption; assumption; assumption; (first | exact rfl | assumption))
    | ((with_reducible apply r_fld1); assumption; assumption; assumption; (walk_at "lk"))
    | ((with_reducible apply r_gcons))
    | ((with_reducible apply r_lst))
    | ((with_reducible apply r_not))
    | ((with_reducible apply r_for))
    | ((with_reducible apply r_isL); (walk_at "sq"))
    | ((with_reducible apply r_append))
    | ((with_reducible apply r_dgetS); assumption; (walk_at "dk"))
    | ((with_reducible apply r_app); assumption; (walk_at "szT"))
    | ((with_reducible apply r_dget))
    | ((with_reducible apply r_in); (first | exact .inl (by walk_at "sq") | exact .inr (by walk_at "sq")); exact rfl; (first | exact nums_flat | exact rfl))
    | ((with_reducible apply r_notN))
    | ((with_reducible apply r_ifE))
    | ((with_reducible apply r_sfld))
    | ((with_reducible apply r_sfld1); assumption; assumption; assumption; exact (by decide))
    | ((with_reducible apply r_sfld1); assumption; assumption; assumption; exact Nat.le_of_ble_eq_true rfl)
    | ((with_reducible apply r_lc))
    | ((with_reducible apply r_iTup))
    | ((with_reducible apply r_gtup); (walk_at "sq"); rfl)
    | ((with_reducible apply r_gnil))
    | ((with_reducible apply r_lenT); (walk_at "sq"))
    | ((with_reducible apply r_overT); (walk_at "sq"))
    | ((with_reducible apply r_I); (walk_at "cond"))
    | ((with_reducible apply acc); assumption; (walk_at "szT"))
    | ((with_reducible apply r_ne); exact rfl)
    | ((with_reducible apply r_tupL); (walk_at "sq"))
    | ((with_reducible apply r_isN))
    | ((with_reducible apply r_iRng1))
    | ((with_reducible apply r_rng); (first | decide | omega | (simp; omega)); (first | decide | omega | (simp; omega)))
    | ((with_reducible apply r_lenL); (walk_at "sq"))
    | ((with_reducible apply r_ixA); (first | exact .inl (by walk_at "sq") | exact .inr (by walk_at "sq")); first | exact rfl | assumption)
    | ((with_reducible apply r_isiT2); assumption; (walk_at "ty"); (decide +kernel); (decide +kernel))
    | ((with_reducible apply r_retN))
    | ((with_reducible apply r_int))
    | ((with_reducible apply r_intB))
    | ((with_reducible apply r_notV))
    | ((with_reducible apply r_andV))
    | ((with_reducible apply r_orV))
    | ((with_reducible apply r_chain))
    | ((with_reducible apply turn))
    | ((with_reducible apply r_iList))
    | ((with_reducible apply r_overL); (walk_at "sq"))
    | ((with_reducible apply r_sub))
    | ((with_reducible apply r_setL); assumption; exact rfl)
    | ((with_reducible apply r_par))
    | ((with_reducible apply r_par2))
    | ((with_reducible apply r_sl))
    | ((with_reducible apply r_part))
    | ((with_reducible apply r_part1))
    | ((with_reducible apply r_noPart))
    | ((with_reducible apply r_slL); (walk_at "sq"))
    | ((with_reducible apply r_slA); (walk_at "sq"))
    | ((with_reducible apply r_tupT); (walk_at "sq"))
    | ((with_reducible apply r_lstL); (walk_at "sq"))
    | ((with_reducible apply r_lstT); (walk_at "sq"))
    | ((with_reducible apply r_dput))
    | ((with_reducible apply r_dputS); assumption; (walk_at "szT"))
    | ((with_reducible apply r_disp))
    | ((with_reducible apply r_pnil))
    | ((with_reducible apply r_pcons))
    | ((with_reducible apply r_enumT))
    | ((with_reducible apply r_overE); (walk_at "sq"))
    | ((with_reducible apply r_zipA))
    | ((with_reducible apply r_zipT); (walk_at "sq"); (walk_at "sq"))
    | ((with_reducible apply r_zip3))
    | ((with_reducible apply r_overZ3); (walk_at "sq"); (walk_at "sq"); (walk_at "sq"))
    | ((with_reducible apply r_make))
    | ((with_reducible apply r_isiC); assumption; assumption; assumption)
    | ((with_reducible apply r_popM))
    | ((with_reducible apply r_pop); assumption)
    | ((with_reducible apply r_tru))
    | ((with_reducible apply r_truL); (walk_at "sq"))
    | ((with_reducible apply r_str); (first | omega | assumption))
    | ((with_reducible apply r_lenS); (first | assumption | omega))
    | ((with_reducible apply r_m1))
    | ((with_reducible apply r_isS))
    | ((with_reducible apply r_un))
    | ((with_reducible apply r_neg))
    | ((with_reducible apply r_inS))
    | ((with_reducible apply r_star))
    | ((with_reducible apply r_spread); (walk_at "sq"))
    | ((with_reducible apply r_revA))
    | ((with_reducible apply r_overV); (walk_at "sq"))
    | ((with_reducible apply r_enumL))
    | ((with_reducible apply r_overEL); (walk_at "sq"))
    | ((with_reducible apply r_revR))
    | ((with_reducible apply r_revOf); (first | omega | decide))
    | ((with_reducible apply r_zipT3))
    | ((with_reducible apply r_overZT3); (walk_at "sq"); (walk_at "sq"); (walk_at "sq"))
    | ((with_reducible apply r_rep1); assumption; (first | omega | (simp; omega)))
    | ((with_reducible apply r_addS); (first | assumption | omega))
    | ((with_reducible apply r_slS); (first | assumption | omega))
    | ((with_reducible apply r_revL))
    | ((with_reducible apply r_revV); (walk_at "sq")))))
section
variable {P : Program} {w : World} {K : PySem.W.Frag} {mg : Str → Option Value} {base : Heap}
noncomputable abbrev sBadText_init : Stmt := inClass (top 5) 0
noncomputable abbrev nBadText_init : List Str := ["self", "row", "__class__"]
noncomputable abbrev pBadText_init : List Str := ["self", "row"]
theorem scBadText_init : NdefX.NScope nBadText_init pBadText_init ["__class__"] (defScope sBadText_init) := NdefX.nscope_by (by decide +kernel)
noncomputable def fBadText (cc c : Addr) : NF := ⟨"__init__", "BadText.__init__", defArgs sBadText_init, defBody sBadText_init, defScope sBadText_init, [(("__class__" : Str), cc)], c⟩
theorem row_short {n : Nat} (h : n < 100) : (nW n).length ≤ 640 := by
  have := (nW_figs n h).1
  unfold figA at this
  rw [Bool.and_eq_true, decide_eq_true_eq, decide_eq_true_eq] at this
  omega
theorem okBadText_init {C f c cc : Addr} {oc dV kV doc pm ct : Value} {od an : Option Addr} {osl : Array (Option Value)} (I0 : InitAt P K mg C f (fBadText cc c)) (hno : PySem.W.findIn K (.ref C) "row" = some none)
    (lk : K.lookup f = some ⟨oc, od, .func (PySem.W.fnX "__init__" "BadText.__init__" (defArgs sBadText_init) (defBody sBadText_init) (defScope sBadText_init) [(("__class__" : Str), cc)] dV kV doc pm an (.ref c) ct), osl⟩) :
    FnOk P w K mg base CX0 1 f (PySem.W.fnX "__init__" "BadText.__init__" (defArgs sBadText_init) (defBody sBadText_init) (defScope sBadText_init) [(("__class__" : Str), cc)] dV kV doc pm an (.ref c) ct) pBadText_init (spBtx C "row") := by
  refine fn_init (F := fBadText cc c) (N := nBadText_init) I0 lk scBadText_init (self := "self") rfl rfl rfl rfl (fun env => rfl) (fun env => ⟨_, rfl⟩) (fun env => rfl) (fun vs H Q E h => ?_) (fun A outer s H vs Q E hr h => ?_)
  · obtain ⟨a, n, rfl, _⟩ := h
    rfl
  · obtain ⟨a, n, rfl, hn, ha, q⟩ := h
    refine ⟨_, _, a, pe_joined (.cons pe_str (.cons (pe_fmt (pe_var (i := 1) rfl (.inl rfl))) (.cons pe_str .nil))), pss_one (ps_ost (pe_var (i := 0) rfl (.inl rfl)) (pe_var (i := 1) rfl (.inl rfl))), rfl, ha, ?_⟩
    have big : (2000 : Nat) ≤ sizeLine := by decide
    have ln := row_short hn
    have l1 : (Str.empty ++ ("line " : Str)).length ≤ 10 := by decide +kernel
    have l2 : (Str.empty ++ ("line " : Str) ++ nW n).length ≤ 660 := by rw [Str.length_append]; omega
    have l4 : (" can't be so" : Str).length ≤ 20 := by decide +kernel
    have l3 : (Str.empty ++ ("line " : Str) ++ nW n ++ (" can't be so" : Str)).length ≤ 700 := by rw [Str.length_append]; omega
    have lg : (n : Int).natAbs.log2 < 1920 := Nat.lt_of_le_of_lt (Nat.log2_le_self _) (by simp; omega)
    exact ⟨"line ", rfl, Nat.le_trans l1 (by omega), .int (n : Int), rfl, .inr ⟨(n : Int), rfl, lg, nW n, rfl, Nat.le_trans l2 (by omega), " can't be so", rfl, Nat.le_trans l3 (by omega), rfl, by simp, .int (n : Int), rfl, .ref a, rfl, a, C, rfl, I0.oex, hno, .inl ⟨ha, q⟩⟩⟩
/-- what the written part says of the class and of its __init__ -/
structure BtxRaw (P : Program) (K : PySem.W.Frag) (mg : Str → Option Value) (C : Addr) : Prop where
  ex : ∃ (f c cc : Addr) (oc kV doc pm ct : Value) (od an : Option Addr) (osl : Array (Option Value)), InitAt P K mg C f (fBadText cc c) ∧ PySem.W.findIn K (.ref C) "__init__" = some (some (.ref f)) ∧ PySem.W.typeIn K (.ref f) = some (.type "function") ∧
    K.lookup f = some ⟨oc, od, .func (PySem.W.fnX "__init__" "BadText.__init__" (defArgs sBadText_init) (defBody sBadText_init) (defScope sBadText_init) [(("__class__" : Str), cc)] .none kV doc pm an (.ref c) ct), osl⟩
theorem btx_at {C : Addr} (R : BtxRaw P K mg C) (g : mg "BadText" = some (.ref C)) (hno : PySem.W.findIn K (.ref C) "row" = some none) : BtxAt P w K mg base "BadText" "row" C 1 pBadText_init := by
  obtain ⟨f, c, cc, oc, kV, doc, pm, ct, od, an, osl, I0, iC, tI, lk⟩ := R.ex
  exact ⟨⟨f, _, okBadText_init I0 hno lk, iC, tI, .all fun us hl => by obtain ⟨x0, x1, rfl⟩ := Hw.len2 hl; rfl⟩, g, I0.oex⟩
theorem oex_mk {C : Addr} {nm q : Str} {N : Addr} {bs bm : List Value} {sn : List Str} {sub : List Value} {ab : Bool} {col : Option Bool} {dd : Option Addr} {k0 k1 k2 k3 k5 : Option Value} (h : K.lookup C = some (excClassObj nm q C N bs bm true sn sub ab col dd k0 k1 k2 k3 k5 "ValueError.__new__")) (hb : PySem.HandSPX.refsVE bm = true)
    (sa : PySem.W.findIn K (.ref C) "__setattr__" = some (some (.builtin "object.__setattr__"))) (exC : PySem.W.subIn K (.ref C) (.type "BaseException") = some true) (tyC : PySem.W.typeIn K (.ref C) = some (.type "type")) (kC : PySem.W.keepIn K (.ref C) = true) : OexC K C :=
  ⟨⟨nm, q, N, bs, bm, sn, sub, ab, col, dd, k0, k1, k2, k3, k5, h, hb⟩, sa, exC, tyC, kC⟩
end
end Hw
namespace Hw
open PySem PySem.Spec PyProof.Rows L2
local macro_rules | `(tactic| walk_at "sz") => `(tactic| first | exact Nat.le_of_ble_eq_true rfl | exact small (by first | omega | (simp; done) | (simp; omega)))
local macro_rules | `(tactic| walk_at "szT") => `(tactic| first | exact Nat.lt_of_lt_of_le (Nat.lt_succ_self _) (Nat.le_of_ble_eq_true rfl) | exact smallT (by first | omega | (simp; done) | (simp; omega)))
local macro_rules | `(tactic| walk_at "cond") => `(tactic| first | decide | omega | (dsimp only; omega) | exact ⟨by omega, by omega⟩ | exact .inr ⟨by decide, by decide⟩)
local macro_rules | `(tactic| walk_at "sq") => `(tactic| first | assumption | exact SqL.of (by assumption) | exact SqT.of (by assumption))
local macro_rules | `(tactic| walk_at "ty") => `(tactic| first | (with_reducible assumption) | exact .base (.int _) | exact .base (.str _) | exact .base (.bl _) | exact .base .non | exact tyT (by walk_at "sq") | exact tyL (by walk_at "sq"))
local macro_rules | `(tactic| walk_at "lk") => `(tactic| first | (with_reducible exact cell_number) | (with_reducible exact cell_loans) | (with_reducible exact frame_owns) | (with_reducible exact frame_handed) | (with_reducible exact frame_roads) | (with_reducible exact want_thing) | (with_reducible exact want_frame) | (with_reducible exact run_program) | (with_reducible exact run_ways) | (with_reducible exact run_commons) | (with_reducible exact run_said) | (with_reducible exact run_lent) | (with_reducible exact run_mixed))
local macro_rules | `(tactic| walk_at "rd") => `(tactic| repeat (first
  | ((with_reducible apply r_var); exact rfl)
  | ((with_reducible apply r_cons))
  | ((with_reducible apply r_c))
  | ((with_reducible apply r_op))
  | ((with_reducible apply r_nil))
  | ((with_reducible apply r_bl))
  | ((with_reducible apply r_seq))
  | ((with_reducible apply r_test))
  | ((with_reducible apply r_if))
  | ((with_reducible apply r_ixT); (walk_at "sq"); first | exact rfl | assumption)
  | ((with_reducible apply r_name))
  | ((with_reducible apply r_call))
  | ((fail_if_success (first | (with_reducible apply stopAsk) | (with_reducible intro _) | (with_reducible apply stopEx) | (with_reducible apply stopFor) | (with_reducible apply stopLc) | (with_reducible apply stopAnd) | (with_reducible apply stopOr))); first
  | ((with_reducible apply ite_t); (first | (with_reducible exact nRN) | (with_reducible exact nIN) | (with_reducible exact dNN) | decide +kernel))
    | ((with_reducible apply ite_f); (first | (with_reducible exact dRN) | (with_reducible exact dIN) | (with_reducible exact nNN) | decide +kernel))
    | ((with_reducible apply r_next))
    | ((with_reducible apply r_eq); exact rfl)
    | ((with_reducible apply new); (walk_at "sz"))
    | ((with_reducible apply r_ret))
    | ((with_reducible apply r_asg))
    | ((with_reducible apply r_cb))
    | ((with_reducible apply r_tup))
    | ((with_reducible apply r_B))
    | ((with_reducible apply r_I0))
    | ((with_reducible apply r_drop))
    | ((with_reducible apply r_isi); (walk_at "ty"); (decide +kernel))
    | ((with_reducible apply r_ixL); (walk_at "sq"); first | exact rfl | assumption)
    | ((with_reducible apply r_fld))
    | ((with_reducible apply r_fld1); assumption; assumption; assumption; (first | exact rfl | assumption))
    | ((with_reducible apply r_fld1); assumption; assumption; assumption; (walk_at "lk"))
    | ((with_reducible apply r_gcons))
    | ((with_reducible apply r_lst))
    | ((with_reducible apply r_not))
    | ((with_reducible apply r_for))
    | ((with_reducible apply r_isL); (walk_at "sq"))
    | ((with_reducible apply r_append))
    | ((with_reducible apply r_dgetS); assumption; (walk_at "dk"))
    | ((with_reducible apply r_app); assumption; (walk_at "szT"))
    | ((with_reducible apply r_dget))
    | ((with_reducible apply r_in); (first | exact .inl (by walk_at "sq") | exact .inr (by walk_at "sq")); exact rfl; (first | exact nums_flat | exact rfl))
    | ((with_reducible apply r_notN))
    | ((with_reducible apply r_ifE))
    | ((with_reducible apply r_sfld))
    | ((with_reducible apply r_sfld1); assumption; assumption; assumption; exact (by decide))
    | ((with_reducible apply r_sfld1); assumption; assumption; assumption; exact Nat.le_of_ble_eq_true rfl)
    | ((with_reducible apply r_lc))
    | ((with_reducible apply r_iTup))
    | ((with_reducible apply r_gtup); (walk_at "sq"); rfl)
    | ((with_reducible apply r_gnil))
    | ((with_reducible apply r_lenT); (walk_at "sq"))
    | ((with_reducible apply r_overT); (walk_at "sq"))
    | ((with_reducible apply r_I); (walk_at "cond"))
    | ((with_reducible apply acc); assumption; (walk_at "szT"))
    | ((with_reducible apply r_ne); exact rfl)
    | ((with_reducible apply r_tupL); (walk_at "sq"))
    | ((with_reducible apply r_isN))
    | ((with_reducible apply r_iRng1))
    | ((with_reducible apply r_rng); (first | decide | omega | (simp; omega)); (first | decide | omega | (simp; omega)))
    | ((with_reducible apply r_lenL); (walk_at "sq"))
    | ((with_reducible apply r_ixA); (first | exact .inl (by walk_at "sq") | exact .inr (by walk_at "sq")); first | exact rfl | assumption)
    | ((with_reducible apply r_isiT2); assumption; (walk_at "ty"); (decide +kernel); (decide +kernel))
    | ((with_reducible apply r_retN))
    | ((with_reducible apply r_int))
    | ((with_reducible apply r_intB))
    | ((with_reducible apply r_notV))
    | ((with_reducible apply r_andV))
    | ((with_reducible apply r_orV))
    | ((with_reducible apply r_chain))
    | ((with_reducible apply turn))
    | ((with_reducible apply r_iList))
    | ((with_reducible apply r_overL); (walk_at "sq"))
    | ((with_reducible apply r_sub))
    | ((with_reducible apply r_setL); assumption; exact rfl)
    | ((with_reducible apply r_par))
    | ((with_reducible apply r_par2))
    | ((with_reducible apply r_sl))
    | ((with_reducible apply r_part))
    | ((with_reducible apply r_part1))
    | ((with_reducible apply r_noPart))
    | ((with_reducible apply r_slL); (walk_at "sq"))
    | ((with_reducible apply r_slA); (walk_at "sq"))
    | ((with_reducible apply r_tupT); (walk_at "sq"))
    | ((with_reducible apply r_lstL); (walk_at "sq"))
    | ((with_reducible apply r_lstT); (walk_at "sq"))
    | ((with_reducible apply r_dput))
    | ((with_reducible apply r_dputS); assumption; (walk_at "szT"))
    | ((with_reducible apply r_disp))
    | ((with_reducible apply r_pnil))
    | ((with_reducible apply r_pcons))
    | ((with_reducible apply r_enumT))
    | ((with_reducible apply r_overE); (walk_at "sq"))
    | ((with_reducible apply r_zipA))
    | ((with_reducible apply r_zipT); (walk_at "sq"); (walk_at "sq"))
    | ((with_reducible apply r_zip3))
    | ((with_reducible apply r_overZ3); (walk_at "sq"); (walk_at "sq"); (walk_at "sq"))
    | ((with_reducible apply r_make))
    | ((with_reducible apply r_isiC); assumption; assumption; assumption)
    | ((with_reducible apply r_popM))
    | ((with_reducible apply r_pop); assumption)
    | ((with_reducible apply r_tru))
    | ((with_reducible apply r_truL); (walk_at "sq"))
    | ((with_reducible apply r_str); (first | omega | assumption))
    | ((with_reducible apply r_lenS); (first | assumption | omega))
    | ((with_reducible apply r_m1))
    | ((with_reducible apply r_isS))
    | ((with_reducible apply r_un))
    | ((with_reducible apply r_neg))
    | ((with_reducible apply r_inS))
    | ((with_reducible apply r_star))
    | ((with_reducible apply r_spread); (walk_at "sq"))
    | ((with_reducible apply r_revA))
    | ((with_reducible apply r_overV); (walk_at "sq"))
    | ((with_reducible apply r_enumL))
    | ((with_reducible apply r_overEL); (walk_at "sq"))
    | ((with_reducible apply r_revR))
    | ((with_reducible apply r_revOf); (first | omega | decide))
    | ((with_reducible apply r_zipT3))
    | ((with_reducible apply r_overZT3); (walk_at "sq"); (walk_at "sq"); (walk_at "sq"))
    | ((with_reducible apply r_rep1); assumption; (first | omega | (simp; omega)))
    | ((with_reducible apply r_addS); (first | assumption | omega))
    | ((with_reducible apply r_slS); (first | assumption | omega))
    | ((with_reducible apply r_revL))
    | ((with_reducible apply r_revV); (walk_at "sq")))))
section
section
variable {P : Program} {w : World} {K : PySem.W.Frag} {mg : Str → Option Value} {base : Heap}
theorem hh_int {i : Int} : Hh (.int i) := by unfold Hh; trivial
theorem hh_str {x : Str} : Hh (.str x) := by unfold Hh; trivial
theorem hhs_nil : Hhs [] := by unfold Hhs; trivial
theorem hhs_cons {d : PyData} {ds : List PyData} (h : Hh d) (g : Hhs ds) : Hhs (d :: ds) := by unfold Hhs; exact ⟨h, g⟩
theorem hhs_of : ∀ {ds : List PyData}, (∀ d ∈ ds, Hh d) → Hhs ds
  | [], _ => hhs_nil
  | d :: ds, h => hhs_cons (h d List.mem_cons_self) (hhs_of fun e he => h e (List.mem_cons_of_mem _ he))
theorem hh_tup {ds : List PyData} (h : headOk (.tuple ds)) (g : Hhs ds) : Hh (.tuple ds) := by unfold Hh; exact ⟨h, g⟩
theorem th_hh : ∀ t : Th, Hh t.enc
  | .num n => hh_tup (Th.headOk (.num n)) (hhs_cons hh_str (hhs_cons hh_int hhs_nil))
  | .own n => hh_tup (Th.headOk (.own n)) (hhs_cons hh_str (hhs_cons hh_int hhs_nil))
  | .par n => hh_tup (Th.headOk (.par n)) (hhs_cons hh_str (hhs_cons hh_int hhs_nil))
  | .cell t => hh_tup (Th.headOk (.cell t)) (hhs_cons hh_str (hhs_cons (th_hh t) hhs_nil))
  | .sum a b => hh_tup (Th.headOk (.sum a b)) (hhs_cons hh_str (hhs_cons (th_hh a) (hhs_cons (th_hh b) hhs_nil)))
theorem head_tup {ds : List PyData} (h : ∀ d ∈ ds, ∃ es, d = .tuple es) : headOk (.tuple ds) := by
  cases ds with
  | nil => trivial
  | cons d ds => exact .inr (h d List.mem_cons_self)
theorem st_tup : ∀ s : St, ∃ es, s.enc = .tuple es
  | .set _ _ => ⟨_, by unfold St.enc; rfl⟩
  | .say _ => ⟨_, by unfold St.enc; rfl⟩
  | .ite _ _ _ => ⟨_, by unfold St.enc; rfl⟩
  | .call _ _ => ⟨_, by unfold St.enc; rfl⟩
theorem encs_tup : ∀ {b : Sts}, ∀ d ∈ b.encs, ∃ es, d = .tuple es
  | .nil, d, h => by unfold Sts.encs at h; cases h
  | .cons s r, d, h => by
    unfold Sts.encs at h
    rcases List.mem_cons.mp h with rfl | h
    · exact st_tup s
    · exact encs_tup d h
mutual
theorem st_hh : ∀ s : St, Hh s.enc
  | .set p t => by
    have h := St.headOk (.set p t)
    unfold St.enc at h ⊢
    exact hh_tup h (hhs_cons hh_str (hhs_cons (th_hh p) (hhs_cons (th_hh t) hhs_nil)))
  | .say t => by
    have h := St.headOk (.say t)
    unfold St.enc at h ⊢
    exact hh_tup h (hhs_cons hh_str (hhs_cons (th_hh t) hhs_nil))
  | .ite t a b => by
    have h := St.headOk (.ite t a b)
    unfold St.enc at h ⊢
    exact hh_tup h (hhs_cons hh_str (hhs_cons (th_hh t) (hhs_cons (hh_tup (head_tup encs_tup) (sts_hh a)) (hhs_cons (hh_tup (head_tup encs_tup) (sts_hh b)) hhs_nil))))
  | .call w ts => by
    have h := St.headOk (.call w ts)
    unfold St.enc at h ⊢
    refine hh_tup h (hhs_cons hh_str (hhs_cons hh_int (hhs_cons (hh_tup (head_tup fun d hd => ?_) (hhs_of fun d hd => ?_)) hhs_nil)))
    · obtain ⟨x, _, rfl⟩ := List.mem_map.mp hd
      cases x <;> exact ⟨_, rfl⟩
    · obtain ⟨x, _, rfl⟩ := List.mem_map.mp hd
      exact th_hh x
theorem sts_hh : ∀ b : Sts, Hhs b.encs
  | .nil => by unfold Sts.encs; exact hhs_nil
  | .cons s r => by
    unfold Sts.encs
    exact hhs_cons (st_hh s) (sts_hh r)
end
theorem work_is {l : Str} (h : rdWk (rowT l) ≠ none) : ∃ wk : Wk, workD l = wk.enc ∧ wk.body.low ∧ wk.params < 100 ∧ wk.owns < 100 ∧ wk.words = rowT l := by
  cases e : rdWk (rowT l) with
  | none => exact absurd e h
  | some d =>
    obtain ⟨wk, h1, h2, low, e1, rfl⟩ := rdWk_sound e
    exact ⟨wk, by unfold workD; rw [e]; rfl, low, h1, h2, e1⟩
theorem prog_hh {ls : List Str} (h : ∀ l ∈ ls, rdWk (rowT l) ≠ none) : Hh (.tuple (ls.map workD)) := by
  refine hh_tup (head_tup fun d hd => ?_) (hhs_of fun d hd => ?_)
  · obtain ⟨l, hl, rfl⟩ := List.mem_map.mp hd
    obtain ⟨wk, e, _⟩ := work_is (h l hl)
    rw [e]
    exact ⟨_, rfl⟩
  · obtain ⟨l, hl, rfl⟩ := List.mem_map.mp hd
    obtain ⟨wk, e, _⟩ := work_is (h l hl)
    rw [e]
    exact hh_tup (.inl rfl) (hhs_cons hh_int (hhs_cons hh_int (hhs_cons (hh_tup (head_tup encs_tup) (sts_hh wk.body)) hhs_nil)))
noncomputable def spReadX (K : PySem.W.Frag) (cT cP : Addr) : Sp := fun vs H Q E => ∃ t : Str, vs = [.str t] ∧ Mt 121 78 48200 8 (TL.tl t) ∧
  (∀ i d H1, FirstBad (linesT t) i → Keep [] H H1 → H1 d = none → E (.ref cT) (some d) (upd H1 d (.xd [("row", .int (i : Int))]))) ∧
  (∀ H', (∀ l ∈ linesT t, rdWk (rowT l) ≠ none) → ¬ OkProg (.tuple ((linesT t).map workD)) → Keep [] H H' → E (.ref cP) none H') ∧
  ∀ v H', (∀ l ∈ linesT t, rdWk (rowT l) ≠ none) → OkProg (.tuple ((linesT t).map workD)) → Rp K H' v (.tuple ((linesT t).map workD)) → (∃ p, v = .ref p) → Keep [] H H' → Q v H'
noncomputable abbrev sread : Stmt := top 32
noncomputable abbrev nread : List Str := ["text", "works", "row", "line", "work", "program"]
noncomputable abbrev pread : List Str := ["text"]
theorem scread : FnScope nread pread (defScope sread) := ⟨rfl, rfl, rfl, by decide +kernel, rfl, by decide +kernel, by decide +kernel⟩
theorem okReadX {cT cP : Addr} {psI : List Str} (D : DefAt K mg "read" sread pread) (T : Blt mg) (B_BadText : BtxAt P w K mg base "BadText" "row" cT 1 psI) (C_read_work : Callee P w K mg base "read_work" 5 pread_work (spReadWork K)) (C_need_program : CalleeX P w K mg base "need_program" 25 pneed_program (spNeedProgramX K cP)) : CalleeX P w K mg base "read" 26 pread (spReadX K cT cP) := by
  refine D.okX scread (fun vs H Q E h => ?_) (fun f cdv A outer s H vs Q E hr h => ?_)
  · obtain ⟨t, rfl, _⟩ := h
    rfl
  obtain ⟨t, rfl, ok, qT, qP, q⟩ := h
  have sm := ok.len
  have few : (linesT t).length ≤ 8 := by rw [linesT_eq, List.length_map]; exact ok.few
  refine ⟨_, (pss_cons (ps_set (i := 1) scread.nd rfl (Or.inl rfl) (pe_lst pa_nil))
  (pss_cons (ps_for (passes_of rfl) rfl (piEnumL (K := K) rfl T.enumerate (pa_cons (peSplit (pv 0) pe_str) pa_nil)) (pgTup (K := K) (by rfl) (pgs_cons (pg_name (i := 2) scread.nd rfl (Or.inl rfl)) (pgs_cons (pg_name (i := 3) scread.nd rfl (Or.inl rfl)) pgs_nil)))
   (pss_cons (ps_set (i := 4) scread.nd rfl (Or.inl rfl) (pcall C_read_work (hr.mono (by first | exact Nat.le_of_ble_eq_true rfl | omega)) rfl (pa_cons (peSplit (pv 3) pe_str) pa_nil)))
  (pss_cons (ps_if (pt_cmpR op_isN1 (pv 4) pe_non (nomark _)) (pss_one (psRaiseI B_BadText (takes_of rfl rfl rfl rfl) (hr.mono (by first | exact Nat.le_of_ble_eq_true rfl | omega)) (pv 2) rfl)) pss_nil)
  (pss_one (ps_expr (peApp (K := K) (pv 1) (pv 4)))))))
  (pss_cons (ps_set (i := 5) scread.nd rfl (Or.inl rfl) (pe_callTy (cTuple (K := K)) (by rfl) T.tuple (by decide +kernel) (pa_cons (pv 1) pa_nil)))
  (pss_cons (ps_expr (pcallX C_need_program (takes_of rfl rfl rfl rfl) (hr.mono (by first | exact Nat.le_of_ble_eq_true rfl | omega)) rfl (pa_cons (pv 5) pa_nil)))
  (pss_one (ps_ret (pv 5))))))), ?_⟩
  walk_at "rd"
  intro b H1 nb hb k1
  walk_at "rd"
  refine r_split (by decide) (by have : (900002 : Nat) ≤ sizeLine := by decide
                                 omega) (fun p H2 np hp k2 => ?_)
  have bp : b ∉ [p] := by rw [List.mem_singleton]; exact fun z => by rw [← z, hb] at np; cases np
  have hb2 := k2 _ _ hb (by simp)
  have pb : p ∉ [b] := by rw [List.mem_singleton]; exact fun z => bp (by rw [z]; exact List.mem_singleton.mpr rfl)
  have tsb : ∀ {H3 : Hp}, Keep [b] H2 H3 → Tst H2 H3 := fun k => k.ts fun x hx => by cases List.mem_singleton.mp hx; exact .inl ⟨_, hb2⟩
  have out : ∀ {H3 : Hp}, Keep [b] H2 H3 → Keep [] H H3 := fun k => (k1.trans k2).fresh1 k nb
  walk_at "rd"
  refine forEL (xs := (linesT t).map V.str) (fun i σ H' => ∃ (x2 x3 x4 : Option V) (ys : List V), σ = [some (.str t), some (.ref b), x2, x3, x4, none] ∧ Keep [b] H2 H' ∧ H' b = some (.lst ys) ∧ Rps K H' ys (((linesT t).map workD).take i) ∧ ∀ j l, j < i → (linesT t)[j]? = some l → rdWk (rowT l) ≠ none) ⟨_, _, _, [], rfl, Keep.refl, hb2, .nil, fun j l z => by omega⟩ (fun i σ H' _ hp' => ?_) (fun i x T σ H3 H4 hx hp' nT hT k4 => ?_) (fun σ H' hp' => ?_)
  · obtain ⟨_, _, _, _, rfl, k, _⟩ := hp'
    exact SqL.of (k _ _ hp pb)
  · obtain ⟨x2, x3, x4, ys, rfl, k3, hb3, rys, hall⟩ := hp'
    obtain ⟨l, el, rfl⟩ : ∃ l, (linesT t)[i]? = some l ∧ x = .str l := by
      rw [List.getElem?_map] at hx
      cases e : (linesT t)[i]? with
      | none => rw [e] at hx; cases hx
      | some l => rw [e] at hx; cases hx; exact ⟨l, rfl, rfl⟩
    have hi := (List.getElem?_eq_some_iff.mp el).1
    have ml := List.mem_of_getElem? el
    have W := ok.row ml
    obtain ⟨w1, w2, w3⟩ := W.wds
    have ll : l.length ≤ 48200 := by
      have := (ok.line _ (linesT_mem.mp ml)).len
      rw [tl_len] at this
      exact this
    have lys : ys.length ≤ 1000 := by rw [rys.length, List.length_take, List.length_map]; omega
    walk_at "rd"
    refine r_split (by decide) (by have : (900002 : Nat) ≤ sizeLine := by decide
                                   omega) (fun c H5 nc hc k5 => ?_)
    walk_at "rd"
    refine ask ⟨c, rowT l, rfl, hc, fun z hz => Nat.le_trans (w2 z hz) (by omega), by omega, ?_⟩
    cases e : rdWk (rowT l) with
    | none =>
      intro H6 k6
      walk_at "rd"
      refine r_raiseI ?_
      walk_at "rd"
      exact raiseI_ok (by omega) fun d hd => qT i d H6 ⟨⟨l, el, e⟩, hall⟩ (out (k3.trans (((k4.trans k5).trans k6).mono (by simp)))) hd
    | some d =>
      intro v H6 k6 rv ⟨p6, ev⟩
      subst ev
      have ew : workD l = d := by unfold workD; rw [e]; rfl
      have k46 := (k4.trans k5).trans k6
      have hb6 := k46 _ _ hb3 (by simp)
      walk_at "rd"
      intro H7 h7 k7
      walk_at "rd"
      have t67 : Tst H6 H7 := k7.ts fun x hx => by cases List.mem_singleton.mp hx; exact .inl ⟨_, hb6⟩
      refine ⟨_, _, _, _, rfl, (k3.trans (k46.mono (by simp))).trans k7, h7, ?_, fun j l' hj hl' => ?_⟩
      · rw [take_map el, ew]
        exact ((rys.ts (keep_ts0 k46)).ts t67).append (.cons (rv.ts t67) .nil)
      · by_cases c : j < i
        · exact hall j l' c hl'
        · have : j = i := by omega
          subst this
          rw [el] at hl'
          cases hl'
          rw [e]
          exact fun z => by cases z
  · obtain ⟨x2, x3, x4, ys, rfl, k3, hb3, rys, hall⟩ := hp'
    have lx : ((linesT t).map V.str).length = (linesT t).length := List.length_map _
    rw [lx] at hall rys
    rw [List.take_of_length_le (by rw [List.length_map]; exact Nat.le_refl _)] at rys
    have hall' : ∀ l ∈ linesT t, rdWk (rowT l) ≠ none := fun l hl => by
      obtain ⟨j, hj⟩ := List.mem_iff_getElem?.mp hl
      exact hall j l (List.getElem?_eq_some_iff.mp hj).1 hj
    walk_at "rd"
    intro u H4 n4 h4 k4
    have rP : Rp K H4 (.ref u) (.tuple ((linesT t).map workD)) := .tup (SqT.of h4) (rys.ts (keep_ts0 k4))
    have k04 := (out k3).trans k4
    walk_at "rd"
    refine r_callS ?_
    walk_at "rd"
    refine ask ⟨.ref u, _, rfl, rP, prog_hh hall', fun okP H5 k5 => ?_, fun no H5 k5 => qP H5 hall' no (k04.trans k5)⟩
    walk_at "rd"
    exact q _ H5 hall' okP (rP.ts (keep_ts0 k5)) ⟨u, rfl⟩ (k04.trans k5)
end
end
section
section
variable {P : Program} {w : World} {K : PySem.W.Frag} {mg : Str → Option Value} {base : Heap}
/-- a class of exceptions, what isinstance tells of its instances -/
structure TxE (K : PySem.W.Frag) (C cH cT cP cC cW : Addr) (t p : Bool) : Prop where
  ec : ExcC K C
  exm : PySem.W.exmOne K (.ref C) (.ref cH) = some true
  ve : PySem.W.kitOne K (.ref C) (.type "ValueError") = some true
  isT : PySem.W.kitOne K (.ref C) (.ref cT) = some t
  isP : PySem.W.kitOne K (.ref C) (.ref cP) = some p
  isC : PySem.W.kitOne K (.ref C) (.ref cC) = some false
  isW : PySem.W.kitOne K (.ref C) (.ref cW) = some false
structure GAt (mg : Str → Option Value) (x : Str) (C : Addr) : Prop where
  g : mg x = some (.ref C)
theorem bls_eqv {H : Hp} {p q : Addr} {a b c x y z : Bool} {Q : VK} (h1 : H p = some (.lst [.bl a, .bl b, .bl c])) (h2 : H q = some (.lst [.bl x, .bl y, .bl z])) (k : Q (.bl (PyData.eqv (.list [.bool a, .bool b, .bool c]) (.list [.bool x, .bool y, .bool z]))) H) : rEqD K (.ref p) (.ref q) H Q :=
  ⟨_, _, .lst (SqL.of h1) (.cons (.bl _) (.cons (.bl _) (.cons (.bl _) .nil))), .lst (SqL.of h2) (.cons (.bl _) (.cons (.bl _) (.cons (.bl _) .nil))), rfl, rfl, k⟩
noncomputable def spLawTold (K : PySem.W.Frag) : Sp := fun vs H Q _ => ∃ t : Str, vs = [.str t] ∧ Mt 121 78 48200 8 (TL.tl t) ∧ ∀ v d H', TellsT (linesT t) d → Rp K H' v d → Keep [] H H' → Q v H'
noncomputable abbrev sL_told : Stmt := top 66
noncomputable abbrev nL_told : List Str := ["_law_text_here", "_law_other", "_law_kinds", "e"]
noncomputable abbrev pL_told : List Str := ["_law_text_here"]
theorem scL_told : FnScope nL_told pL_told (defScope sL_told) := ⟨rfl, rfl, rfl, by decide +kernel, rfl, by decide +kernel, by decide +kernel⟩
theorem okLawTold {cH cT cP cC cW : Addr} (D : DefAt K mg "_law_told" sL_told pL_told) (T : Blt mg) (T_ValueError : mg "ValueError" = none) (E_HandError : GAt mg "HandError" cH) (E_BadText : GAt mg "BadText" cT) (E_BadProgram : GAt mg "BadProgram" cP) (E_BadCells : GAt mg "BadCells" cC) (E_BadWays : GAt mg "BadWays" cW)
    (XT : TxE K cT cH cT cP cC cW true false) (XP : TxE K cP cH cT cP cC cW false true) (XF_row : XfC K cT ∧ PySem.W.findIn K (.ref cT) "row" = some none) (C_read : CalleeX P w K mg base "read" 26 pread (spReadX K cT cP)) : Callee P w K mg base "_law_told" 27 pL_told (spLawTold K) := by
  refine D.ok scL_told (fun vs H Q E h => ?_) (fun f cdv A outer s H vs Q E hr h => ?_)
  · obtain ⟨t, rfl, _⟩ := h
    rfl
  obtain ⟨t, rfl, ok, q⟩ := h
  refine ⟨_, (pss_one (ps_try_as (i := 3) rfl rfl scL_told.nd rfl rfl ⟨rfl, by decide, .inl E_HandError.g⟩ takes0 (fun W pn xe tk po =>
  (pss_one (ps_ret (pe_tup (pa_cons pe_str (pa_cons (pcallX C_read tk (hr.mono (by first | exact Nat.le_of_ble_eq_true rfl | omega)) rfl (pa_cons (pv 0) pa_nil)) pa_nil)))))) (fun a oe cls d pn hz hf =>
  (pss_cons (ps_set (i := 1) scL_told.nd rfl (Or.inl rfl) (pe_or (pe_callB (call_isE2 (K := K) hz hf) (by rfl) T.isinstance (by decide +kernel) (pa_cons (pv 3) (pa_cons (pe_glob (v := .ref _) rfl E_BadCells.g rfl) pa_nil))) (pe_or (pe_callB (call_isE2 (K := K) hz hf) (by rfl) T.isinstance (by decide +kernel) (pa_cons (pv 3) (pa_cons (pe_glob (v := .ref _) rfl E_BadWays.g rfl) pa_nil))) (pe_one (pe_not (pe_callB (call_isE2 (K := K) hz hf) (by rfl) T.isinstance (by decide +kernel) (pa_cons (pv 3) (pa_cons (pe_bltn rfl T_ValueError (by decide +kernel) (v := .ty "ValueError") rfl) pa_nil))))))))
  (pss_cons (ps_set (i := 2) scL_told.nd rfl (Or.inl rfl) (pe_lst (pa_cons (pe_callB (call_isE2 (K := K) hz hf) (by rfl) T.isinstance (by decide +kernel) (pa_cons (pv 3) (pa_cons (pe_glob (v := .ref _) rfl E_BadText.g rfl) pa_nil))) (pa_cons (pe_callB (call_isE2 (K := K) hz hf) (by rfl) T.isinstance (by decide +kernel) (pa_cons (pv 3) (pa_cons (pe_glob (v := .ref _) rfl E_BadProgram.g rfl) pa_nil))) (pa_cons (pv 1) pa_nil)))))
  (pss_cons (ps_if (pt_cmpR (opEqD (K := K) hr.units) (pv 2) (pe_lst (pa_cons pe_bl (pa_cons pe_bl (pa_cons pe_bl pa_nil)))) (nomark _)) (pss_one (ps_ret (pe_tup (pa_cons pe_str (pa_cons (pe_xf XF_row.1 XF_row.2 hz hf (pv 3)) pa_nil))))) pss_nil)
  (pss_one (ps_ret (pe_ifExp (pt_cmpR (opEqD (K := K) hr.units) (pv 2) (pe_lst (pa_cons pe_bl (pa_cons pe_bl (pa_cons pe_bl pa_nil)))) (nomark _)) (pe_tup (pa_cons pe_str pa_nil)) (pe_tup (pa_cons pe_str pa_nil))))))))))), ?_⟩
  walk_at "rd"
  refine r_callS ?_
  walk_at "rd"
  refine ask ⟨t, rfl, ok, fun i d H1 fb k1 hd => ?_, fun H1 hall no k1 => ?_, fun v H1 hall okP hR _ k1 => ?_⟩
  · have hx : upd H1 d (.xd [(("row" : Str), V.int (i : Int))]) d = some (.xd [(("row" : Str), V.int (i : Int))]) := upd_same
    have kx : Keep [] H (upd H1 d (.xd [(("row" : Str), V.int (i : Int))])) := k1.trans (Keep.new hd)
    generalize upd H1 d (.xd [(("row" : Str), V.int (i : Int))]) = Hx at hx kx
    refine was2 XT.exm fun a ha => ?_
    walk_at "rd"
    refine r_isER2 XT.ec (.inr ⟨d, _, rfl, hx⟩) XT.isC ?_
    walk_at "rd"
    refine r_isER2 XT.ec (.inr ⟨d, _, rfl, hx⟩) XT.isW ?_
    walk_at "rd"
    refine r_isE2 XT.ec (.inr ⟨d, _, rfl, hx⟩) XT.ve ?_
    walk_at "rd"
    refine r_isER2 XT.ec (.inr ⟨d, _, rfl, hx⟩) XT.isT ?_
    walk_at "rd"
    refine r_isER2 XT.ec (.inr ⟨d, _, rfl, hx⟩) XT.isP ?_
    walk_at "rd"
    intro p2 H2 n2 h2 k2
    walk_at "rd"
    intro p3 H3 n3 h3 k3
    have h2' := k3 _ _ h2 (by simp)
    walk_at "rd"
    refine bls_eqv h2' h3 ?_
    rw [show PyData.eqv (.list [.bool true, .bool false, .bool (!true)]) (.list [.bool true, .bool false, .bool false]) = true from rfl]
    walk_at "rd"
    have hx3 := k3 _ _ (k2 _ _ hx (by simp)) (by simp)
    refine ⟨.ref a, rfl, rfl, rfl, d, _, .int (i : Int), rfl, hx3, by simp [List.lookup], ?_⟩
    walk_at "rd"
    intro p4 H4 n4 h4 k4
    exact q _ _ H4 (.inl ⟨i, fb, rfl⟩) (.tup (SqT.of h4) (.cons (.str _) (.cons (.int _) .nil))) (((kx.trans k2).trans k3).trans k4)
  · refine was2 XP.exm fun a ha => ?_
    walk_at "rd"
    refine r_isER2 XP.ec (.inl rfl) XP.isC ?_
    walk_at "rd"
    refine r_isER2 XP.ec (.inl rfl) XP.isW ?_
    walk_at "rd"
    refine r_isE2 XP.ec (.inl rfl) XP.ve ?_
    walk_at "rd"
    refine r_isER2 XP.ec (.inl rfl) XP.isT ?_
    walk_at "rd"
    refine r_isER2 XP.ec (.inl rfl) XP.isP ?_
    walk_at "rd"
    intro p2 H2 n2 h2 k2
    walk_at "rd"
    intro p3 H3 n3 h3 k3
    have h2' := k3 _ _ h2 (by simp)
    walk_at "rd"
    refine bls_eqv h2' h3 ?_
    rw [show PyData.eqv (.list [.bool false, .bool true, .bool (!true)]) (.list [.bool true, .bool false, .bool false]) = false from rfl]
    walk_at "rd"
    intro p5 H5 n5 h5 k5
    have h2'' := k5 _ _ h2' (by simp)
    walk_at "rd"
    refine bls_eqv h2'' h5 ?_
    rw [show PyData.eqv (.list [.bool false, .bool true, .bool (!true)]) (.list [.bool false, .bool true, .bool false]) = true from rfl]
    walk_at "rd"
    intro p4 H4 n4 h4 k4
    exact q _ _ H4 (.inr (.inr ⟨hall, no, rfl⟩)) (.tup (SqT.of h4) (.cons (.str _) .nil)) ((((k1.trans k2).trans k3).trans k5).trans k4)
  · walk_at "rd"
    intro p H2 n2 h2 k2
    exact q _ _ H2 (.inr (.inl ⟨hall, okP, rfl⟩)) (.tup (SqT.of h2) (.cons (.str _) (.cons (hR.ts (keep_ts0 k2)) .nil))) (k1.trans k2)
end
end
section
section
variable {P : Program} {w : World} {K : PySem.W.Frag} {mg : Str → Option Value} {base : Heap}
theorem sign_ok (i : Nat) (h : i < 23) : ∃ c, (("0123 ().+setayifclopwnr" : Str).cps.toList)[i]? = some c ∧ c < 128 ∧ c ≠ 10 := by
  have l : (("0123 ().+setayifclopwnr" : Str).cps.toList).length = 23 := by decide +kernel
  have al : (("0123 ().+setayifclopwnr" : Str).cps.toList).all (fun c => decide (c < 128) && decide (c ≠ 10)) = true := by decide +kernel
  have hi : i < (("0123 ().+setayifclopwnr" : Str).cps.toList).length := by omega
  refine ⟨_, List.getElem?_eq_getElem hi, ?_⟩
  have := List.all_eq_true.mp al _ (List.getElem_mem hi)
  rw [Bool.and_eq_true, decide_eq_true_eq, decide_eq_true_eq] at this
  exact this
theorem sign_end {n f L N a k : Nat} {t m : Str} (h : Mt n f L N (TL.tl t)) (n1 : 1 ≤ n) (hk : k ≤ 1) (hm : (TL.tl m).length ≤ 1) (lm : ∀ c ∈ TL.tl m, c < 128 ∧ c ≠ 10) : Mt (3 * n + 1) (2 * f + 2) (2 * L + 6) (N + 1) (TL.tl (cutS t none (some (a : Int)) ++ m ++ cutS t (some ((a + k : Nat) : Int)) none)) := by
  rw [TL.tl_append, TL.tl_append, cutS_to, cutS_from]
  have e : TL.tl t = (TL.tl t).take a ++ ((TL.tl t).drop a).take k ++ (TL.tl t).drop (a + k) := by
    rw [List.append_assoc, ← List.drop_drop, List.take_append_drop, List.take_append_drop]
  rw [e] at h
  exact (Mt.sign h (by rw [List.length_take]; omega) hm lm).mono (by omega) (by omega) (by omega) (by omega)
theorem ne_row {H : Hp} {r p : Addr} (R : Row K H r) (n : H p = none) : p ∉ [r] := by
  rw [List.mem_singleton]
  exact fun z => R.ne (z ▸ n)
theorem line_size {n f L N : Nat} {t : Str} (h : Mt n f L N (TL.tl t)) (l1 : L ≤ 48200) {ys : List Str} (g : ∀ l ∈ ys, l ∈ linesT t) (k : ys.length ≤ 16) : (ys.map (·.length)).sum + ys.length * ("\n" : Str).length ≤ 16777216 := by
  have a := sum_le (ys := ys) (k := 48200) fun x hx => by
    have := (h.line _ (linesT_mem.mp (g x hx))).len
    rw [tl_len] at this
    omega
  have b := Nat.mul_le_mul_left 48200 k
  rw [show ("\n" : Str).length = 1 by decide +kernel]
  omega
noncomputable def oddW : List Str := ["", "0", "1", "3", "00", "12", "100", "(", ")", ".", "+", "cell", "own", "par", "set", "say", "if", "call"]
theorem odd_ok (i : Nat) (h : i < 18) : ∃ z, (oddW.map V.str)[i]? = some (.str z) ∧ z.length ≤ 4 ∧ ∀ c ∈ TL.tl z, c < 128 ∧ c ≠ 32 ∧ c ≠ 10 := by
  have al : oddW.all (fun z => decide (z.length ≤ 4) && (TL.tl z).all (fun c => decide (c < 128) && decide (c ≠ 32) && decide (c ≠ 10))) = true := by decide +kernel
  have hi : i < oddW.length := h
  have x := List.all_eq_true.mp al _ (List.getElem_mem hi)
  rw [Bool.and_eq_true, decide_eq_true_eq] at x
  refine ⟨oddW[i], by rw [List.getElem?_map, List.getElem?_eq_getElem hi]; rfl, x.1, fun c hc => ?_⟩
  have y := List.all_eq_true.mp x.2 c hc
  rw [Bool.and_eq_true, Bool.and_eq_true, decide_eq_true_eq, decide_eq_true_eq, decide_eq_true_eq] at y
  exact ⟨y.1.1, y.1.2, y.2⟩
theorem mu_sum : ∀ {ws : List Str}, (ws.map (·.length)).sum + ws.length = mu ws
  | [] => rfl
  | w :: ws => by
    have := mu_sum (ws := ws)
    rw [mu_cons, List.map_cons, List.sum_cons, List.length_cons]
    omega
theorem words_size {n f L : Nat} {ws : List Str} (W : Wl n f (2 * L + 6) ws) (l1 : L ≤ 48200) : (ws.map (·.length)).sum + ws.length * (" " : Str).length ≤ 16777216 := by
  have := W.mu
  rw [show (" " : Str).length = 1 by decide +kernel, Nat.mul_one, mu_sum]
  omega
/-- a line of words put among the lines -/
theorem word_end {K : PySem.W.Frag} {n f L N k : Nat} {t : Str} {ws : List Str} {H : Hp} {p : Addr} {Q : VK} (h : Mt n f L N (TL.tl t)) (l1 : L ≤ 48200) (N1 : N ≤ 8) (hk : k < (linesT t).length) (W : Wl (3 * n + 1) (2 * f + 2) (2 * L + 6) ws)
    (hp : H p = some (.lst (((linesT t).map V.str).take k ++ [V.str (Txt.join " " ws)] ++ ((linesT t).map V.str).drop (k + 1)))) (q : Mt (3 * n + 1) (2 * f + 2) (2 * L + 6) (N + 1) (TL.tl (Txt.join "\n" ((linesT t).take k ++ [Txt.join " " ws] ++ (linesT t).drop (k + 1)))) → Q (.str (Txt.join "\n" ((linesT t).take k ++ [Txt.join " " ws] ++ (linesT t).drop (k + 1)))) H) :
    rJoin K (.str "\n") [.ref p] H Q := by
  have fN := h.few
  rw [← List.length_map (f := ofL), ← linesT_eq] at fN
  have len : ((linesT t).take k ++ [Txt.join " " ws] ++ (linesT t).drop (k + 1)).length ≤ N := by
    simp only [List.length_append, List.length_take, List.length_drop, List.length_singleton]
    omega
  obtain ⟨g1, g2⟩ := W.line
  have g3 := g1.len
  rw [tl_len] at g3
  have mem : ∀ x ∈ (linesT t).take k ++ [Txt.join " " ws] ++ (linesT t).drop (k + 1), x ∈ linesT t ∨ x = Txt.join " " ws := fun x hx => by
    rcases List.mem_append.mp hx with hx | hx
    · rcases List.mem_append.mp hx with hx | hx
      · exact .inl (List.mem_of_mem_take hx)
      · exact .inr (List.mem_singleton.mp hx)
    · exact .inl (List.mem_of_mem_drop hx)
  have a := sum_le (ys := (linesT t).take k ++ [Txt.join " " ws] ++ (linesT t).drop (k + 1)) (k := 100000) fun x hx => by
    rcases mem x hx with z | rfl
    · have := (h.line _ (linesT_mem.mp z)).len
      rw [tl_len] at this
      omega
    · omega
  refine r_join (ys := (linesT t).take k ++ [Txt.join " " ws] ++ (linesT t).drop (k + 1)) (.inl (SqL.of (by simp only [List.map_append, List.map_take, List.map_drop, List.map_cons, List.map_nil]; exact hp))) ?_ (q ?_)
  · have b := Nat.mul_le_mul_left 100000 len
    rw [show ("\n" : Str).length = 1 by decide +kernel]
    omega
  · exact Mt.text h (by omega) (by omega) (by omega) (fun x hx => (mem x hx).imp id fun z => by rw [z]; exact ⟨g1, g2⟩) (by omega) (by omega)
noncomputable def spLawChanged (K : PySem.W.Frag) : Sp := fun vs H Q _ => ∃ (r : Addr) (t : Str) (n f L N : Nat), vs = [.ref r, .str t] ∧ Row K H r ∧ Mt n f L N (TL.tl t) ∧ 1 ≤ n ∧ L ≤ 48200 ∧ N ≤ 8 ∧ ∀ (t' : Str) (H' : Hp), Mt (3 * n + 1) (2 * f + 2) (2 * L + 6) (N + 1) (TL.tl t') → Keep [r] H H' → Row K H' r → Q (.str t') H'
noncomputable abbrev sL_changed : Stmt := top 67
noncomputable abbrev nL_changed : List Str := ["_law_row", "_law_text_here", "_law_way", "_law_at", "_law_sign", "_law_lines", "_law_k", "_law_words_here", "_law_j", "_law_odd", "_law_rest", "_law_other"]
noncomputable abbrev pL_changed : List Str := ["_law_row", "_law_text_here"]
theorem scL_changed : FnScope nL_changed pL_changed (defScope sL_changed) := ⟨rfl, rfl, rfl, by decide +kernel, rfl, by decide +kernel, by decide +kernel⟩
theorem okLawChanged (D : DefAt K mg "_law_changed" sL_changed pL_changed) (T : Blt mg) (C_law_taken : Callee P w K mg base "_law_taken" 1 pL_taken (spTaken K)) : Callee P w K mg base "_law_changed" 2 pL_changed (spLawChanged K) := by
  refine D.ok scL_changed (fun vs H Q E h => ?_) (fun f cdv A outer s H vs Q E hr h => ?_)
  · obtain ⟨r, t, n, f, L, N, rfl, _⟩ := h
    rfl
  obtain ⟨r, t, n, f', L, N, rfl, hR, hM, n1, l1, N1, q⟩ := h
  have sm := hM.len
  have s2 : N * (L + 1) ≤ 8 * 48201 := Nat.mul_le_mul N1 (by omega)
  have s3 : t.length ≤ sizeLine := by have : (400000 : Nat) ≤ sizeLine := by decide
                                      omega
  refine ⟨_, (pss_cons (ps_set (i := 2) scL_changed.nd rfl (Or.inl rfl) (pcall C_law_taken (hr.mono (by first | exact Nat.le_of_ble_eq_true rfl | omega)) rfl (pa_cons (pv 0) (pa_cons pe_int pa_nil))))
  (pss_cons (ps_set (i := 3) scL_changed.nd rfl (Or.inl rfl) (pcall C_law_taken (hr.mono (by first | exact Nat.le_of_ble_eq_true rfl | omega)) rfl (pa_cons (pv 0) (pa_cons (pe_op op_add (pe_callB cLenS (by rfl) T.len PySem.boot_len (pa_cons (pv 1) pa_nil)) pe_int) pa_nil))))
  (pss_cons (ps_set (i := 4) scL_changed.nd rfl (Or.inl rfl) (pe_ix ix_str pe_str (pcall C_law_taken (hr.mono (by first | exact Nat.le_of_ble_eq_true rfl | omega)) rfl (pa_cons (pv 0) (pa_cons pe_int pa_nil))) (fun _ _ => rfl)))
  (pss_cons (ps_if (pt_cmpR op_lt (pv 2) pe_int (nomark _)) (pss_one (ps_ret (pe_op opAddS (pe_op opAddS (pe_slice sl_str (pv 1) po_none (po_some (pv 3))) (pe_ix (ixL (K := K)) (pe_lst (pa_cons (pv 4) (pa_cons pe_str (pa_cons (pv 4) pa_nil)))) (pv 2) (fun _ _ => rfl))) (pe_slice sl_str (pv 1) (po_some (pe_op op_add (pv 3) (pe_callTy c_int (by rfl) T.int (by decide +kernel) (pa_cons (pe_cmpR op_gt (pv 2) pe_int (nomark _)) pa_nil)))) po_none)))) pss_nil)
  (pss_cons (ps_set (i := 5) scL_changed.nd rfl (Or.inl rfl) (peSplit (pv 1) pe_str))
  (pss_cons (ps_set (i := 6) scL_changed.nd rfl (Or.inl rfl) (pcall C_law_taken (hr.mono (by first | exact Nat.le_of_ble_eq_true rfl | omega)) rfl (pa_cons (pv 0) (pa_cons (pe_callB (cLen (K := K)) (by rfl) T.len PySem.boot_len (pa_cons (pv 5) pa_nil)) pa_nil))))
  (pss_cons (ps_if (pt_cmpR op_eq (pv 2) pe_int (nomark _)) (pss_one (ps_ret (peJoin (K := K) pe_str (pe_ix (ixL (K := K)) (pe_lst (pa_cons (pe_op op_cat (pe_slice (slL (K := K)) (pv 5) po_none (po_some (pv 6))) (pe_slice (slL (K := K)) (pv 5) (po_some (pe_op op_add (pv 6) pe_int)) po_none)) (pa_cons (pe_op op_cat (pe_slice (slL (K := K)) (pv 5) po_none (po_some (pe_op op_add (pv 6) pe_int))) (pe_slice (slL (K := K)) (pv 5) (po_some (pv 6)) po_none)) (pa_cons (peRevL (K := K) (pv 5)) pa_nil)))) (pcall C_law_taken (hr.mono (by first | exact Nat.le_of_ble_eq_true rfl | omega)) rfl (pa_cons (pv 0) (pa_cons pe_int pa_nil))) (fun _ _ => rfl))))) pss_nil)
  (pss_cons (ps_set (i := 7) scL_changed.nd rfl (Or.inl rfl) (peSplit (pe_ix (ixL (K := K)) (pv 5) (pv 6) (fun _ _ => rfl)) pe_str))
  (pss_cons (ps_set (i := 8) scL_changed.nd rfl (Or.inl rfl) (pcall C_law_taken (hr.mono (by first | exact Nat.le_of_ble_eq_true rfl | omega)) rfl (pa_cons (pv 0) (pa_cons (pe_callB (cLen (K := K)) (by rfl) T.len PySem.boot_len (pa_cons (pv 7) pa_nil)) pa_nil))))
  (pss_cons (ps_set (i := 9) scL_changed.nd rfl (Or.inl rfl) (pe_lst (pa_cons pe_str (pa_cons pe_str (pa_cons pe_str (pa_cons pe_str (pa_cons pe_str (pa_cons pe_str (pa_cons pe_str (pa_cons pe_str (pa_cons pe_str (pa_cons pe_str (pa_cons pe_str (pa_cons pe_str (pa_cons pe_str (pa_cons pe_str (pa_cons pe_str (pa_cons pe_str (pa_cons pe_str (pa_cons pe_str pa_nil))))))))))))))))))))
  (pss_cons (ps_if (pt_cmpR op_eq (pv 2) pe_int (nomark _)) (pss_one (ps_set (i := 7) scL_changed.nd rfl (Or.inl rfl) (pe_op op_cat (pe_slice (slL (K := K)) (pv 7) po_none (po_some (pv 8))) (pe_slice (slL (K := K)) (pv 7) (po_some (pe_op op_add (pv 8) pe_int)) po_none)))) pss_nil)
  (pss_cons (ps_if (pt_cmpR op_eq (pv 2) pe_int (nomark _)) (pss_one (ps_set (i := 7) scL_changed.nd rfl (Or.inl rfl) (pe_op op_cat (pe_slice (slL (K := K)) (pv 7) po_none (po_some (pe_op op_add (pv 8) pe_int))) (pe_slice (slL (K := K)) (pv 7) (po_some (pv 8)) po_none)))) pss_nil)
  (pss_cons (ps_if (pt_cmpR op_eq (pv 2) pe_int (nomark _)) (pss_cons (ps_set (i := 10) scL_changed.nd rfl (Or.inl rfl) (pe_op op_cat (pe_slice (slL (K := K)) (pv 7) po_none (po_some (pv 8))) (pe_slice (slL (K := K)) (pv 7) (po_some (pe_op op_add (pv 8) pe_int)) po_none)))
  (pss_cons (ps_set (i := 11) scL_changed.nd rfl (Or.inl rfl) (pcall C_law_taken (hr.mono (by first | exact Nat.le_of_ble_eq_true rfl | omega)) rfl (pa_cons (pv 0) (pa_cons (pe_op op_add (pe_callB (cLen (K := K)) (by rfl) T.len PySem.boot_len (pa_cons (pv 10) pa_nil)) pe_int) pa_nil))))
  (pss_one (ps_set (i := 7) scL_changed.nd rfl (Or.inl rfl) (pe_op op_cat (pe_op op_cat (pe_slice (slL (K := K)) (pv 10) po_none (po_some (pv 11))) (pe_slice (slL (K := K)) (pv 7) (po_some (pv 8)) (po_some (pe_op op_add (pv 8) pe_int)))) (pe_slice (slL (K := K)) (pv 10) (po_some (pv 11)) po_none)))))) pss_nil)
  (pss_cons (ps_if (pt_cmpR op_gt (pv 2) pe_int (nomark _)) (pss_one (ps_set (i := 7) scL_changed.nd rfl (Or.inl rfl) (pe_op op_cat (pe_op op_cat (pe_slice (slL (K := K)) (pv 7) po_none (po_some (pv 8))) (pe_lst (pa_cons (pe_ix (ixL (K := K)) (pv 9) (pcall C_law_taken (hr.mono (by first | exact Nat.le_of_ble_eq_true rfl | omega)) rfl (pa_cons (pv 0) (pa_cons pe_int pa_nil))) (fun _ _ => rfl)) pa_nil))) (pe_slice (slL (K := K)) (pv 7) (po_some (pe_op op_add (pv 8) pe_int)) po_none)))) pss_nil)
  (pss_one (ps_ret (peJoin (K := K) pe_str (pe_op op_cat (pe_op op_cat (pe_slice (slL (K := K)) (pv 5) po_none (po_some (pv 6))) (pe_lst (pa_cons (peJoin (K := K) pe_str (pv 7)) pa_nil))) (pe_slice (slL (K := K)) (pv 5) (po_some (pe_op op_add (pv 6) pe_int)) po_none))))))))))))))))))), ?_⟩
  walk_at "rd"
  refine ask ⟨r, 10, rfl, by omega, by omega, hR, fun w1 H1 w0 w9 k1 R1 => ?_⟩
  obtain ⟨w, rfl⟩ : ∃ w : Nat, w1 = (w : Int) := ⟨w1.toNat, by omega⟩
  walk_at "rd"
  refine ask ⟨r, (t.length : Int) + 1, rfl, by omega, by omega, R1, fun a1 H2 a0 a9 k2 R2 => ?_⟩
  obtain ⟨a, rfl⟩ : ∃ a : Nat, a1 = (a : Int) := ⟨a1.toNat, by omega⟩
  walk_at "rd"
  refine ask ⟨r, 23, rfl, by omega, by omega, R2, fun i1 H3 i0 i9 k3 R3 => ?_⟩
  obtain ⟨i, rfl⟩ : ∃ i : Nat, i1 = (i : Int) := ⟨i1.toNat, by omega⟩
  obtain ⟨c, ec, c1, c2⟩ := sign_ok i (by omega)
  walk_at "rd"
  refine r_ixS (by decide) (atI_nat ec) ?_
  have k03 := (k1.trans k2).trans k3
  walk_at "rd"
  refine ite2 (fun cc => ?_) (fun cc => ?_)
  · have w3 : w < 3 := by have := of_decide_eq_true cc; omega
    have wc : w = 0 ∨ w = 1 ∨ w = 2 := by omega
    have big : (800000 : Nat) ≤ sizeLine := by decide
    have lc : ({ cps := #[c] } : Str).length = 1 := rfl
    have le : ("" : Str).length = 0 := by decide +kernel
    have z1 := cutS_length t none (some (a : Int))
    rcases wc with rfl | rfl | rfl
    · walk_at "rd"
      intro p H4 n4 h4 k4
      have ai : atI [V.str { cps := #[c] }, V.str "", V.str { cps := #[c] }] ((0 : Nat) : Int) = some (.str { cps := #[c] }) := atI_nat rfl
      have z2 : (cutS t none (some (a : Int)) ++ ({ cps := #[c] } : Str)).length ≤ t.length + 1 := by rw [Str.length_append]; omega
      walk_at "rd"
      rw [if_neg (by decide), Int.add_zero]
      have z3 := cutS_length t (some (a : Int)) none
      refine r_addS (by omega) ?_
      refine q _ H4 (sign_end (a := a) (k := 0) hM n1 (m := { cps := #[c] }) (Nat.zero_le 1) (by show ([c] : List Nat).length ≤ 1; simp) (fun d hd => by cases List.mem_singleton.mp (show d ∈ [c] from hd); exact ⟨c1, c2⟩)) (k03.trans (k4.mono (by simp))) (R3.keep0 k4)
    · walk_at "rd"
      intro p H4 n4 h4 k4
      have ai : atI [V.str { cps := #[c] }, V.str "", V.str { cps := #[c] }] ((1 : Nat) : Int) = some (.str "") := atI_nat rfl
      have z2 : (cutS t none (some (a : Int)) ++ ("" : Str)).length ≤ t.length + 1 := by rw [Str.length_append]; omega
      walk_at "rd"
      rw [if_pos (by decide), show (a : Int) + 1 = ((a + 1 : Nat) : Int) from rfl]
      have z3 := cutS_length t (some ((a + 1 : Nat) : Int)) none
      refine r_addS (by omega) ?_
      refine q _ H4 (sign_end hM n1 (m := "") (Nat.le_refl 1) (by decide +kernel) (fun d hd => by rw [show TL.tl ("" : Str) = [] by decide +kernel] at hd; cases hd)) (k03.trans (k4.mono (by simp))) (R3.keep0 k4)
    · walk_at "rd"
      intro p H4 n4 h4 k4
      have ai : atI [V.str { cps := #[c] }, V.str "", V.str { cps := #[c] }] ((2 : Nat) : Int) = some (.str { cps := #[c] }) := atI_nat rfl
      have z2 : (cutS t none (some (a : Int)) ++ ({ cps := #[c] } : Str)).length ≤ t.length + 1 := by rw [Str.length_append]; omega
      walk_at "rd"
      rw [if_pos (by decide), show (a : Int) + 1 = ((a + 1 : Nat) : Int) from rfl]
      have z3 := cutS_length t (some ((a + 1 : Nat) : Int)) none
      refine r_addS (by omega) ?_
      refine q _ H4 (sign_end hM n1 (m := { cps := #[c] }) (Nat.le_refl 1) (by show ([c] : List Nat).length ≤ 1; simp) (fun d hd => by cases List.mem_singleton.mp (show d ∈ [c] from hd); exact ⟨c1, c2⟩)) (k03.trans (k4.mono (by simp))) (R3.keep0 k4)
  · have w3 : 3 ≤ w := by have := of_decide_eq_false (Bool.eq_false_iff.mpr cc); omega
    have few : (linesT t).length ≤ 8 := by rw [linesT_eq, List.length_map]; exact Nat.le_trans hM.few N1
    have pos : 0 < (linesT t).length := List.length_pos_iff.mpr linesT_ne
    walk_at "rd"
    refine r_split (by decide) (by have : (900002 : Nat) ≤ sizeLine := by decide
                                   omega) (fun p H4 np hp k4 => ?_)
    have hp' : H4 p = some (.lst ((linesT t).map V.str)) := hp
    have lw : ((linesT t).map V.str).length = (linesT t).length := List.length_map _
    walk_at "rd"
    refine ask ⟨r, ((linesT t).length : Int), by rw [lw], by omega, by omega, R3.keep0 k4, fun b1 H5 b0 b9 k5 R5 => ?_⟩
    obtain ⟨k, rfl⟩ : ∃ k : Nat, b1 = (k : Int) := ⟨b1.toNat, by omega⟩
    have hk : k < (linesT t).length := by omega
    have pr : p ∉ [r] := by rw [List.mem_singleton]; exact fun z => by rw [z] at np; exact R3.ne np
    have hp5 := k5 _ _ hp' pr
    have k05 := (k03.trans (k4.mono (by simp))).trans k5
    walk_at "rd"
    refine ite2 (fun c3 => ?_) (fun c3 => ?_)
    · walk_at "rd"
      intro pA HA nA hA kA
      rw [cutV_up] at hA
      have hpA := kA _ _ hp5 (by simp)
      walk_at "rd"
      intro pB HB nB hB kB
      rw [show (k : Int) + 1 = ((k + 1 : Nat) : Int) from rfl, cutV_down] at hB
      have hpB := kB _ _ hpA (by simp)
      have hAB := kB _ _ hA (by simp)
      walk_at "rd"
      refine r_cat hAB hB (small (by rw [List.length_take, List.length_drop, lw]; omega)) ?_
      walk_at "rd"
      intro pC HC nC hC kC
      have hpC := kC _ _ hpB (by simp)
      walk_at "rd"
      intro pD HD nD hD kD
      rw [show (k : Int) + 1 = ((k + 1 : Nat) : Int) from rfl, cutV_up] at hD
      have hpD := kD _ _ hpC (by simp)
      walk_at "rd"
      intro pE HE nE hE kE
      rw [cutV_down] at hE
      have hpE := kE _ _ hpD (by simp)
      have hDE := kE _ _ hD (by simp)
      walk_at "rd"
      refine r_cat hDE hE (small (by rw [List.length_take, List.length_drop, lw]; omega)) ?_
      walk_at "rd"
      intro pF HF nF hF kF
      have hpF := kF _ _ hpE (by simp)
      walk_at "rd"
      intro pG HG nG hG kG
      walk_at "rd"
      intro pH HH nH hH kH
      have kCH := (((kD.trans kE).trans kF).trans kG).trans kH
      have k5H := ((kA.trans kB).trans kC).trans kCH
      have RH := R5.keep0 k5H
      have hCH := kCH _ _ hC (by simp)
      have hFH := (kG.trans kH) _ _ hF (by simp)
      have hGH := kH _ _ hG (by simp)
      have nrC := ne_row (R5.keep0 (kA.trans kB)) nC
      have nrF := ne_row (R5.keep0 ((((kA.trans kB).trans kC).trans kD).trans kE)) nF
      have nrG := ne_row (R5.keep0 (((((kA.trans kB).trans kC).trans kD).trans kE).trans kF)) nG
      have nrH := ne_row (R5.keep0 ((((((kA.trans kB).trans kC).trans kD).trans kE).trans kF).trans kG)) nH
      walk_at "rd"
      refine ask ⟨r, 3, rfl, by omega, by omega, RH, fun v HI v0 v3 kI RI => ?_⟩
      have hCI := kI _ _ hCH nrC
      have hFI := kI _ _ hFH nrF
      have hGI := kI _ _ hGH nrG
      have hHI := kI _ _ hH nrH
      have fN := hM.few
      rw [← List.length_map (f := ofL), ← linesT_eq] at fN
      have vc : v = 0 ∨ v = 1 ∨ v = 2 := by omega
      rcases vc with rfl | rfl | rfl
      · have e0 : atI [V.ref pC, V.ref pF, V.ref pG] 0 = some (V.ref pC) := at0
        walk_at "rd"
        refine r_join (ys := (linesT t).take k ++ (linesT t).drop (k + 1)) (.inl (SqL.of (by rw [List.map_append, List.map_take, List.map_drop]; exact hCI))) (line_size hM l1 (fun l hl => (List.mem_append.mp hl).elim List.mem_of_mem_take List.mem_of_mem_drop) (by rw [List.length_append, List.length_take, List.length_drop]; omega)) ?_
        exact q _ HI (Mt.text hM (by omega) (by omega) (by omega) (fun l hl => .inl ((List.mem_append.mp hl).elim List.mem_of_mem_take List.mem_of_mem_drop)) (by rw [List.length_append, List.length_take, List.length_drop]; omega) (by omega)) (k05.trans (k5H.mono (by simp) |>.trans kI)) RI
      · have e0 : atI [V.ref pC, V.ref pF, V.ref pG] 1 = some (V.ref pF) := atI_nat (j := 1) rfl
        walk_at "rd"
        refine r_join (ys := (linesT t).take (k + 1) ++ (linesT t).drop k) (.inl (SqL.of (by rw [List.map_append, List.map_take, List.map_drop]; exact hFI))) (line_size hM l1 (fun l hl => (List.mem_append.mp hl).elim List.mem_of_mem_take List.mem_of_mem_drop) (by rw [List.length_append, List.length_take, List.length_drop]; omega)) ?_
        exact q _ HI (Mt.text hM (by omega) (by omega) (by omega) (fun l hl => .inl ((List.mem_append.mp hl).elim List.mem_of_mem_take List.mem_of_mem_drop)) (by rw [List.length_append, List.length_take, List.length_drop]; omega) (by omega)) (k05.trans (k5H.mono (by simp) |>.trans kI)) RI
      · have e0 : atI [V.ref pC, V.ref pF, V.ref pG] 2 = some (V.ref pG) := atI_nat (j := 2) rfl
        walk_at "rd"
        refine r_join (ys := (linesT t).reverse) (.inl (SqL.of (by rw [List.map_reverse]; exact hGI))) (line_size hM l1 (fun l hl => List.mem_reverse.mp hl) (by rw [List.length_reverse]; omega)) ?_
        exact q _ HI (Mt.text hM (by omega) (by omega) (by omega) (fun l hl => .inl (List.mem_reverse.mp hl)) (by rw [List.length_reverse]; omega) (by omega)) (k05.trans (k5H.mono (by simp) |>.trans kI)) RI
    · have w4 : 4 ≤ w := by
        have : ¬ w = 3 := fun z => c3 (by rw [z]; decide +kernel)
        omega
      have el : (linesT t)[k]? = some (linesT t)[k] := List.getElem?_eq_getElem hk
      generalize (linesT t)[k] = l at el
      have ml := List.mem_of_getElem? el
      have W := hM.row ml
      obtain ⟨g1, g2, g3⟩ := W.wds
      have ll : l.length ≤ L := by
        have := (hM.line _ (linesT_mem.mp ml)).len
        rw [tl_len] at this
        exact this
      have atk : atI ((linesT t).map V.str) (k : Int) = some (.str l) := by
        refine atI_nat ?_
        rw [List.getElem?_map]
        exact congrArg (Option.map V.str) el
      have rpos : 0 < (rowT l).length := List.length_pos_iff.mpr rowT_ne
      walk_at "rd"
      refine r_split (by decide) (by have : (900002 : Nat) ≤ sizeLine := by decide
                                     omega) (fun pw H6 nw hw k6 => ?_)
      have hw' : H6 pw = some (.lst ((rowT l).map V.str)) := hw
      have lr : ((rowT l).map V.str).length = (rowT l).length := List.length_map _
      have hp6 := k6 _ _ hp5 (by simp)
      walk_at "rd"
      refine ask ⟨r, ((rowT l).length : Int), by rw [lr], by omega, by omega, R5.keep0 k6, fun b1 H7 b0 b9 k7 R7 => ?_⟩
      obtain ⟨j, rfl⟩ : ∃ j : Nat, b1 = (j : Int) := ⟨b1.toNat, by omega⟩
      have hj : j < (rowT l).length := by omega
      have hp7 := k7 _ _ hp6 pr
      have hw7 := k7 _ _ hw' (ne_row R5 nw)
      have k07 := (k05.trans (k6.mono (by simp))).trans k7
      walk_at "rd"
      intro po H8 no ho k8
      have hp8 := k8 _ _ hp7 (by simp)
      have hw8 := k8 _ _ hw7 (by simp)
      have R8 := R7.keep0 k8
      have k08 := k07.trans (k8.mono (by simp))
      have wc : w = 4 ∨ w = 5 ∨ w = 6 ∨ w = 7 ∨ w = 8 ∨ w = 9 := by omega
      rcases wc with rfl | rfl | rfl | rfl | rfl | rfl
      · walk_at "rd"
        intro pA HA nA hA kA
        rw [cutV_up] at hA
        have hwA := kA _ _ hw8 (by simp)
        have hpA := kA _ _ hp8 (by simp)
        walk_at "rd"
        intro pB HB nB hB kB
        rw [show (j : Int) + 1 = ((j + 1 : Nat) : Int) from rfl, cutV_down] at hB
        have hAB := kB _ _ hA (by simp)
        have hpB := kB _ _ hpA (by simp)
        walk_at "rd"
        refine r_cat hAB hB (small (by rw [List.length_take, List.length_drop, lr]; omega)) ?_
        walk_at "rd"
        intro pC HC nC hC kC
        have hpC := kC _ _ hpB (by simp)
        have kk := (kA.trans kB).trans kC
        have hWC : HC pC = some (.lst (((rowT l).take j ++ (rowT l).drop (j + 1)).map V.str)) := by rw [List.map_append, List.map_take, List.map_drop]; exact hC
        have WW := W.del (j := j)
        have RC := R8.keep0 kk
        have k0C := k08.trans (kk.mono (by simp))
        walk_at "rd"
        intro p1 G1 m1 a1 t1
        rw [cutV_up] at a1
        have hW1 := t1 _ _ hWC (by simp)
        have hq1 := t1 _ _ hpC (by simp)
        walk_at "rd"
        refine r_join (.inl (SqL.of hW1)) (words_size WW l1) ?_
        walk_at "rd"
        intro p2 G2 m2 a2 t2
        have a12 := t2 _ _ a1 (by simp)
        have hq2 := t2 _ _ hq1 (by simp)
        walk_at "rd"
        refine r_cat a12 a2 (small (by rw [List.length_take, lw]; simp; omega)) ?_
        walk_at "rd"
        intro p3 G3 m3 a3 t3
        have hq3 := t3 _ _ hq2 (by simp)
        walk_at "rd"
        intro p4 G4 m4 a4 t4
        rw [show (k : Int) + 1 = ((k + 1 : Nat) : Int) from rfl, cutV_down] at a4
        have a34 := t4 _ _ a3 (by simp)
        walk_at "rd"
        refine r_cat a34 a4 (small (by rw [List.length_append, List.length_take, List.length_drop, lw]; simp; omega)) ?_
        walk_at "rd"
        intro p5 G5 m5 a5 t5
        walk_at "rd"
        have tt := (((t1.trans t2).trans t3).trans t4).trans t5
        exact word_end hM l1 N1 hk WW a5 fun hMM => q _ G5 hMM (k0C.trans (tt.mono (by simp))) (RC.keep0 tt)
      · walk_at "rd"
        intro pA HA nA hA kA
        rw [show (j : Int) + 1 = ((j + 1 : Nat) : Int) from rfl, cutV_up] at hA
        have hwA := kA _ _ hw8 (by simp)
        have hpA := kA _ _ hp8 (by simp)
        walk_at "rd"
        intro pB HB nB hB kB
        rw [cutV_down] at hB
        have hAB := kB _ _ hA (by simp)
        have hpB := kB _ _ hpA (by simp)
        walk_at "rd"
        refine r_cat hAB hB (small (by rw [List.length_take, List.length_drop, lr]; omega)) ?_
        walk_at "rd"
        intro pC HC nC hC kC
        have hpC := kC _ _ hpB (by simp)
        have kk := (kA.trans kB).trans kC
        have hWC : HC pC = some (.lst (((rowT l).take (j + 1) ++ (rowT l).drop j).map V.str)) := by rw [List.map_append, List.map_take, List.map_drop]; exact hC
        have WW := W.dup (j := j)
        have RC := R8.keep0 kk
        have k0C := k08.trans (kk.mono (by simp))
        walk_at "rd"
        intro p1 G1 m1 a1 t1
        rw [cutV_up] at a1
        have hW1 := t1 _ _ hWC (by simp)
        have hq1 := t1 _ _ hpC (by simp)
        walk_at "rd"
        refine r_join (.inl (SqL.of hW1)) (words_size WW l1) ?_
        walk_at "rd"
        intro p2 G2 m2 a2 t2
        have a12 := t2 _ _ a1 (by simp)
        have hq2 := t2 _ _ hq1 (by simp)
        walk_at "rd"
        refine r_cat a12 a2 (small (by rw [List.length_take, lw]; simp; omega)) ?_
        walk_at "rd"
        intro p3 G3 m3 a3 t3
        have hq3 := t3 _ _ hq2 (by simp)
        walk_at "rd"
        intro p4 G4 m4 a4 t4
        rw [show (k : Int) + 1 = ((k + 1 : Nat) : Int) from rfl, cutV_down] at a4
        have a34 := t4 _ _ a3 (by simp)
        walk_at "rd"
        refine r_cat a34 a4 (small (by rw [List.length_append, List.length_take, List.length_drop, lw]; simp; omega)) ?_
        walk_at "rd"
        intro p5 G5 m5 a5 t5
        walk_at "rd"
        have tt := (((t1.trans t2).trans t3).trans t4).trans t5
        exact word_end hM l1 N1 hk WW a5 fun hMM => q _ G5 hMM (k0C.trans (tt.mono (by simp))) (RC.keep0 tt)
      · walk_at "rd"
        intro pA HA nA hA kA
        rw [cutV_up] at hA
        have hwA := kA _ _ hw8 (by simp)
        have hpA := kA _ _ hp8 (by simp)
        walk_at "rd"
        intro pB HB nB hB kB
        rw [show (j : Int) + 1 = ((j + 1 : Nat) : Int) from rfl, cutV_down] at hB
        have hAB := kB _ _ hA (by simp)
        have hpB := kB _ _ hpA (by simp)
        have hwB := kB _ _ hwA (by simp)
        walk_at "rd"
        refine r_cat hAB hB (small (by rw [List.length_take, List.length_drop, lr]; omega)) ?_
        walk_at "rd"
        intro pC HC nC hC kC
        have hpC := kC _ _ hpB (by simp)
        have hwC := kC _ _ hwB (by simp)
        have kk := (kA.trans kB).trans kC
        have RC := R8.keep0 kk
        have k0C := k08.trans (kk.mono (by simp))
        have lC : ((((rowT l).map V.str).take j ++ ((rowT l).map V.str).drop (j + 1)).length : Int) ≤ 100000 := by
          rw [List.length_append, List.length_take, List.length_drop, lr]
          omega
        walk_at "rd"
        refine ask ⟨r, _, rfl, by omega, by omega, RC, fun o1 HI o0 o9 kI RI => ?_⟩
        obtain ⟨o, rfl⟩ : ∃ o : Nat, o1 = (o : Int) := ⟨o1.toNat, by omega⟩
        have nrC := ne_row (R8.keep0 (kA.trans kB)) nC
        have hCI := kI _ _ hC nrC
        have hpI := kI _ _ hpC pr
        have hwI := kI _ _ hwC (ne_row R5 nw)
        have k0I := k0C.trans kI
        walk_at "rd"
        intro pD HD nD hD kD
        rw [cutV_up] at hD
        have hCD := kD _ _ hCI (by simp)
        have hpD := kD _ _ hpI (by simp)
        have hwD := kD _ _ hwI (by simp)
        walk_at "rd"
        intro pE HE nE hE kE
        rw [cutV_one] at hE
        have hDE := kE _ _ hD (by simp)
        have hCE := kE _ _ hCD (by simp)
        have hpE := kE _ _ hpD (by simp)
        walk_at "rd"
        refine r_cat hDE hE (small (by rw [List.length_take, List.length_append, List.length_take, List.length_take, List.length_drop, List.length_drop, lr]; omega)) ?_
        walk_at "rd"
        intro pF HF nF hF kF
        have hCF := kF _ _ hCE (by simp)
        have hpF := kF _ _ hpE (by simp)
        walk_at "rd"
        intro pG HG nG hG kG
        rw [cutV_down] at hG
        have hFG := kG _ _ hF (by simp)
        have hpG := kG _ _ hpF (by simp)
        walk_at "rd"
        refine r_cat hFG hG (small (by rw [List.length_append, List.length_take, List.length_append, List.length_take, List.length_take, List.length_drop, List.length_drop, List.length_drop, List.length_append, List.length_take, List.length_drop, lr]; omega)) ?_
        walk_at "rd"
        intro pL HL nL hL kL
        have hpL := kL _ _ hpG (by simp)
        have kl := (((kD.trans kE).trans kF).trans kG).trans kL
        have hWL : HL pL = some (.lst (((((rowT l).take j ++ (rowT l).drop (j + 1)).take o ++ ((rowT l).drop j).take 1) ++ ((rowT l).take j ++ (rowT l).drop (j + 1)).drop o).map V.str)) := by
          simp only [List.map_append, List.map_take, List.map_drop]
          exact hL
        have WW := W.move (j := j) (o := o)
        have RL := RI.keep0 kl
        have k0L := k0I.trans (kl.mono (by simp))
        walk_at "rd"
        intro p1 G1 m1 a1 t1
        rw [cutV_up] at a1
        have hW1 := t1 _ _ hWL (by simp)
        have hq1 := t1 _ _ hpL (by simp)
        walk_at "rd"
        refine r_join (.inl (SqL.of hW1)) (words_size WW l1) ?_
        walk_at "rd"
        intro p2 G2 m2 a2 t2
        have a12 := t2 _ _ a1 (by simp)
        have hq2 := t2 _ _ hq1 (by simp)
        walk_at "rd"
        refine r_cat a12 a2 (small (by rw [List.length_take, lw]; simp; omega)) ?_
        walk_at "rd"
        intro p3 G3 m3 a3 t3
        have hq3 := t3 _ _ hq2 (by simp)
        walk_at "rd"
        intro p4 G4 m4 a4 t4
        rw [show (k : Int) + 1 = ((k + 1 : Nat) : Int) from rfl, cutV_down] at a4
        have a34 := t4 _ _ a3 (by simp)
        walk_at "rd"
        refine r_cat a34 a4 (small (by rw [List.length_append, List.length_take, List.length_drop, lw]; simp; omega)) ?_
        walk_at "rd"
        intro p5 G5 m5 a5 t5
        walk_at "rd"
        have tt := (((t1.trans t2).trans t3).trans t4).trans t5
        exact word_end hM l1 N1 hk WW a5 fun hMM => q _ G5 hMM (k0L.trans (tt.mono (by simp))) (RL.keep0 tt)
      · walk_at "rd"
        intro pA HA nA hA kA
        rw [cutV_up] at hA
        have hwA := kA _ _ hw8 (by simp)
        have hpA := kA _ _ hp8 (by simp)
        have hoA := kA _ _ ho (by simp)
        walk_at "rd"
        have RA := R8.keep0 kA
        have k0A := k08.trans (kA.mono (by simp))
        refine ask ⟨r, 18, rfl, by omega, by omega, RA, fun o1 HI o0 o9 kI RI => ?_⟩
        obtain ⟨o, rfl⟩ : ∃ o : Nat, o1 = (o : Int) := ⟨o1.toNat, by omega⟩
        obtain ⟨z, ez, z1, z2⟩ := odd_ok o (by omega)
        have hAI := kI _ _ hA (ne_row R8 nA)
        have hpI := kI _ _ hpA pr
        have hwI := kI _ _ hwA (ne_row R5 nw)
        have hoI := kI _ _ hoA (ne_row R7 no)
        have eo := atI_nat ez
        have k0I := k0A.trans kI
        walk_at "rd"
        intro pB HB nB hB kB
        have hAB := kB _ _ hAI (by simp)
        have hpB := kB _ _ hpI (by simp)
        have hwB := kB _ _ hwI (by simp)
        walk_at "rd"
        refine r_cat hAB hB (small (by rw [List.length_take, lr]; simp; omega)) ?_
        walk_at "rd"
        intro pC HC nC hC kC
        have hpC := kC _ _ hpB (by simp)
        have hwC := kC _ _ hwB (by simp)
        walk_at "rd"
        intro pD HD nD hD kD
        rw [show (j : Int) + 1 = ((j + 1 : Nat) : Int) from rfl, cutV_down] at hD
        have hCD := kD _ _ hC (by simp)
        have hpD := kD _ _ hpC (by simp)
        walk_at "rd"
        refine r_cat hCD hD (small (by rw [List.length_append, List.length_take, List.length_drop, lr]; simp; omega)) ?_
        walk_at "rd"
        intro pL HL nL hL kL
        have hpL := kL _ _ hpD (by simp)
        have kl := ((kB.trans kC).trans kD).trans kL
        have hWL : HL pL = some (.lst (((rowT l).take j ++ [z] ++ (rowT l).drop (j + 1)).map V.str)) := by
          simp only [List.map_append, List.map_take, List.map_drop]
          exact hL
        have WW := W.put (j := j) z1 z2
        have RL := RI.keep0 kl
        have k0L := k0I.trans (kl.mono (by simp))
        walk_at "rd"
        intro p1 G1 m1 a1 t1
        rw [cutV_up] at a1
        have hW1 := t1 _ _ hWL (by simp)
        have hq1 := t1 _ _ hpL (by simp)
        walk_at "rd"
        refine r_join (.inl (SqL.of hW1)) (words_size WW l1) ?_
        walk_at "rd"
        intro p2 G2 m2 a2 t2
        have a12 := t2 _ _ a1 (by simp)
        have hq2 := t2 _ _ hq1 (by simp)
        walk_at "rd"
        refine r_cat a12 a2 (small (by rw [List.length_take, lw]; simp; omega)) ?_
        walk_at "rd"
        intro p3 G3 m3 a3 t3
        have hq3 := t3 _ _ hq2 (by simp)
        walk_at "rd"
        intro p4 G4 m4 a4 t4
        rw [show (k : Int) + 1 = ((k + 1 : Nat) : Int) from rfl, cutV_down] at a4
        have a34 := t4 _ _ a3 (by simp)
        walk_at "rd"
        refine r_cat a34 a4 (small (by rw [List.length_append, List.length_take, List.length_drop, lw]; simp; omega)) ?_
        walk_at "rd"
        intro p5 G5 m5 a5 t5
        walk_at "rd"
        have tt := (((t1.trans t2).trans t3).trans t4).trans t5
        exact word_end hM l1 N1 hk WW a5 fun hMM => q _ G5 hMM (k0L.trans (tt.mono (by simp))) (RL.keep0 tt)
      · walk_at "rd"
        intro pA HA nA hA kA
        rw [cutV_up] at hA
        have hwA := kA _ _ hw8 (by simp)
        have hpA := kA _ _ hp8 (by simp)
        have hoA := kA _ _ ho (by simp)
        walk_at "rd"
        have RA := R8.keep0 kA
        have k0A := k08.trans (kA.mono (by simp))
        refine ask ⟨r, 18, rfl, by omega, by omega, RA, fun o1 HI o0 o9 kI RI => ?_⟩
        obtain ⟨o, rfl⟩ : ∃ o : Nat, o1 = (o : Int) := ⟨o1.toNat, by omega⟩
        obtain ⟨z, ez, z1, z2⟩ := odd_ok o (by omega)
        have hAI := kI _ _ hA (ne_row R8 nA)
        have hpI := kI _ _ hpA pr
        have hwI := kI _ _ hwA (ne_row R5 nw)
        have hoI := kI _ _ hoA (ne_row R7 no)
        have eo := atI_nat ez
        have k0I := k0A.trans kI
        walk_at "rd"
        intro pB HB nB hB kB
        have hAB := kB _ _ hAI (by simp)
        have hpB := kB _ _ hpI (by simp)
        have hwB := kB _ _ hwI (by simp)
        walk_at "rd"
        refine r_cat hAB hB (small (by rw [List.length_take, lr]; simp; omega)) ?_
        walk_at "rd"
        intro pC HC nC hC kC
        have hpC := kC _ _ hpB (by simp)
        have hwC := kC _ _ hwB (by simp)
        walk_at "rd"
        intro pD HD nD hD kD
        rw [show (j : Int) + 1 = ((j + 1 : Nat) : Int) from rfl, cutV_down] at hD
        have hCD := kD _ _ hC (by simp)
        have hpD := kD _ _ hpC (by simp)
        walk_at "rd"
        refine r_cat hCD hD (small (by rw [List.length_append, List.length_take, List.length_drop, lr]; simp; omega)) ?_
        walk_at "rd"
        intro pL HL nL hL kL
        have hpL := kL _ _ hpD (by simp)
        have kl := ((kB.trans kC).trans kD).trans kL
        have hWL : HL pL = some (.lst (((rowT l).take j ++ [z] ++ (rowT l).drop (j + 1)).map V.str)) := by
          simp only [List.map_append, List.map_take, List.map_drop]
          exact hL
        have WW := W.put (j := j) z1 z2
        have RL := RI.keep0 kl
        have k0L := k0I.trans (kl.mono (by simp))
        walk_at "rd"
        intro p1 G1 m1 a1 t1
        rw [cutV_up] at a1
        have hW1 := t1 _ _ hWL (by simp)
        have hq1 := t1 _ _ hpL (by simp)
        walk_at "rd"
        refine r_join (.inl (SqL.of hW1)) (words_size WW l1) ?_
        walk_at "rd"
        intro p2 G2 m2 a2 t2
        have a12 := t2 _ _ a1 (by simp)
        have hq2 := t2 _ _ hq1 (by simp)
        walk_at "rd"
        refine r_cat a12 a2 (small (by rw [List.length_take, lw]; simp; omega)) ?_
        walk_at "rd"
        intro p3 G3 m3 a3 t3
        have hq3 := t3 _ _ hq2 (by simp)
        walk_at "rd"
        intro p4 G4 m4 a4 t4
        rw [show (k : Int) + 1 = ((k + 1 : Nat) : Int) from rfl, cutV_down] at a4
        have a34 := t4 _ _ a3 (by simp)
        walk_at "rd"
        refine r_cat a34 a4 (small (by rw [List.length_append, List.length_take, List.length_drop, lw]; simp; omega)) ?_
        walk_at "rd"
        intro p5 G5 m5 a5 t5
        walk_at "rd"
        have tt := (((t1.trans t2).trans t3).trans t4).trans t5
        exact word_end hM l1 N1 hk WW a5 fun hMM => q _ G5 hMM (k0L.trans (tt.mono (by simp))) (RL.keep0 tt)
      · walk_at "rd"
        intro pA HA nA hA kA
        rw [cutV_up] at hA
        have hwA := kA _ _ hw8 (by simp)
        have hpA := kA _ _ hp8 (by simp)
        have hoA := kA _ _ ho (by simp)
        walk_at "rd"
        have RA := R8.keep0 kA
        have k0A := k08.trans (kA.mono (by simp))
        refine ask ⟨r, 18, rfl, by omega, by omega, RA, fun o1 HI o0 o9 kI RI => ?_⟩
        obtain ⟨o, rfl⟩ : ∃ o : Nat, o1 = (o : Int) := ⟨o1.toNat, by omega⟩
        obtain ⟨z, ez, z1, z2⟩ := odd_ok o (by omega)
        have hAI := kI _ _ hA (ne_row R8 nA)
        have hpI := kI _ _ hpA pr
        have hwI := kI _ _ hwA (ne_row R5 nw)
        have hoI := kI _ _ hoA (ne_row R7 no)
        have eo := atI_nat ez
        have k0I := k0A.trans kI
        walk_at "rd"
        intro pB HB nB hB kB
        have hAB := kB _ _ hAI (by simp)
        have hpB := kB _ _ hpI (by simp)
        have hwB := kB _ _ hwI (by simp)
        walk_at "rd"
        refine r_cat hAB hB (small (by rw [List.length_take, lr]; simp; omega)) ?_
        walk_at "rd"
        intro pC HC nC hC kC
        have hpC := kC _ _ hpB (by simp)
        have hwC := kC _ _ hwB (by simp)
        walk_at "rd"
        intro pD HD nD hD kD
        rw [show (j : Int) + 1 = ((j + 1 : Nat) : Int) from rfl, cutV_down] at hD
        have hCD := kD _ _ hC (by simp)
        have hpD := kD _ _ hpC (by simp)
        walk_at "rd"
        refine r_cat hCD hD (small (by rw [List.length_append, List.length_take, List.length_drop, lr]; simp; omega)) ?_
        walk_at "rd"
        intro pL HL nL hL kL
        have hpL := kL _ _ hpD (by simp)
        have kl := ((kB.trans kC).trans kD).trans kL
        have hWL : HL pL = some (.lst (((rowT l).take j ++ [z] ++ (rowT l).drop (j + 1)).map V.str)) := by
          simp only [List.map_append, List.map_take, List.map_drop]
          exact hL
        have WW := W.put (j := j) z1 z2
        have RL := RI.keep0 kl
        have k0L := k0I.trans (kl.mono (by simp))
        walk_at "rd"
        intro p1 G1 m1 a1 t1
        rw [cutV_up] at a1
        have hW1 := t1 _ _ hWL (by simp)
        have hq1 := t1 _ _ hpL (by simp)
        walk_at "rd"
        refine r_join (.inl (SqL.of hW1)) (words_size WW l1) ?_
        walk_at "rd"
        intro p2 G2 m2 a2 t2
        have a12 := t2 _ _ a1 (by simp)
        have hq2 := t2 _ _ hq1 (by simp)
        walk_at "rd"
        refine r_cat a12 a2 (small (by rw [List.length_take, lw]; simp; omega)) ?_
        walk_at "rd"
        intro p3 G3 m3 a3 t3
        have hq3 := t3 _ _ hq2 (by simp)
        walk_at "rd"
        intro p4 G4 m4 a4 t4
        rw [show (k : Int) + 1 = ((k + 1 : Nat) : Int) from rfl, cutV_down] at a4
        have a34 := t4 _ _ a3 (by simp)
        walk_at "rd"
        refine r_cat a34 a4 (small (by rw [List.length_append, List.length_take, List.length_drop, lw]; simp; omega)) ?_
        walk_at "rd"
        intro p5 G5 m5 a5 t5
        walk_at "rd"
        have tt := (((t1.trans t2).trans t3).trans t4).trans t5
        exact word_end hM l1 N1 hk WW a5 fun hMM => q _ G5 hMM (k0L.trans (tt.mono (by simp))) (RL.keep0 tt)
end
end
section
section
variable {P : Program} {w : World} {K : PySem.W.Frag} {mg : Str → Option Value} {base : Heap}
noncomputable def vws (ws : List Str) : List V := ws.map V.str
theorem vws_len {ws : List Str} : (vws ws).length = ws.length := List.length_map _
theorem vws_app {a b : List Str} : vws (a ++ b) = vws a ++ vws b := List.map_append
theorem wB_4 {d : Nat} (h : d ≤ 4) : wB d ≤ 47 := by
  match d, h with
  | 0, _ => decide
  | 1, _ => decide
  | 2, _ => decide
  | 3, _ => decide
  | 4, _ => decide
theorem th_w47 {p o d : Nat} {t : Th} (ok : Th.ok p o d t) (h : d ≤ 4) : t.words.length ≤ 47 := Nat.le_trans (th_words ok) (wB_4 h)
theorem ths_w {p o d : Nat} (h4 : d ≤ 4) : ∀ {ts : List Th}, (∀ t ∈ ts, Th.ok p o d t) → (wordsOf ts).length ≤ 47 * ts.length
  | [], _ => Nat.le_refl _
  | t :: ts, h => by
    have a := th_w47 (h t List.mem_cons_self) h4
    have b := ths_w h4 (ts := ts) fun u hu => h u (List.mem_cons_of_mem _ hu)
    show (t.words ++ wordsOf ts).length ≤ 47 * (ts.length + 1)
    rw [List.length_append]
    omega
end
end
section
section
variable {P : Program} {w : World} {K : PySem.W.Frag} {mg : Str → Option Value} {base : Heap}
theorem St.ok_ite2 {sh : List (Nat × Nat)} {i d : Nat} {t : Th} {a b : Sts} (h : St.ok sh i d (.ite t a b)) : ∃ e, d = e + 1 ∧ Th.ok (sh.getD i (0, 0)).1 (sh.getD i (0, 0)).2 4 t ∧ Sts.ok sh i e a ∧ Sts.ok sh i e b := by
  cases d with
  | zero => unfold St.ok at h; exact h.elim
  | succ e => unfold St.ok at h; exact ⟨e, rfl, h.1, h.2.1, h.2.2⟩
theorem St.ok_call2 {sh : List (Nat × Nat)} {i d k : Nat} {ts : List Th} (h : St.ok sh i d (.call k ts)) : k < sh.length ∧ ts.length = (sh.getD k (0, 0)).1 ∧ ∀ t ∈ ts, Th.ok (sh.getD i (0, 0)).1 (sh.getD i (0, 0)).2 4 t := by
  cases d <;> (unfold St.ok at h; exact h.2)
theorem St.ok_say2 {sh : List (Nat × Nat)} {i d : Nat} {t : Th} (h : St.ok sh i d (.say t)) : Th.ok (sh.getD i (0, 0)).1 (sh.getD i (0, 0)).2 4 t := by
  cases d <;> (unfold St.ok at h; exact h)
theorem St.ok_set2 {sh : List (Nat × Nat)} {i d : Nat} {p t : Th} (h : St.ok sh i d (.set p t)) : Th.ok (sh.getD i (0, 0)).1 (sh.getD i (0, 0)).2 4 p ∧ Th.ok (sh.getD i (0, 0)).1 (sh.getD i (0, 0)).2 4 t := by
  cases d <;> (unfold St.ok at h; exact h.2)
theorem cat_new {p q : Addr} {xs ys : List V} {H : Hp} {Q : VK} (h : H p = some (.lst xs)) (h2 : H q = some (.lst ys)) (z : xs.length + ys.length ≤ 100000) (hq : ∀ a H1, H a = none → H1 a = some (.lst (xs ++ ys)) → Keep [] H H1 → Q (.ref a) H1) : rCat (.ref p) (.ref q) H Q :=
  r_cat h h2 (Nat.le_trans z (small (by omega))) ⟨Nat.zero_le _, fun a ha => hq a _ ha upd_same (Keep.new ha)⟩
end
end
section
section
variable {P : Program} {w : World} {K : PySem.W.Frag} {mg : Str → Option Value} {base : Heap}
theorem good_sm {PP : List Wk} {mm : Nat} (gd : Good PP mm) : Sm (shapes PP) := by
  have at_ : ∀ j, (∃ wk, wk ∈ PP ∧ (shapes PP).getD j (0, 0) = (wk.params, wk.owns)) ∨ (shapes PP).getD j (0, 0) = (0, 0) := fun j => by
    rw [List.getD_eq_getElem?_getD]
    unfold shapes
    rw [List.getElem?_map]
    cases e : PP[j]? with
    | none => exact .inr rfl
    | some wk => exact .inl ⟨wk, List.mem_of_getElem? e, rfl⟩
  refine ⟨fun j => ?_, fun j => ?_, ?_⟩
  · rcases at_ j with ⟨wk, h, e⟩ | e
    · rw [e]; exact gd.params wk h
    · rw [e]; exact Nat.zero_le _
  · rcases at_ j with ⟨wk, h, e⟩ | e
    · rw [e]; have := gd.owns wk h; show wk.owns < 100; omega
    · rw [e]; decide
  · have := gd.few
    unfold shapes
    rw [List.length_map]
    omega
theorem good_lines {PP : List Wk} {mm : Nat} (gd : Good PP mm) (m1 : mm ≤ 100) : ∀ wk ∈ PP, wk.words.length ≤ 15002 ∧ ∀ x ∈ wk.words, Neat x := fun wk hw => by
  obtain ⟨i, hi⟩ := List.mem_iff_getElem?.mp hw
  have sm := good_sm gd
  have ok := gd.body i wk hi
  have := gd.params wk hw
  have := gd.owns wk hw
  exact ⟨wk_words sm ok (Nat.le_trans (gd.many wk hw) m1), wk_neat (by omega) (by omega) (sts_low sm ok)⟩
theorem text_fits {PP : List Wk} {mm : Nat} (gd : Good PP mm) (m1 : mm ≤ 100) : ((PP.map Wk.line).map (·.length)).sum + (PP.map Wk.line).length * 1 ≤ 400000 := by
  have h : ∀ x ∈ PP.map Wk.line, x.length ≤ 80000 := fun x hx => by
    obtain ⟨wk, hw, rfl⟩ := List.mem_map.mp hx
    obtain ⟨a, b⟩ := good_lines gd m1 wk hw
    exact (line_len b a).2
  have a := sum_le h
  have b := gd.few
  rw [List.length_map] at a ⊢
  omega
end
end
section
section
variable {P : Program} {w : World} {K : PySem.W.Frag} {mg : Str → Option Value} {base : Heap}
theorem ent_hit {z : Str} {e : Str × Tok × Addr} {r : List (Str × Tok × Addr)} (h : e.1 = z) : ((e :: r).find? fun e => e.1 == z) = some e := List.find?_cons_of_pos (by rw [h]; exact beq_self_eq_true z)
theorem ent_skip {z : Str} {e : Str × Tok × Addr} {r : List (Str × Tok × Addr)} (h : ¬ e.1 = z) : ((e :: r).find? fun e => e.1 == z) = r.find? fun e => e.1 == z := List.find?_cons_of_neg (by rw [beq_iff_eq]; exact h)
theorem ent_none {z : Str} {l : List (Str × Tok × Addr)} (h : ∀ e ∈ l, ¬ e.1 = z) : (l.find? fun e => e.1 == z) = none := List.find?_eq_none.mpr fun e he => by rw [beq_iff_eq]; exact h e he
theorem takes_none {z : Str} (c0 : ¬ z = "+") (c1 : ¬ z = "cell") (c2 : ¬ z = "own") (c3 : ¬ z = "par") (c4 : ¬ z = "set") (c5 : ¬ z = "say") (c6 : ¬ z = "if") : takesOf z = none := by
  unfold takesOf
  rw [if_neg c0, if_neg c1, if_neg c2, if_neg c3, if_neg c4, if_neg c5, if_neg c6]
theorem ns_find {z : Str} : ∀ {es : List DictEntry} {l : List (Str × Tok × Addr)}, es.map (fun e => (e.key, e.val)) = l.map (fun e => (Value.str e.1 e.2.1, Value.ref e.2.2)) → (es.find? (·.key.isStr z)).map (·.val) = (l.find? fun e => e.1 == z).map (fun e => .ref e.2.2) ∧ es.any (·.refKey) = false
  | [], [], _ => ⟨rfl, rfl⟩
  | [], _ :: _, h => by cases h
  | _ :: _, [], h => by cases h
  | d :: es, e :: l, h => by
    obtain ⟨hs, dk, dv⟩ := d
    obtain ⟨h1, h2⟩ := List.cons.inj h
    obtain ⟨hk, hv⟩ := Prod.mk.inj h1
    have hk : dk = Value.str e.1 e.2.1 := hk
    have hv : dv = Value.ref e.2.2 := hv
    obtain ⟨a, b⟩ := ns_find h2
    rw [hk, hv]
    refine ⟨?_, ?_⟩
    · by_cases c : e.1 = z
      · rw [ent_hit c, List.find?_cons_of_pos (p := fun x : DictEntry => x.key.isStr z) (a := ⟨hs, .str e.1 e.2.1, .ref e.2.2⟩) (show (e.1 == z) = true by rw [c]; exact beq_self_eq_true z)]
        rfl
      · rw [ent_skip c, List.find?_cons_of_neg (p := fun x : DictEntry => x.key.isStr z) (a := ⟨hs, .str e.1 e.2.1, .ref e.2.2⟩) (show ¬ (e.1 == z) = true by rw [beq_iff_eq]; exact c)]
        exact a
    · rw [List.any_cons, b]
      rfl
theorem ns_lit {a : Addr} {z : Str} {es : Array DictEntry} {n : Nat} {l : List (Str × Tok × Addr)} (h : K.lookup a = some ⟨.type "dict", none, .dict es n, #[]⟩) (e : es.toList.map (fun e => (e.key, e.val)) = l.map (fun e => (Value.str e.1 e.2.1, Value.ref e.2.2))) : PySem.W.nsIn K a z = some ((l.find? fun e => e.1 == z).map fun e => .ref e.2.2) := by
  obtain ⟨x, y⟩ := ns_find (z := z) e
  unfold PySem.W.nsIn
  rw [h]
  show (match es.toList.find? (·.key.isStr z) with | some e => some (some e.val) | none => if es.toList.any (·.refKey) then none else some none) = _
  cases f : es.toList.find? (·.key.isStr z) with
  | some d =>
    rw [f] at x
    rw [← x]
    rfl
  | none =>
    rw [f] at x
    rw [← x]
    show (if es.toList.any (·.refKey) = true then none else some none) = _
    rw [y]
    rfl
theorem plain_tup {n : Nat} {ds : List PyData} (h : ds.length ≤ 90000) (g : ∀ e ∈ ds, plain n e) : plain (n + 1) (.tuple ds) := by unfold plain; exact ⟨h, g⟩
theorem plain_str {n : Nat} {z : Str} : plain (n + 1) (.str z) := by unfold plain; trivial
theorem plain_int {n : Nat} {z : Int} : plain (n + 1) (.int z) := by unfold plain; trivial
theorem plain_up : ∀ {n : Nat} {d : PyData}, plain n d → plain (n + 1) d
  | 0, _, h => by unfold plain at h; exact h.elim
  | n + 1, .list ds, h => by
    unfold plain at h ⊢
    exact ⟨h.1, fun e he => plain_up (h.2 e he)⟩
  | n + 1, .tuple ds, h => by
    unfold plain at h ⊢
    exact ⟨h.1, fun e he => plain_up (h.2 e he)⟩
  | n + 1, .dict _, h => by unfold plain at h; exact h.elim
  | n + 1, .none, h => by unfold plain; trivial
  | n + 1, .bool _, h => by unfold plain; trivial
  | n + 1, .int _, h => by unfold plain; trivial
  | n + 1, .str _, h => by unfold plain; trivial
theorem plain_le {n m : Nat} (h : n ≤ m) {d : PyData} (p : plain n d) : plain m d := by
  induction h with
  | refl => exact p
  | step _ ih => exact plain_up ih
theorem all_nil {p : PyData → Prop} : ∀ e ∈ ([] : List PyData), p e := fun _ h => by cases h
theorem all_cons {p : PyData → Prop} {d : PyData} {ds : List PyData} (a : p d) (b : ∀ e ∈ ds, p e) : ∀ e ∈ d :: ds, p e := fun e he => by
  rcases List.mem_cons.mp he with rfl | he
  · exact a
  · exact b e he
end
end
section
section
variable {P : Program} {w : World} {K : PySem.W.Frag} {mg : Str → Option Value} {base : Heap}
noncomputable def KWS : List Str := ["own", "par", "cell", "+", "set", "say", "if", "call", "(", ")", "."]
noncomputable def Kw (w : Str) : Prop := w ∈ KWS ∨ ∃ n, n < 100 ∧ w = nW n
theorem kw_n {n : Nat} (h : n < 100) : Kw (nW n) := .inr ⟨n, h, rfl⟩
theorem th_kw : ∀ {t : Th}, t.low → ∀ w ∈ t.words, Kw w
  | .num n, h, w, hw => by cases List.mem_singleton.mp hw; exact kw_n h
  | .own n, h, w, hw => by
    rcases List.mem_cons.mp hw with rfl | hw
    · exact .inl (by decide +kernel)
    · cases List.mem_singleton.mp hw; exact kw_n h
  | .par n, h, w, hw => by
    rcases List.mem_cons.mp hw with rfl | hw
    · exact .inl (by decide +kernel)
    · cases List.mem_singleton.mp hw; exact kw_n h
  | .cell t, h, w, hw => by
    rcases List.mem_cons.mp hw with rfl | hw
    · exact .inl (by decide +kernel)
    · exact th_kw (t := t) h w hw
  | .sum a b, h, w, hw => by
    rcases List.mem_cons.mp hw with rfl | hw
    · exact .inl (by decide +kernel)
    · rcases List.mem_append.mp hw with hw | hw
      · exact th_kw (t := a) h.1 w hw
      · exact th_kw (t := b) h.2 w hw
theorem ths_kw : ∀ {ts : List Th}, (∀ t ∈ ts, t.low) → ∀ w ∈ wordsOf ts, Kw w
  | [], _, w, hw => by cases hw
  | t :: ts, h, w, hw => by
    rcases List.mem_append.mp (show w ∈ t.words ++ wordsOf ts from hw) with hw | hw
    · exact th_kw (h t List.mem_cons_self) w hw
    · exact ths_kw (fun u hu => h u (List.mem_cons_of_mem _ hu)) w hw
mutual
theorem st_kw : ∀ {s : St}, s.low → ∀ w ∈ s.words, Kw w
  | .set p t, h, w, hw => by
    unfold St.low at h
    unfold St.words at hw
    rcases List.mem_cons.mp hw with rfl | hw
    · exact .inl (by decide +kernel)
    · rcases List.mem_append.mp hw with hw | hw
      · exact th_kw h.1 w hw
      · exact th_kw h.2 w hw
  | .say t, h, w, hw => by
    unfold St.low at h
    unfold St.words at hw
    rcases List.mem_cons.mp hw with rfl | hw
    · exact .inl (by decide +kernel)
    · exact th_kw h w hw
  | .ite t a b, h, w, hw => by
    unfold St.low at h
    unfold St.words at hw
    simp only [List.mem_cons, List.mem_append, List.not_mem_nil, or_false] at hw
    rcases hw with rfl | hw | (((rfl | hw) | (rfl | rfl)) | hw) | rfl
    · exact .inl (by decide +kernel)
    · exact th_kw h.1 w hw
    · exact .inl (by decide +kernel)
    · exact sts_kw h.2.1 w hw
    · exact .inl (by decide +kernel)
    · exact .inl (by decide +kernel)
    · exact sts_kw h.2.2 w hw
    · exact .inl (by decide +kernel)
  | .call c ts, h, w, hw => by
    unfold St.low at h
    unfold St.words at hw
    simp only [List.mem_cons, List.mem_append, List.not_mem_nil, or_false] at hw
    rcases hw with ((rfl | rfl) | hw) | rfl
    · exact .inl (by decide +kernel)
    · exact kw_n h.1
    · exact ths_kw h.2 w hw
    · exact .inl (by decide +kernel)
theorem sts_kw : ∀ {b : Sts}, b.low → ∀ w ∈ b.words, Kw w
  | .nil, h, w, hw => by unfold Sts.words at hw; cases hw
  | .cons s r, h, w, hw => by
    unfold Sts.low at h
    unfold Sts.words at hw
    rcases List.mem_append.mp hw with hw | hw
    · exact st_kw h.1 w hw
    · exact sts_kw h.2 w hw
end
theorem nW_asc : ∀ n, n < 100 → (TL.tl (nW n)).all (fun c => decide (c < 128)) = true := by decide +kernel
theorem kw_asc {w : Str} (h : Kw w) : ∀ c ∈ TL.tl w, c < 128 := fun c hc => by
  have : (TL.tl w).all (fun c => decide (c < 128)) = true := by
    rcases h with h | ⟨n, hn, rfl⟩
    · have al : KWS.all (fun w => (TL.tl w).all (fun c => decide (c < 128))) = true := by decide +kernel
      exact List.all_eq_true.mp al w h
    · exact nW_asc n hn
  exact of_decide_eq_true (List.all_eq_true.mp this c hc)
theorem wk_kw {wk : Wk} (h1 : wk.params < 100) (h2 : wk.owns < 100) (h : wk.body.low) : ∀ w ∈ wk.words, Kw w := fun w hw => by
  unfold Wk.words at hw
  simp only [List.mem_append, List.mem_cons, List.not_mem_nil, or_false] at hw
  rcases hw with (rfl | rfl) | hw
  · exact kw_n h1
  · exact kw_n h2
  · exact sts_kw h w hw
theorem ifs_nil : ifs [] = 0 := rfl
theorem ifs_no {w : Str} {r : List Str} (h : w ≠ "if") : ifs (w :: r) = ifs r := by
  unfold ifs
  rw [List.countP_cons_of_neg (by simpa using h)]
theorem nW_if {n : Nat} (h : n < 100) : nW n ≠ "if" := nW_fig h (fig_no (by decide +kernel))
theorem th_ifs : ∀ {t : Th}, t.low → ifs t.words = 0
  | .num n, h => (ifs_no (nW_if h)).trans ifs_nil
  | .own n, h => (ifs_no (by decide +kernel)).trans ((ifs_no (nW_if h)).trans ifs_nil)
  | .par n, h => (ifs_no (by decide +kernel)).trans ((ifs_no (nW_if h)).trans ifs_nil)
  | .cell t, h => (ifs_no (by decide +kernel)).trans (th_ifs (t := t) h)
  | .sum a b, h => (ifs_no (by decide +kernel)).trans (by rw [ifs_app, th_ifs (t := a) h.1, th_ifs (t := b) h.2])
theorem ths_ifs : ∀ {ts : List Th}, (∀ t ∈ ts, t.low) → ifs (wordsOf ts) = 0
  | [], _ => rfl
  | t :: ts, h => by
    show ifs (t.words ++ wordsOf ts) = 0
    rw [ifs_app, th_ifs (h t List.mem_cons_self), ths_ifs fun u hu => h u (List.mem_cons_of_mem _ hu)]
mutual
theorem st_ifs : ∀ {s : St}, s.low → ifs s.words ≤ s.many
  | .set p t, h => by
    unfold St.low at h
    unfold St.words St.many
    rw [ifs_no (by decide +kernel), ifs_app, th_ifs h.1, th_ifs h.2]
    omega
  | .say t, h => by
    unfold St.low at h
    unfold St.words St.many
    rw [ifs_no (by decide +kernel), th_ifs h]
    omega
  | .ite t a b, h => by
    unfold St.low at h
    have x := sts_ifs (b := a) h.2.1
    have y := sts_ifs (b := b) h.2.2
    unfold St.words St.many
    rw [ifs_cons]
    simp only [ifs_app]
    rw [th_ifs h.1, show ifs opn = 0 by decide +kernel, show ifs mid = 0 by decide +kernel, show ifs cls = 0 by decide +kernel]
    omega
  | .call c ts, h => by
    unfold St.low at h
    unfold St.words St.many
    simp only [ifs_app]
    rw [ths_ifs h.2, ifs_no (by decide +kernel), ifs_no (nW_if h.1), show ifs dot = 0 by decide +kernel, ifs_nil]
    omega
theorem sts_ifs : ∀ {b : Sts}, b.low → ifs b.words ≤ b.many
  | .nil, h => by unfold Sts.words; exact Nat.zero_le _
  | .cons s r, h => by
    unfold Sts.low at h
    have x := st_ifs h.1
    have y := sts_ifs h.2
    unfold Sts.words Sts.many
    rw [ifs_app]
    omega
end
mutual
theorem st_flat {sh : List (Nat × Nat)} {i : Nat} : ∀ {s : St} {d : Nat}, St.ok sh i d s → s.flat 4
  | .set p t, d, h => by
    have h' : p.isPlace = true ∧ Th.ok (sh.getD i (0, 0)).1 (sh.getD i (0, 0)).2 4 p ∧ Th.ok (sh.getD i (0, 0)).1 (sh.getD i (0, 0)).2 4 t := by cases d <;> (unfold St.ok at h; exact h)
    unfold St.flat
    exact ⟨Th.ok_dep h'.2.1, Th.ok_dep h'.2.2⟩
  | .say t, d, h => by
    have h' : Th.ok (sh.getD i (0, 0)).1 (sh.getD i (0, 0)).2 4 t := by cases d <;> (unfold St.ok at h; exact h)
    unfold St.flat
    exact Th.ok_dep h'
  | .ite t a b, 0, h => by unfold St.ok at h; exact h.elim
  | .ite t a b, d + 1, h => by
    unfold St.ok at h
    unfold St.flat
    exact ⟨Th.ok_dep h.1, sts_flat h.2.1, sts_flat h.2.2⟩
  | .call c ts, d, h => by
    have h' : ∀ t ∈ ts, Th.ok (sh.getD i (0, 0)).1 (sh.getD i (0, 0)).2 4 t := by cases d <;> (unfold St.ok at h; exact h.2.2.2)
    unfold St.flat
    exact fun t ht => Th.ok_dep (h' t ht)
theorem sts_flat {sh : List (Nat × Nat)} {i : Nat} : ∀ {b : Sts} {d : Nat}, Sts.ok sh i d b → b.flat 4
  | .nil, d, h => by unfold Sts.flat; trivial
  | .cons s r, d, h => by
    unfold Sts.ok at h
    unfold Sts.flat
    exact ⟨st_flat h.1, sts_flat h.2⟩
end
/-- a text that is drawn -/
theorem drawn_mt {PP : List Wk} (gd : Good PP 8) : Mt 4 8 6010 4 (TL.tl (textP PP)) := by
  have sm := good_sm gd
  have ne : PP ≠ [] := fun z => by have := gd.one; rw [z] at this; simp at this
  have spl := text_split (P := PP) ne fun wk hw => (good_lines gd (by omega) wk hw).2
  have e : cutL 10 (TL.tl (textP PP)) = (PP.map Wk.line).map TL.tl := by
    have := linesT_eq (t := textP PP)
    rw [show linesT (textP PP) = PP.map Wk.line from spl] at this
    have e2 := congrArg (List.map TL.tl) this
    rw [List.map_map (f := ofL), show (TL.tl ∘ ofL) = id from funext fun l => tl_ofL, List.map_id] at e2
    exact e2.symm
  refine ⟨by rw [e, List.length_map, List.length_map]; exact gd.few, fun l hl => ?_⟩
  rw [e] at hl
  obtain ⟨x, hx, rfl⟩ := List.mem_map.mp hl
  obtain ⟨wk, hw, rfl⟩ := List.mem_map.mp hx
  obtain ⟨i, hi⟩ := List.mem_iff_getElem?.mp hw
  have ok := gd.body i wk hi
  have p1 := gd.params wk hw
  have o1 := gd.owns wk hw
  have low := sts_low sm ok
  have many := gd.many wk hw
  obtain ⟨g1, g2⟩ := good_lines gd (by omega) wk hw
  have row : wdL (TL.tl wk.line) = wk.words := by rw [← rowT_eq]; exact line_split g2
  refine ⟨?_, ?_, ?_⟩
  · have a := sum_le (k := 4) fun x hx => (g2 x hx).1
    have b : wk.line.length ≤ (wk.words.map (·.length)).sum + wk.words.length * 1 := join_len
    have c := sts_words sm ok
    have d : wk.words.length = 2 + wk.body.words.length := by unfold Wk.words; rw [List.length_append]; rfl
    rw [tl_len]
    have : 150 * wk.body.many ≤ 150 * 8 := Nat.mul_le_mul_left _ many
    omega
  · have e2 : TL.tl wk.line = TL.joinL [32] (wk.words.map TL.tl) := by
      show TL.tl (Txt.join " " wk.words) = _
      rw [TL.join_eq, TL.tl_join, show TL.tl (" " : Str) = [32] by decide +kernel]
    intro c hc
    rw [e2] at hc
    rcases mem_joinL hc with z | ⟨p, hp, z⟩
    · cases List.mem_singleton.mp z
      decide
    · obtain ⟨v, hv, rfl⟩ := List.mem_map.mp hp
      exact kw_asc (wk_kw (by omega) (by omega) low v hv) c z
  · rw [row]
    refine ⟨.wk (by omega) (by omega) low (sts_flat ok), ?_⟩
    unfold Wk.words
    rw [ifs_app, ifs_no (nW_if (by omega)), ifs_no (nW_if (by omega)), ifs_nil]
    have := sts_ifs low
    omega
/-- a short text -/
theorem small_mt {t : Str} (h : (decide (t.length ≤ 60) && (decide ((cutL 10 (TL.tl t)).length ≤ 8) && (TL.tl t).all (fun c => decide (c < 128)))) = true) : Mt 121 78 48200 8 (TL.tl t) := by
  rw [Bool.and_eq_true, Bool.and_eq_true, decide_eq_true_eq, decide_eq_true_eq] at h
  obtain ⟨h1, h2, h3⟩ := h
  have tl1 : (TL.tl t).length ≤ 60 := by rw [tl_len]; exact h1
  refine ⟨h2, fun l hl => ?_⟩
  have l1 := (cut_count (s := 10) (x := TL.tl t)).2 l hl
  refine ⟨by omega, fun c hc => of_decide_eq_true (List.all_eq_true.mp h3 c (cut_sub hl c hc)), ?_⟩
  have w1 : (wdL l).length ≤ 61 := by
    unfold wdL
    rw [List.length_map]
    have := (cut_count (s := 32) (x := l)).1
    omega
  exact (Mw.small (ws := wdL l)).mono (by omega) (by omega)
end
end
section
section
variable {P : Program} {w : World} {K : PySem.W.Frag} {mg : Str → Option Value} {base : Heap}
/-- a thing, things, a step, steps; how deep -/
inductive PartOf (sh : List (Nat × Nat)) (i : Nat) : Nat → PyData → List Str → Prop
  | th {t : Th} {e : Nat} (ok : Th.ok (sh.getD i (0, 0)).1 (sh.getD i (0, 0)).2 e t) (h : e ≤ 4) : PartOf sh i (e + 1) t.enc t.words
  | ths {ts : List Th} {e : Nat} (ok : ∀ t ∈ ts, Th.ok (sh.getD i (0, 0)).1 (sh.getD i (0, 0)).2 e t) (h : e ≤ 4) (l : ts.length ≤ 3) : PartOf sh i (e + 2) (.tuple (ts.map Th.enc)) (wordsOf ts)
  | st {s : St} {d : Nat} (ok : St.ok sh i d s) (h : s.many ≤ 100) (h2 : d ≤ 2) : PartOf sh i (7 + 2 * d) s.enc s.words
  | sts {b : Sts} {d : Nat} (ok : Sts.ok sh i d b) (h : b.many ≤ 100) (h2 : d ≤ 2) : PartOf sh i (8 + 2 * d) (.tuple b.encs) b.words
noncomputable def spLawWords (K : PySem.W.Frag) (n : Nat) : Sp := fun vs H Q _ => ∃ (v : V) (sh : List (Nat × Nat)) (i r : Nat) (d : PyData) (ws : List Str), vs = [v] ∧ Rp K H v d ∧ PartOf sh i r d ws ∧ Sm sh ∧ r ≤ n ∧ ∀ (a : Addr) (H' : Hp), Keep [] H H' → H a = none → H' a = some (.lst (vws ws)) → Q (.ref a) H'
/-- the first look: whether it is empty, or of tuples -/
noncomputable abbrev lookT (K : PySem.W.Frag) : TT := tOr (tTest (tOp (rEqD K) (tVar 0) (tTup tNil))) (tB (tCB (rIsi K) (tCons (tOp (rIxT K) (tVar 0) (tC (V.int 0))) (tCons (tC (V.ty "tuple")) tNil))))
theorem r_enter {a : Addr} {x : Str} {r : List V} {d : PyData} {H : Hp} {σ : L2.St} {QT : Bool → Hp → Prop} (hσ : σ[0]? = some (some (.ref a))) (hS : SqT K H a (.str x :: r)) (hd : Rp K H (.ref a) d) (nd : neat 63 d) (ne : PyData.eqv d (.tuple []) = false) (q : ∀ H1, Keep [] H H1 → QT false H1) : lookT K σ H QT := by
  have a0 : atI (V.str x :: r) 0 = some (.str x) := at0
  refine r_or ?_
  refine r_test (r_op (r_var hσ ?_))
  walk_at "rd"
  intro b0 H1 nb0 hb0 k1
  have hS1 := (keep_ts0 k1).sqT hS
  refine ⟨d, .tuple [], (hd.ts (keep_ts0 k1)).dp, .tup (SqT.of hb0) .nil, neat_shaped nd (by omega), by decide, ?_⟩
  rw [ne]
  walk_at "rd"
  refine r_var hσ ?_
  walk_at "rd"
  exact q H1 k1
theorem r_enterT {a : Addr} {xs : List V} {ds : List PyData} {H : Hp} {σ : L2.St} {QT : Bool → Hp → Prop} (hσ : σ[0]? = some (some (.ref a))) (hS : SqT K H a xs) (hx : Rps K H xs ds) (nd : neat 63 (.tuple ds)) (first : ∀ v, xs[0]? = some v → ∃ b ys, v = .ref b ∧ SqT K H b ys) (q : ∀ H1, Keep [] H H1 → QT true H1) : lookT K σ H QT := by
  refine r_or ?_
  refine r_test (r_op (r_var hσ ?_))
  walk_at "rd"
  intro b0 H1 nb0 hb0 k1
  have hS1 := (keep_ts0 k1).sqT hS
  have hd1 : Rp K H1 (.ref a) (.tuple ds) := .tup hS1 (hx.ts (keep_ts0 k1))
  refine ⟨.tuple ds, .tuple [], hd1.dp, .tup (SqT.of hb0) .nil, neat_shaped nd (by omega), by decide, ?_⟩
  cases xs with
  | nil =>
    cases hx
    walk_at "rd"
    exact q H1 k1
  | cons v xs =>
    obtain ⟨d0, ds0, rfl⟩ : ∃ d0 ds0, ds = d0 :: ds0 := by cases hx; exact ⟨_, _, rfl⟩
    rw [show PyData.eqv (.tuple (d0 :: ds0)) (.tuple []) = false from rfl]
    obtain ⟨b, ys, rfl, sb⟩ := first v rfl
    have a0 : atI (V.ref b :: xs) 0 = some (.ref b) := at0
    have sb1 := (keep_ts0 k1).sqT sb
    walk_at "rd"
    refine r_var hσ ?_
    walk_at "rd"
    exact q H1 k1
noncomputable def sList : Sts → List St
  | .nil => []
  | .cons s r => s :: sList r
theorem sList_encs : ∀ {b : Sts}, (sList b).map St.enc = b.encs
  | .nil => rfl
  | .cons s r => by
    show s.enc :: (sList r).map St.enc = s.enc :: r.encs
    rw [sList_encs]
theorem sList_words : ∀ {b : Sts}, ((sList b).map St.words).flatten = b.words
  | .nil => by unfold Sts.words; rfl
  | .cons s r => by
    unfold Sts.words
    show s.words ++ ((sList r).map St.words).flatten = _
    rw [sList_words]
theorem sList_ok {sh : List (Nat × Nat)} {i d : Nat} : ∀ {b : Sts} {s : St}, Sts.ok sh i d b → s ∈ sList b → St.ok sh i d s ∧ s.many ≤ b.many
  | .nil, s, _, h => by cases h
  | .cons t r, s, ok, h => by
    unfold Sts.ok at ok
    have e : (Sts.cons t r).many = t.many + r.many := rfl
    rcases List.mem_cons.mp h with rfl | h
    · exact ⟨ok.1, by omega⟩
    · obtain ⟨a, b⟩ := sList_ok ok.2 h
      exact ⟨a, by omega⟩
noncomputable abbrev wsOf (ps : List (PyData × List Str × Nat)) : List Str := (ps.map (·.2.1)).flatten
theorem wsOf_take {ps : List (PyData × List Str × Nat)} {j : Nat} {z : PyData × List Str × Nat} (h : ps[j]? = some z) : wsOf (ps.take (j + 1)) = wsOf (ps.take j) ++ z.2.1 := by
  unfold wsOf
  rw [List.take_succ, h, List.map_append, List.flatten_append]
  show _ ++ (z.2.1 ++ []) = _
  rw [List.append_nil]
theorem wsOf_len {ps : List (PyData × List Str × Nat)} (j : Nat) : (wsOf (ps.take j)).length ≤ (wsOf ps).length := by
  have e : wsOf ps = wsOf (ps.take j) ++ wsOf (ps.drop j) := by
    unfold wsOf
    rw [← List.flatten_append, ← List.map_append, List.take_append_drop]
  rw [e, List.length_append]
  omega
theorem forWords {n : Nat} {sh : List (Nat × Nat)} {i : Nat} (sm : Sm sh) {a c b : Addr} {xs : List V} {ps : List (PyData × List Str × Nat)} {pre : List Str} {x2 : Option V} {H : Hp} {D : Ends} (hS : SqT K H c xs) (hx : Rps K H xs (ps.map (·.1))) (hp : ∀ z ∈ ps, PartOf sh i z.2.2 z.1 z.2.1 ∧ z.2.2 ≤ n)
    (sz : pre.length + (wsOf ps).length ≤ 50000) (hb : H b = some (.lst (vws pre))) (hd : ∀ (b' : Addr) (x2' : Option V) H', Keep [] H H' → (b' = b ∨ H b' = none) → H' b' = some (.lst (vws (pre ++ wsOf ps))) → D.nx [some (.ref a), some (.ref b'), x2'] H') :
    ForIt (Itt K c) (gName 2) (tAsg (tOp rCat (tVar 1) (tCall (spLawWords K n) [] E0 (tCons (tVar 2) tNil))) (gName 1)) D [some (.ref a), some (.ref b), x2] H := by
  have lx : xs.length = ps.length := by rw [hx.length, List.length_map]
  refine forT (xs := xs) (fun j σ H' => ∃ (b' : Addr) (x2' : Option V), σ = [some (.ref a), some (.ref b'), x2'] ∧ Keep [] H H' ∧ (b' = b ∨ H b' = none) ∧ H' b' = some (.lst (vws (pre ++ wsOf (ps.take j))))) ⟨b, _, rfl, Keep.refl, .inl rfl, by rw [List.take_zero]; show H b = some (HO.lst (vws (pre ++ []))); rw [List.append_nil]; exact hb⟩ (fun j σ H' _ hq => ?_) (fun j x σ H2 hx2 hq => ?_) (fun σ H' hq => ?_)
  · obtain ⟨_, _, rfl, k, _⟩ := hq
    exact (keep_ts0 k).sqT hS
  · obtain ⟨b', x2', rfl, k2, fr, h2⟩ := hq
    have hj : j < ps.length := by rw [← lx]; exact (List.getElem?_eq_some_iff.mp hx2).1
    have ez := List.getElem?_eq_getElem hj
    obtain ⟨dd, ed, rd⟩ := hx.get' hx2
    rw [List.getElem?_map, ez] at ed
    cases ed
    obtain ⟨pz, rz⟩ := hp _ (List.getElem_mem hj)
    walk_at "rd"
    refine ask ⟨x, sh, i, ps[j].2.2, ps[j].1, ps[j].2.1, rfl, rd.ts (keep_ts0 k2), pz, sm, rz, fun e H3 k3 ne he => ?_⟩
    have h23 := k3 _ _ h2 (by simp)
    have l1 := wsOf_len (ps := ps) (j + 1)
    rw [wsOf_take ez, List.length_append] at l1
    walk_at "rd"
    refine cat_new h23 he (by rw [vws_len, vws_len, List.length_append]; omega) fun g H4 ng hg k4 => ?_
    walk_at "rd"
    refine ⟨g, _, rfl, (k2.trans k3).trans k4, .inr (free0 (k2.trans k3) ng), ?_⟩
    rw [wsOf_take ez, ← List.append_assoc, vws_app]
    exact hg
  · obtain ⟨b', x2', rfl, k2, fr, h2⟩ := hq
    rw [List.take_of_length_le (by omega)] at h2
    exact hd b' x2' H' k2 fr h2
noncomputable abbrev sL_words : Stmt := top 52
noncomputable abbrev nL_words : List Str := ["_law_part", "_law_found", "_law_one"]
noncomputable abbrev pL_words : List Str := ["_law_part"]
theorem scL_words : FnScope nL_words pL_words (defScope sL_words) := ⟨rfl, rfl, rfl, by decide +kernel, rfl, by decide +kernel, by decide +kernel⟩
theorem okLawWords (D : DefAt K mg "_law_words" sL_words pL_words) (T : Blt mg) : ∀ n, Callee P w K mg base "_law_words" (n + 1) pL_words (spLawWords K n)
  | 0 => D.none fun vs H Q E h => by
    obtain ⟨_, _, _, r, _, _, rfl, _, p, _, z, _⟩ := h
    cases p <;> omega
  | n + 1 => by
    have C_law_words := okLawWords D T n
    refine D.ok scL_words (fun vs H Q E h => ?_) (fun f cdv A outer s H vs Q E hr h => ?_)
    · obtain ⟨v, sh, i, r, d, ws, rfl, _⟩ := h
      rfl
    obtain ⟨v, sh, i, r, d, ws, rfl, hv, part, sm, rn, q⟩ := h
    refine ⟨_, (pss_cons (ps_if (PW.pt (pw_or (pt_cmpR (opEqD (K := K) hr.units) (pv 0) (pe_tup pa_nil) (nomark _)) (pw_or1 (pt_val (pe_callB (cIsi (K := K)) (by rfl) T.isinstance (by decide +kernel) (pa_cons (pe_ix (ixT (K := K)) (pv 0) pe_int (fun _ _ => rfl)) (pa_cons (pe_bltn rfl T.tuple (by decide +kernel) (v := .ty "tuple") rfl) pa_nil))))))) (pss_cons (ps_set (i := 1) scL_words.nd rfl (Or.inl rfl) (pe_lst pa_nil))
  (pss_cons (ps_for PassesOwn.never rfl (piTup (K := K) (pv 0)) (pg_name (i := 2) scL_words.nd rfl (Or.inl rfl))
   (pss_one (ps_set (i := 1) scL_words.nd rfl (Or.inl rfl) (pe_op op_cat (pv 1) (pcall C_law_words (hr.mono (by first | exact Nat.le_of_ble_eq_true rfl | omega)) rfl (pa_cons (pv 2) pa_nil))))))
  (pss_one (ps_ret (pv 1))))) pss_nil)
  (pss_cons (ps_if (pt_cmpR op_eq (pe_ix (ixT (K := K)) (pv 0) pe_int (fun _ _ => rfl)) pe_str (nomark _)) (pss_one (ps_ret (pe_lst (pa_cons (pe_callTy cStr (by rfl) T.str (by decide +kernel) (pa_cons (pe_ix (ixT (K := K)) (pv 0) pe_int (fun _ _ => rfl)) pa_nil)) pa_nil)))) pss_nil)
  (pss_cons (ps_if (pt_cmpR (opIn (K := K)) (pe_ix (ixT (K := K)) (pv 0) pe_int (fun _ _ => rfl)) (pe_tup (pa_cons pe_str (pa_cons pe_str pa_nil))) (by with_unfolding_all rfl)) (pss_one (ps_ret (pe_lst (pa_cons (pe_ix (ixT (K := K)) (pv 0) pe_int (fun _ _ => rfl)) (pa_cons (pe_callTy cStr (by rfl) T.str (by decide +kernel) (pa_cons (pe_ix (ixT (K := K)) (pv 0) pe_int (fun _ _ => rfl)) pa_nil)) pa_nil))))) pss_nil)
  (pss_cons (ps_if (pt_cmpR op_eq (pe_ix (ixT (K := K)) (pv 0) pe_int (fun _ _ => rfl)) pe_str (nomark _)) (pss_one (ps_ret (pe_op op_cat (pe_op op_cat (pe_lst (pa_cons pe_str (pa_cons (pe_callTy cStr (by rfl) T.str (by decide +kernel) (pa_cons (pe_ix (ixT (K := K)) (pv 0) pe_int (fun _ _ => rfl)) pa_nil)) pa_nil))) (pcall C_law_words (hr.mono (by first | exact Nat.le_of_ble_eq_true rfl | omega)) rfl (pa_cons (pe_ix (ixT (K := K)) (pv 0) pe_int (fun _ _ => rfl)) pa_nil))) (pe_lst (pa_cons pe_str pa_nil))))) pss_nil)
  (pss_cons (ps_if (pt_cmpR op_eq (pe_ix (ixT (K := K)) (pv 0) pe_int (fun _ _ => rfl)) pe_str (nomark _)) (pss_cons (ps_set (i := 1) scL_words.nd rfl (Or.inl rfl) (pe_op op_cat (pe_lst (pa_cons pe_str pa_nil)) (pcall C_law_words (hr.mono (by first | exact Nat.le_of_ble_eq_true rfl | omega)) rfl (pa_cons (pe_ix (ixT (K := K)) (pv 0) pe_int (fun _ _ => rfl)) pa_nil))))
  (pss_one (ps_ret (pe_op op_cat (pe_op op_cat (pe_op op_cat (pe_op op_cat (pe_op op_cat (pv 1) (pe_lst (pa_cons pe_str pa_nil))) (pcall C_law_words (hr.mono (by first | exact Nat.le_of_ble_eq_true rfl | omega)) rfl (pa_cons (pe_ix (ixT (K := K)) (pv 0) pe_int (fun _ _ => rfl)) pa_nil))) (pe_lst (pa_cons pe_str (pa_cons pe_str pa_nil)))) (pcall C_law_words (hr.mono (by first | exact Nat.le_of_ble_eq_true rfl | omega)) rfl (pa_cons (pe_ix (ixT (K := K)) (pv 0) pe_int (fun _ _ => rfl)) pa_nil))) (pe_lst (pa_cons pe_str pa_nil)))))) pss_nil)
  (pss_cons (ps_set (i := 1) scL_words.nd rfl (Or.inl rfl) (pe_lst (pa_cons (pe_ifExp (pt_cmpR op_eq (pe_ix (ixT (K := K)) (pv 0) pe_int (fun _ _ => rfl)) pe_str (nomark _)) pe_str (pe_ix (ixT (K := K)) (pv 0) pe_int (fun _ _ => rfl))) pa_nil)))
  (pss_cons (ps_for PassesOwn.never rfl (piTup (K := K) (pe_slice (slA (K := K)) (pv 0) (po_some pe_int) po_none)) (pg_name (i := 2) scL_words.nd rfl (Or.inl rfl))
   (pss_one (ps_set (i := 1) scL_words.nd rfl (Or.inl rfl) (pe_op op_cat (pv 1) (pcall C_law_words (hr.mono (by first | exact Nat.le_of_ble_eq_true rfl | omega)) rfl (pa_cons (pv 2) pa_nil))))))
  (pss_one (ps_ret (pv 1)))))))))), ?_⟩
    have p3 := sm.one i
    have o3 := sm.two i
    cases part with
    | th ok h4 =>
      rename_i t e
      have nt : neat 63 t.enc := (neat_th ok).mono (by omega)
      have lw := th_w47 ok h4
      cases t with
      | num k =>
        obtain ⟨a, rfl, hS⟩ := Th.inv_num hv
        have a0 : atI [V.str "num", V.int (k : Int)] 0 = some (.str "num") := at0
        have a1 : atI [V.str "num", V.int (k : Int)] 1 = some (.int (k : Int)) := at1
        have hk : k < 3 := by cases e <;> exact ok
        walk_at "rd"
        refine r_enter rfl hS hv nt rfl fun H1 k1 => ?_
        have hS1 := (keep_ts0 k1).sqT hS
        walk_at "rd"
        intro b H2 nb hb k2
        exact q b H2 (k1.trans k2) (free0 k1 nb) hb
      | own k =>
        obtain ⟨a, rfl, hS⟩ := Th.inv_own hv
        have a0 : atI [V.str "own", V.int (k : Int)] 0 = some (.str "own") := at0
        have a1 : atI [V.str "own", V.int (k : Int)] 1 = some (.int (k : Int)) := at1
        have hk : k < (sh.getD i (0, 0)).2 := by cases e <;> exact ok
        walk_at "rd"
        refine r_enter rfl hS hv nt rfl fun H1 k1 => ?_
        have hS1 := (keep_ts0 k1).sqT hS
        walk_at "rd"
        intro b0 H2 nb0 hb0 k2
        have hS2 := (keep_ts0 k2).sqT hS1
        walk_at "rd"
        intro b H3 nb hb k3
        exact q b H3 ((k1.trans k2).trans k3) (free0 (k1.trans k2) nb) hb
      | par k =>
        obtain ⟨a, rfl, hS⟩ := Th.inv_par hv
        have a0 : atI [V.str "par", V.int (k : Int)] 0 = some (.str "par") := at0
        have a1 : atI [V.str "par", V.int (k : Int)] 1 = some (.int (k : Int)) := at1
        have hk : k < (sh.getD i (0, 0)).1 := by cases e <;> exact ok
        walk_at "rd"
        refine r_enter rfl hS hv nt rfl fun H1 k1 => ?_
        have hS1 := (keep_ts0 k1).sqT hS
        walk_at "rd"
        intro b0 H2 nb0 hb0 k2
        have hS2 := (keep_ts0 k2).sqT hS1
        walk_at "rd"
        intro b H3 nb hb k3
        exact q b H3 ((k1.trans k2).trans k3) (free0 (k1.trans k2) nb) hb
      | cell x =>
        obtain ⟨a, vx, rfl, hS, hx⟩ := Th.inv_cell hv
        have a0 : atI [V.str "cell", vx] 0 = some (.str "cell") := at0
        cases e with
        | zero => exact ok.elim
        | succ e =>
        walk_at "rd"
        refine r_enter rfl hS hv nt rfl fun H1 k1 => ?_
        have hS1 := (keep_ts0 k1).sqT hS
        walk_at "rd"
        intro b0 H2 nb0 hb0 k2
        have hS2 := (keep_ts0 k2).sqT hS1
        walk_at "rd"
        intro b H3 nb hb k3
        have hS3 := (keep_ts0 k3).sqT hS2
        walk_at "rd"
        intro c H4 s4 k4 f4
        rw [cutV_tail] at s4
        have hb4 := k4 _ _ hb (by simp)
        have k14 := ((k1.trans k2).trans k3).trans k4
        walk_at "rd"
        refine forWords (i := i) (pre := ["cell"]) (ps := [(x.enc, x.words, e + 1)]) sm s4 (.cons (hx.ts (keep_ts0 k14)) .nil) (fun z hz => ?_) (by have := th_w47 (t := x) (d := e) ok (by omega); show 1 + (x.words ++ []).length ≤ _; rw [List.append_nil]; omega) hb4 fun b' x2' H5 k5 fr h5 => ?_
        · cases List.mem_singleton.mp hz; exact ⟨.th ok (by omega), by show e + 1 ≤ n; omega⟩
        walk_at "rd"
        have nb' : H b' = none := by
          rcases fr with rfl | fr
          · exact free0 (k1.trans k2) nb
          · exact free0 k14 fr
        refine q b' H5 (k14.trans k5) nb' ?_
        rw [h5]
        show some (HO.lst (vws (_ :: (x.words ++ [])))) = _; rw [List.append_nil]; rfl
      | sum x y =>
        obtain ⟨a, vx, vy, rfl, hS, hx, hy⟩ := Th.inv_sum hv
        have a0 : atI [V.str "sum", vx, vy] 0 = some (.str "sum") := at0
        cases e with
        | zero => exact ok.elim
        | succ e =>
        walk_at "rd"
        refine r_enter rfl hS hv nt rfl fun H1 k1 => ?_
        have hS1 := (keep_ts0 k1).sqT hS
        walk_at "rd"
        intro b0 H2 nb0 hb0 k2
        have hS2 := (keep_ts0 k2).sqT hS1
        walk_at "rd"
        intro b H3 nb hb k3
        have hS3 := (keep_ts0 k3).sqT hS2
        walk_at "rd"
        intro c H4 s4 k4 f4
        rw [cutV_tail] at s4
        have hb4 := k4 _ _ hb (by simp)
        have k14 := ((k1.trans k2).trans k3).trans k4
        walk_at "rd"
        refine forWords (i := i) (pre := ["+"]) (ps := [(x.enc, x.words, e + 1), (y.enc, y.words, e + 1)]) sm s4 (.cons (hx.ts (keep_ts0 k14)) (.cons (hy.ts (keep_ts0 k14)) .nil)) (fun z hz => ?_) (by have := th_w47 (t := x) (d := e) ok.1 (by omega); have := th_w47 (t := y) (d := e) ok.2 (by omega); show 1 + (x.words ++ (y.words ++ [])).length ≤ _; rw [List.append_nil, List.length_append]; omega) hb4 fun b' x2' H5 k5 fr h5 => ?_
        · rcases List.mem_cons.mp hz with rfl | hz
          · exact ⟨.th ok.1 (by omega), by show e + 1 ≤ n; omega⟩
          · cases List.mem_singleton.mp hz
            exact ⟨.th ok.2 (by omega), by show e + 1 ≤ n; omega⟩
        walk_at "rd"
        have nb' : H b' = none := by
          rcases fr with rfl | fr
          · exact free0 (k1.trans k2) nb
          · exact free0 k14 fr
        refine q b' H5 (k14.trans k5) nb' ?_
        rw [h5]
        show some (HO.lst (vws (_ :: (x.words ++ (y.words ++ []))))) = _; rw [List.append_nil]; rfl
    | ths ok h4 l3 =>
      rename_i ts e
      obtain ⟨a, xs, rfl, hS, hx⟩ := hv.tup_inv
      have nt : neat 63 (.tuple (ts.map Th.enc)) := (neat_tup (n := 6) fun d hd => by
        obtain ⟨t, ht, rfl⟩ := List.mem_map.mp hd
        exact (neat_th (ok t ht)).mono (by omega)).mono (by omega)
      have lw := ths_w h4 ok
      walk_at "rd"
      refine r_enterT rfl hS hx nt (fun v hv => ?_) fun H1 k1 => ?_
      · obtain ⟨dd, ed, rd⟩ := hx.get' hv
        obtain ⟨t, ht, rfl⟩ := List.mem_map.mp (List.mem_of_getElem? ed)
        obtain ⟨b, r, rfl, hb⟩ := Th.head rd
        exact ⟨b, _, rfl, hb⟩
      have hS1 := (keep_ts0 k1).sqT hS
      walk_at "rd"
      intro b H2 nb hb k2
      have hS2 := (keep_ts0 k2).sqT hS1
      have k12 := k1.trans k2
      have e1 : (ts.map fun t => (t.enc, t.words, e + 1)).map (·.1) = ts.map Th.enc := by rw [List.map_map]; rfl
      have e2 : wsOf (ts.map fun t => (t.enc, t.words, e + 1)) = wordsOf ts := by unfold wsOf wordsOf; rw [List.map_map]; rfl
      walk_at "rd"
      refine forWords (i := i) (pre := []) (ps := ts.map fun t => (t.enc, t.words, e + 1)) sm hS2 (by rw [e1]; exact hx.ts (keep_ts0 k12)) (fun z hz => ?_) (by rw [e2]; show 0 + _ ≤ _; omega) hb fun b' x2' H5 k5 fr h5 => ?_
      · obtain ⟨t, ht, rfl⟩ := List.mem_map.mp hz
        exact ⟨.th (ok t ht) h4, by show e + 1 ≤ n; omega⟩
      walk_at "rd"
      have nb' : H b' = none := by
        rcases fr with rfl | fr
        · exact free0 k1 nb
        · exact free0 k12 fr
      refine q b' H5 (k12.trans k5) nb' ?_
      rw [h5, e2]
      rfl
    | sts ok h h2 =>
      rename_i b0 d0
      obtain ⟨a, xs, rfl, hS, hx⟩ := hv.tup_inv
      have nt : neat 63 (.tuple b0.encs) := (neat_tup (neat_sts ok)).mono (by omega)
      have lw := sts_words sm ok
      walk_at "rd"
      refine r_enterT rfl hS hx nt (fun v hv => ?_) fun H1 k1 => ?_
      · obtain ⟨dd, ed, rd⟩ := hx.get' hv
        obtain ⟨st, rfl, _⟩ := Sts.drop_get ed
        cases st with
        | set p t => obtain ⟨a, u, x, rfl, hS, hu, hx⟩ := St.inv_set rd; exact ⟨a, _, rfl, hS⟩
        | say t => obtain ⟨a, u, rfl, hS, hu⟩ := St.inv_say rd; exact ⟨a, _, rfl, hS⟩
        | ite t x y => obtain ⟨a, u, v1, v2, rfl, hS, _⟩ := St.inv_ite rd; exact ⟨a, _, rfl, hS⟩
        | call k ts => obtain ⟨a, u, rfl, hS, _⟩ := St.inv_call rd; exact ⟨a, _, rfl, hS⟩
      have hS1 := (keep_ts0 k1).sqT hS
      walk_at "rd"
      intro b H2 nb hb k2
      have hS2 := (keep_ts0 k2).sqT hS1
      have k12 := k1.trans k2
      have e1 : ((sList b0).map fun t => (t.enc, t.words, 7 + 2 * d0)).map (·.1) = b0.encs := by rw [List.map_map]; exact sList_encs
      have e2 : wsOf ((sList b0).map fun t => (t.enc, t.words, 7 + 2 * d0)) = b0.words := by unfold wsOf; rw [List.map_map]; exact sList_words
      walk_at "rd"
      refine forWords (i := i) (pre := []) (ps := (sList b0).map fun t => (t.enc, t.words, 7 + 2 * d0)) sm hS2 (by rw [e1]; exact hx.ts (keep_ts0 k12)) (fun z hz => ?_) (by rw [e2]; show 0 + _ ≤ _; omega) hb fun b' x2' H5 k5 fr h5 => ?_
      · obtain ⟨t, ht, rfl⟩ := List.mem_map.mp hz
        obtain ⟨o1, o2⟩ := sList_ok ok ht
        exact ⟨.st o1 (by omega) h2, by show 7 + 2 * d0 ≤ n; omega⟩
      walk_at "rd"
      have nb' : H b' = none := by
        rcases fr with rfl | fr
        · exact free0 k1 nb
        · exact free0 k12 fr
      refine q b' H5 (k12.trans k5) nb' ?_
      rw [h5, e2]
      rfl
    | st ok h h2 =>
      rename_i s0 d0
      have nt : neat 63 s0.enc := (neat_st ok).mono (by omega)
      have lw := st_words sm ok
      cases s0 with
      | set x y =>
        obtain ⟨a, vx, vy, rfl, hS, hx, hy⟩ := St.inv_set hv
        have a0 : atI [V.str "set", vx, vy] 0 = some (.str "set") := at0
        obtain ⟨o1, o2⟩ := St.ok_set2 ok
        walk_at "rd"
        refine r_enter rfl hS hv nt rfl fun H1 k1 => ?_
        have hS1 := (keep_ts0 k1).sqT hS
        walk_at "rd"
        intro b0 H2 nb0 hb0 k2
        have hS2 := (keep_ts0 k2).sqT hS1
        walk_at "rd"
        intro b H3 nb hb k3
        have hS3 := (keep_ts0 k3).sqT hS2
        walk_at "rd"
        intro c H4 s4 k4 f4
        rw [cutV_tail] at s4
        have hb4 := k4 _ _ hb (by simp)
        have k14 := ((k1.trans k2).trans k3).trans k4
        walk_at "rd"
        refine forWords (i := i) (pre := ["set"]) (ps := [(x.enc, x.words, 5), (y.enc, y.words, 5)]) sm s4 (.cons (hx.ts (keep_ts0 k14)) (.cons (hy.ts (keep_ts0 k14)) .nil)) (fun z hz => ?_) (by have := th_w47 o1 (Nat.le_refl _); have := th_w47 o2 (Nat.le_refl _); show 1 + (x.words ++ (y.words ++ [])).length ≤ _; rw [List.append_nil, List.length_append]; omega) hb4 fun b' x2' H5 k5 fr h5 => ?_
        · rcases List.mem_cons.mp hz with rfl | hz
          · exact ⟨.th o1 (by omega), by show 5 ≤ n; omega⟩
          · cases List.mem_singleton.mp hz
            exact ⟨.th o2 (by omega), by show 5 ≤ n; omega⟩
        walk_at "rd"
        have nb' : H b' = none := by
          rcases fr with rfl | fr
          · exact free0 (k1.trans k2) nb
          · exact free0 k14 fr
        refine q b' H5 (k14.trans k5) nb' ?_
        rw [h5]
        unfold St.words
        show some (HO.lst (vws (_ :: (x.words ++ (y.words ++ []))))) = _; rw [List.append_nil]
      | say x =>
        obtain ⟨a, vx, rfl, hS, hx⟩ := St.inv_say hv
        have a0 : atI [V.str "say", vx] 0 = some (.str "say") := at0
        have o1 := St.ok_say2 ok
        walk_at "rd"
        refine r_enter rfl hS hv nt rfl fun H1 k1 => ?_
        have hS1 := (keep_ts0 k1).sqT hS
        walk_at "rd"
        intro b0 H2 nb0 hb0 k2
        have hS2 := (keep_ts0 k2).sqT hS1
        walk_at "rd"
        intro b H3 nb hb k3
        have hS3 := (keep_ts0 k3).sqT hS2
        walk_at "rd"
        intro c H4 s4 k4 f4
        rw [cutV_tail] at s4
        have hb4 := k4 _ _ hb (by simp)
        have k14 := ((k1.trans k2).trans k3).trans k4
        walk_at "rd"
        refine forWords (i := i) (pre := ["say"]) (ps := [(x.enc, x.words, 5)]) sm s4 (.cons (hx.ts (keep_ts0 k14)) .nil) (fun z hz => ?_) (by have := th_w47 o1 (Nat.le_refl _); show 1 + (x.words ++ []).length ≤ _; rw [List.append_nil]; omega) hb4 fun b' x2' H5 k5 fr h5 => ?_
        · cases List.mem_singleton.mp hz
          exact ⟨.th o1 (by omega), by show 5 ≤ n; omega⟩
        walk_at "rd"
        have nb' : H b' = none := by
          rcases fr with rfl | fr
          · exact free0 (k1.trans k2) nb
          · exact free0 k14 fr
        refine q b' H5 (k14.trans k5) nb' ?_
        rw [h5]
        unfold St.words
        show some (HO.lst (vws (_ :: (x.words ++ [])))) = _; rw [List.append_nil]
      | call k ts =>
        obtain ⟨a, vt, rfl, hS, ht⟩ := St.inv_call hv
        have a0 : atI [V.str "call", V.int (k : Int), vt] 0 = some (.str "call") := at0
        have a1 : atI [V.str "call", V.int (k : Int), vt] 1 = some (.int (k : Int)) := at1
        have a2 : atI [V.str "call", V.int (k : Int), vt] 2 = some vt := at2
        obtain ⟨c1, c2, c3⟩ := St.ok_call2 ok
        have lw := ths_words c3
        have p4 := sm.one k
        have ls := sm.len
        walk_at "rd"
        refine r_enter rfl hS hv nt rfl fun H1 k1 => ?_
        have hS1 := (keep_ts0 k1).sqT hS
        walk_at "rd"
        intro b0 H2 nb0 hb0 k2
        have hS2 := (keep_ts0 k2).sqT hS1
        walk_at "rd"
        intro b H3 nb hb k3
        have hS3 := (keep_ts0 k3).sqT hS2
        have k13 := (k1.trans k2).trans k3
        walk_at "rd"
        refine ask ⟨vt, sh, i, 6, .tuple (ts.map Th.enc), wordsOf ts, rfl, ht.ts (keep_ts0 k13), .ths c3 (by omega) (by omega), sm, by omega, fun e H4 k4 ne he => ?_⟩
        have hb4 := k4 _ _ hb (by simp)
        walk_at "rd"
        refine cat_new hb4 he (by rw [vws_len]; show 2 + _ ≤ _; omega) fun g H5 ng hg k5 => ?_
        walk_at "rd"
        intro l H6 nl hl k6
        have hg6 := k6 _ _ hg (by simp)
        walk_at "rd"
        refine cat_new hg6 hl (by rw [List.length_append, vws_len]; show 2 + _ + 1 ≤ _; omega) fun m H7 nm hm k7 => ?_
        have k16 := ((k13.trans k4).trans k5).trans k6
        refine q m H7 (k16.trans k7) (free0 k16 nm) ?_
        unfold St.words
        rw [vws_app, vws_app]
        exact hm
      | ite t x y =>
        obtain ⟨a, vt, vx, vy, rfl, hS, ht, hx, hy⟩ := St.inv_ite hv
        have a0 : atI [V.str "if", vt, vx, vy] 0 = some (.str "if") := at0
        have a1 : atI [V.str "if", vt, vx, vy] 1 = some vt := at1
        have a2 : atI [V.str "if", vt, vx, vy] 2 = some vx := at2
        have a3 : atI [V.str "if", vt, vx, vy] 3 = some vy := atI_nat (j := 3) rfl
        obtain ⟨e0, rfl, o1, o2, o3⟩ := St.ok_ite2 ok
        have l1 := th_w47 o1 (Nat.le_refl _)
        have l2 := sts_words sm o2
        have l3 := sts_words sm o3
        have me : (St.ite t x y).many = 1 + x.many + y.many := rfl
        walk_at "rd"
        refine r_enter rfl hS hv nt rfl fun H1 k1 => ?_
        have hS1 := (keep_ts0 k1).sqT hS
        walk_at "rd"
        intro b0 H2 nb0 hb0 k2
        have hS2 := (keep_ts0 k2).sqT hS1
        walk_at "rd"
        intro b H3 nb hb k3
        have hS3 := (keep_ts0 k3).sqT hS2
        have k13 := (k1.trans k2).trans k3
        walk_at "rd"
        refine ask ⟨vt, sh, i, 5, t.enc, t.words, rfl, ht.ts (keep_ts0 k13), .th o1 (by omega), sm, by omega, fun c H4 k4 nc hc => ?_⟩
        have hb4 := k4 _ _ hb (by simp)
        have hS4 := (keep_ts0 k4).sqT hS3
        walk_at "rd"
        refine cat_new hb4 hc (by rw [vws_len]; show 1 + _ ≤ _; omega) fun g H5 ng hg k5 => ?_
        have hS5 := (keep_ts0 k5).sqT hS4
        walk_at "rd"
        intro l6 H6 n6 h6 k6
        have hg6 := k6 _ _ hg (by simp)
        have hS6 := (keep_ts0 k6).sqT hS5
        walk_at "rd"
        refine cat_new hg6 h6 (by rw [List.length_append, vws_len]; show 1 + _ + 1 ≤ _; omega) fun g7 H7 n7 h7 k7 => ?_
        have hS7 := (keep_ts0 k7).sqT hS6
        have k17 := (((k13.trans k4).trans k5).trans k6).trans k7
        walk_at "rd"
        refine ask ⟨vx, sh, i, 8 + 2 * e0, .tuple x.encs, x.words, rfl, hx.ts (keep_ts0 k17), .sts o2 (by omega) (by omega), sm, by omega, fun c8 H8 k8 n8 h8 => ?_⟩
        have h78 := k8 _ _ h7 (by simp)
        have hS8 := (keep_ts0 k8).sqT hS7
        walk_at "rd"
        refine cat_new h78 h8 (by rw [List.length_append, List.length_append, vws_len, vws_len]; show 1 + _ + 1 + _ ≤ _; omega) fun g9 H9 n9 h9 k9 => ?_
        have hS9 := (keep_ts0 k9).sqT hS8
        walk_at "rd"
        intro l10 H10 n10 h10 k10
        have h910 := k10 _ _ h9 (by simp)
        have hS10 := (keep_ts0 k10).sqT hS9
        walk_at "rd"
        refine cat_new h910 h10 (by simp only [List.length_append, vws_len]; show 1 + _ + 1 + _ + 2 ≤ _; omega) fun g11 H11 n11 h11 k11 => ?_
        have k111 := (((k17.trans k8).trans k9).trans k10).trans k11
        have hS11 := (keep_ts0 k11).sqT hS10
        walk_at "rd"
        refine ask ⟨vy, sh, i, 8 + 2 * e0, .tuple y.encs, y.words, rfl, hy.ts (keep_ts0 k111), .sts o3 (by omega) (by omega), sm, by omega, fun c12 H12 k12 n12 h12 => ?_⟩
        have h1112 := k12 _ _ h11 (by simp)
        walk_at "rd"
        refine cat_new h1112 h12 (by simp only [List.length_append, vws_len]; show 1 + _ + 1 + _ + 2 + _ ≤ _; omega) fun g13 H13 n13 h13 k13' => ?_
        walk_at "rd"
        intro l14 H14 n14 h14 k14
        have h1314 := k14 _ _ h13 (by simp)
        walk_at "rd"
        refine cat_new h1314 h14 (by simp only [List.length_append, vws_len]; show 1 + _ + 1 + _ + 2 + _ + 1 ≤ _; omega) fun g15 H15 n15 h15 k15 => ?_
        have kz := ((k111.trans k12).trans k13').trans k14
        refine q g15 H15 (kz.trans k15) (free0 kz n15) ?_
        unfold St.words
        rw [h15]
        show some (HO.lst _) = some (HO.lst (V.str "if" :: vws _))
        simp only [vws_app, List.append_assoc]
        rfl
end
end
section
section
variable {P : Program} {w : World} {K : PySem.W.Frag} {mg : Str → Option Value} {base : Heap}
noncomputable def spLawText (K : PySem.W.Frag) : Sp := fun vs H Q _ => ∃ (v : V) (PP : List Wk) (mm : Nat), vs = [v] ∧ Rp K H v (encP PP) ∧ Good PP mm ∧ mm ≤ 100 ∧ ∀ H', Keep [] H H' → Q (.str (textP PP)) H'
noncomputable abbrev sL_text : Stmt := top 53
noncomputable abbrev nL_text : List Str := ["_law_program_here", "_law_rows", "_law_params", "_law_owns", "_law_body_here"]
noncomputable abbrev pL_text : List Str := ["_law_program_here"]
theorem scL_text : FnScope nL_text pL_text (defScope sL_text) := ⟨rfl, rfl, rfl, by decide +kernel, rfl, by decide +kernel, by decide +kernel⟩
theorem okLawText (D : DefAt K mg "_law_text" sL_text pL_text) (T : Blt mg) (C_law_words : Callee P w K mg base "_law_words" 14 pL_words (spLawWords K 13)) : Callee P w K mg base "_law_text" 15 pL_text (spLawText K) := by
  refine D.ok scL_text (fun vs H Q E h => ?_) (fun f cdv A outer s H vs Q E hr h => ?_)
  · obtain ⟨v, PP, mm, rfl, _⟩ := h
    rfl
  obtain ⟨v, PP, mm, rfl, hP, gd, m1, q⟩ := h
  obtain ⟨a, xs, rfl, hT, hl, hat⟩ := encP_at hP
  have sm := good_sm gd
  have few := gd.few
  refine ⟨_, (pss_cons (ps_set (i := 1) scL_text.nd rfl (Or.inl rfl) (pe_lst pa_nil))
  (pss_cons (ps_for PassesOwn.never rfl (piTup (K := K) (pv 0)) (pgTup (K := K) (by rfl) (pgs_cons (pg_name (i := 2) scL_text.nd rfl (Or.inl rfl)) (pgs_cons (pg_name (i := 3) scL_text.nd rfl (Or.inl rfl)) (pgs_cons (pg_name (i := 4) scL_text.nd rfl (Or.inl rfl)) pgs_nil))))
   (pss_one (ps_expr (peApp (K := K) (pv 1) (peJoin (K := K) pe_str (pe_op op_cat (pe_lst (pa_cons (pe_callTy cStr (by rfl) T.str (by decide +kernel) (pa_cons (pv 2) pa_nil)) (pa_cons (pe_callTy cStr (by rfl) T.str (by decide +kernel) (pa_cons (pv 3) pa_nil)) pa_nil))) (pcall C_law_words (hr.mono (by first | exact Nat.le_of_ble_eq_true rfl | omega)) rfl (pa_cons (pv 4) pa_nil))))))))
  (pss_one (ps_ret (peJoin (K := K) pe_str (pv 1)))))), ?_⟩
  walk_at "rd"
  intro b H1 nb hb k1
  have hT1 := (keep_ts0 k1).sqT hT
  have ts1 : ∀ {H2 : Hp}, Keep [b] H1 H2 → Tst H1 H2 := fun k => k.ts fun x hx => by cases List.mem_singleton.mp hx; exact .inl ⟨_, hb⟩
  walk_at "rd"
  refine forT (xs := xs) (fun j σ H' => ∃ x2 x3 x4 : Option V, σ = [some (.ref a), some (.ref b), x2, x3, x4] ∧ Keep [b] H1 H' ∧ H' b = some (.lst (vws ((PP.map Wk.line).take j)))) ⟨_, _, _, rfl, Keep.refl, hb⟩ (fun j σ H' _ hp => ?_) (fun j x σ H2 hx hp => ?_) (fun σ H' hp => ?_)
  · obtain ⟨_, _, _, rfl, k, _⟩ := hp
    exact (ts1 k).sqT hT1
  · obtain ⟨x2, x3, x4, rfl, k2, h2⟩ := hp
    have hi : j < PP.length := by rw [← hl]; exact (List.getElem?_eq_some_iff.mp hx).1
    have ep := List.getElem?_eq_getElem hi
    obtain ⟨wp, vb, ap, sW, hbd⟩ := hat j _ ep
    have ex : x = .ref wp := by
      have := atI_nat hx
      rw [ap] at this
      exact (Option.some.inj this).symm
    subst ex
    have t12 := (keep_ts0 k1).trans (ts1 k2)
    have sW2 := t12.sqT sW
    have pw := gd.params _ (List.getElem_mem hi)
    have ow := gd.owns _ (List.getElem_mem hi)
    have ok := gd.body j _ ep
    have mb := Nat.le_trans (gd.many _ (List.getElem_mem hi)) m1
    obtain ⟨l1, l2⟩ := good_lines gd m1 _ (List.getElem_mem hi)
    have l3 := (line_len l2 l1).1
    have l4 := sts_words sm ok
    walk_at "rd"
    intro c H3 nc hc k3
    have h23 := k3 _ _ h2 (by simp)
    walk_at "rd"
    refine ask ⟨vb, shapes PP, j, 8 + 2 * 2, .tuple PP[j].body.encs, PP[j].body.words, rfl, (hbd.ts t12).ts (keep_ts0 k3), .sts ok mb (by omega), sm, by omega, fun e H4 k4 ne he => ?_⟩
    have hc4 := k4 _ _ hc (by simp)
    walk_at "rd"
    refine cat_new hc4 he (by rw [vws_len]; show 2 + _ ≤ _; omega) fun g H5 ng hg k5 => ?_
    have h25 := k5 _ _ (k4 _ _ h23 (by simp)) (by simp)
    have lt : (vws ((PP.map Wk.line).take j)).length ≤ 1000 := by rw [vws_len, List.length_take, List.length_map]; omega
    walk_at "rd"
    refine r_join (ys := PP[j].words) (.inl (SqL.of hg)) (Nat.le_trans l3 (by decide)) ?_
    walk_at "rd"
    intro H6 h6 k6
    walk_at "rd"
    have k25 : Keep [b] H2 H5 := ((k3.trans k4).trans k5).mono (by simp)
    refine ⟨_, _, _, rfl, (k2.trans k25).trans k6, ?_⟩
    rw [List.take_succ, List.getElem?_map, ep, vws_app]
    exact h6
  · obtain ⟨x2, x3, x4, rfl, k2, h2⟩ := hp
    rw [List.take_of_length_le (by rw [List.length_map]; omega)] at h2
    walk_at "rd"
    refine r_join (ys := PP.map Wk.line) (.inl (SqL.of h2)) (Nat.le_trans (text_fits gd m1) (by decide)) ?_
    walk_at "rd"
    exact q _ ((((k1.mono (by simp) : Keep [b] H H1)).trans k2).loseN fun x hx => by cases List.mem_singleton.mp hx; exact .inr nb)
end
end
section
section
variable {P : Program} {w : World} {K : PySem.W.Frag} {mg : Str → Option Value} {base : Heap}
theorem okTh_plain {ps os : Int} : ∀ {n : Nat} {t : Th}, okTh ps os n t.enc = true → plain (n + 1) t.enc
  | 0, t, h => by cases h
  | n + 1, .num k, _ => plain_tup (by show 2 ≤ 90000; omega) (all_cons plain_str (all_cons plain_int all_nil))
  | n + 1, .own k, _ => plain_tup (by show 2 ≤ 90000; omega) (all_cons plain_str (all_cons plain_int all_nil))
  | n + 1, .par k, _ => plain_tup (by show 2 ≤ 90000; omega) (all_cons plain_str (all_cons plain_int all_nil))
  | n + 1, .cell t, h => by
    unfold okTh at h
    rw [sd_cell_sum, sd_cell_cell, if_neg Bool.false_ne_true, if_pos rfl] at h
    exact plain_tup (by show 2 ≤ 90000; omega) (all_cons plain_str (all_cons (okTh_plain h) all_nil))
  | n + 1, .sum a b, h => by
    unfold okTh at h
    rw [sd_sum_sum, if_pos rfl, Bool.and_eq_true] at h
    exact plain_tup (by show 3 ≤ 90000; omega) (all_cons plain_str (all_cons (okTh_plain (t := a) h.1) (all_cons (okTh_plain (t := b) h.2) all_nil)))
theorem okT_plain {sh : List (Nat × Nat)} {i : Nat} {t : Th} (h : okT sh i t.enc = true) : plain 6 t.enc := okTh_plain h
mutual
theorem okSt_plain {sh : List (Nat × Nat)} {i : Nat} : ∀ {n : Nat} {s : St}, s.words.length ≤ 90000 → okSt sh i n s.enc = true → plain (2 * n + 7) s.enc
  | 0, s, _, h => by cases h
  | n + 1, .set p t, _, h => by
    unfold okSt at h
    rw [ss_set_set, if_pos rfl, Bool.and_eq_true, Bool.and_eq_true] at h
    have hp : okT sh i p.enc = true := by have := h.1.1; unfold St.enc at this; exact this
    have ht : okT sh i t.enc = true := by have := h.2; unfold St.enc at this; exact this
    unfold St.enc
    exact plain_le (n := 7) (by omega) (plain_tup (by show 3 ≤ 90000; omega) (all_cons plain_str (all_cons (okT_plain hp) (all_cons (okT_plain ht) all_nil))))
  | n + 1, .say t, _, h => by
    unfold okSt at h
    rw [ss_say_set, ss_say_say, if_neg Bool.false_ne_true, if_pos rfl] at h
    have ht : okT sh i t.enc = true := by have := h; unfold St.enc at this; exact this
    unfold St.enc
    exact plain_le (n := 7) (by omega) (plain_tup (by show 2 ≤ 90000; omega) (all_cons plain_str (all_cons (okT_plain ht) all_nil)))
  | n + 1, .ite t a b, hl, h => by
    unfold okSt at h
    rw [ss_ite_set, ss_ite_say, ss_ite_ite, if_neg Bool.false_ne_true, if_neg Bool.false_ne_true, if_pos rfl, Bool.and_eq_true, Bool.and_eq_true] at h
    have ht : okT sh i t.enc = true := by have := h.1; unfold St.enc at this; exact this
    have ha : a.encs.all (okSt sh i n) = true := by have := h.2.1; unfold St.enc at this; exact this
    have hb : b.encs.all (okSt sh i n) = true := by have := h.2.2; unfold St.enc at this; exact this
    unfold St.words at hl
    simp only [List.length_cons, List.length_append, List.length_nil] at hl
    have la := encs_words (b := a)
    have lb := encs_words (b := b)
    have pa := okSts_plain (b := a) (by omega) ha
    have pb := okSts_plain (b := b) (by omega) hb
    unfold St.enc
    rw [show 2 * (n + 1) + 7 = 2 * n + 7 + 1 + 1 by omega]
    exact plain_tup (by show 4 ≤ 90000; omega) (all_cons plain_str (all_cons (plain_le (by omega) (okT_plain ht)) (all_cons (plain_tup (by omega) pa) (all_cons (plain_tup (by omega) pb) all_nil))))
  | n + 1, .call c ts, hl, h => by
    unfold okSt at h
    rw [ss_call_set, ss_call_say, ss_call_ite, if_neg Bool.false_ne_true, if_neg Bool.false_ne_true, if_neg Bool.false_ne_true, Bool.and_eq_true] at h
    have hc : callD sh i (.int (c : Int)) (.tuple (ts.map Th.enc)) = true := by have := h.2; unfold St.enc at this; exact this
    rw [callD_tup] at hc
    simp only [Bool.and_eq_true] at hc
    unfold St.words at hl
    simp only [List.length_cons, List.length_append, List.length_nil] at hl
    have l := ths_count (ts := ts)
    unfold St.enc
    refine plain_le (n := 8) (by omega) (plain_tup (by show 3 ≤ 90000; omega) (all_cons plain_str (all_cons plain_int (all_cons (plain_tup (by rw [List.length_map]; omega) fun e he => ?_) all_nil))))
    obtain ⟨t, ht, rfl⟩ := List.mem_map.mp he
    exact okT_plain (List.all_eq_true.mp hc.2.2.2 _ he)
theorem okSts_plain {sh : List (Nat × Nat)} {i : Nat} : ∀ {n : Nat} {b : Sts}, b.words.length ≤ 90000 → b.encs.all (okSt sh i n) = true → ∀ e ∈ b.encs, plain (2 * n + 7) e
  | n, .nil, _, _ => by unfold Sts.encs; exact all_nil
  | n, .cons s r, hl, h => by
    unfold Sts.words at hl
    rw [List.length_append] at hl
    unfold Sts.encs at h ⊢
    rw [List.all_cons, Bool.and_eq_true] at h
    exact all_cons (okSt_plain (by omega) h.1) (okSts_plain (by omega) h.2)
end
theorem tells_plain {t : Str} {d : PyData} (ok : Mt 121 78 48200 8 (TL.tl t)) (h : TellsT (linesT t) d) : plain 21 d := by
  have few : (linesT t).length ≤ 8 := by rw [linesT_eq, List.length_map]; exact ok.few
  rcases h with ⟨i, _, rfl⟩ | ⟨hall, okP, rfl⟩ | ⟨_, _, rfl⟩
  · exact plain_tup (by show 2 ≤ 90000; omega) (all_cons plain_str (all_cons plain_int all_nil))
  · refine plain_tup (by show 2 ≤ 90000; omega) (all_cons plain_str (all_cons (plain_tup (by rw [List.length_map]; omega) fun e he => ?_) all_nil))
    obtain ⟨ws, e1, _, _, hb⟩ := okP
    cases e1
    obtain ⟨j, hj⟩ := List.mem_iff_getElem?.mp he
    obtain ⟨b1, _⟩ := hb j e hj
    obtain ⟨l, hl, rfl⟩ := List.mem_map.mp he
    have W := ok.row hl
    obtain ⟨wk, ew, low, _, _, ww⟩ := work_is (hall l hl)
    rw [ew] at b1 ⊢
    have lw : wk.body.words.length ≤ 90000 := by
      have := congrArg List.length ww
      have := W.wds.1
      unfold Wk.words at *
      rw [List.length_append] at *
      omega
    have le := encs_words (b := wk.body)
    have b2 : wk.body.encs.all (okSt (shD ((linesT t).map workD)) j 5) = true := b1
    exact plain_tup (by show 3 ≤ 90000; omega) (all_cons plain_int (all_cons plain_int (all_cons (plain_tup (by omega) (okSts_plain lw b2)) all_nil)))
  · exact plain_tup (by show 1 ≤ 90000; omega) (all_cons plain_str all_nil)
noncomputable def nnC : Nat → Nat
  | 0 => 4
  | i + 1 => 3 * nnC i + 1
noncomputable def ffC : Nat → Nat
  | 0 => 8
  | i + 1 => 2 * ffC i + 2
noncomputable def llC : Nat → Nat
  | 0 => 6010
  | i + 1 => 2 * llC i + 6
noncomputable abbrev MtC (i : Nat) (t : Str) : Prop := Mt (nnC i) (ffC i) (llC i) (4 + i) (TL.tl t)
theorem mtC_all {i : Nat} {t : Str} (hi : i ≤ 3) (h : MtC i t) : Mt 121 78 48200 8 (TL.tl t) := by
  have : i = 0 ∨ i = 1 ∨ i = 2 ∨ i = 3 := by omega
  rcases this with rfl | rfl | rfl | rfl
  · exact h.mono (by decide) (by decide) (by decide) (by decide)
  · exact h.mono (by decide) (by decide) (by decide) (by decide)
  · exact h.mono (by decide) (by decide) (by decide) (by decide)
  · exact h.mono (by decide) (by decide) (by decide) (by decide)
theorem okLawIsBodies (D : DefAt K mg "_law_is_body" sL_is_body pL_is_body) (Ds : DefAt K mg "_law_is_step" sL_is_step pL_is_step) (T : Blt mg) (C1 : Callee P w K mg base "_law_is_number" 1 pL_is_number (spLawNumber K)) (C2 : Callee P w K mg base "_law_is_thing" 8 pL_is_thing (spLawIsThing K 6)) : ∀ n : Nat, Callee P w K mg base "_law_is_body" (2 * n + 9) pL_is_body (spLawIsBody K n)
  | 0 => D.none fun vs H Q E h => by
    obtain ⟨_, _, _, _, _, _, _, _, _, _, _, h5, h6, _⟩ := h
    omega
  | n + 1 => okLawIsBody D T (okLawIsStep Ds T C1 C2 (okLawIsBodies D Ds T C1 C2 n))
theorem small_c {i : Nat} (h : i ≤ 3) : 1 ≤ nnC i ∧ llC i ≤ 48200 := by
  have : i = 0 ∨ i = 1 ∨ i = 2 ∨ i = 3 := by omega
  rcases this with rfl | rfl | rfl | rfl <;> decide
noncomputable def someW : List Str := ["", "0", "0 0", "0 0 ", " 0 0", "0 0\n", "1 0", "0 0 say 3", "0 0 say", "0 0 set 1 1", "0 0 set cell 1", "0 0 if 1 ( )", "0 0 if 1 ( ) ( )", "0 0 call 1 .", "0 0 call 1\n0 0", "0 0 call 1 .\n0 0", "0 00", "0 0 say own 0", "0 1 say own 0", "0 0 say + 1", "0 0 say ( 1 )", "0 0 )", "0 100", "0 99 say cell cell 1"]
theorem some_ok (i : Nat) (h : i < 24) : ∃ t, (someW.map V.str)[i]? = some (.str t) ∧ Mt 121 78 48200 8 (TL.tl t) := by
  have al : someW.all (fun t => decide (t.length ≤ 60) && (decide ((cutL 10 (TL.tl t)).length ≤ 8) && (TL.tl t).all (fun c => decide (c < 128)))) = true := by decide +kernel
  have hi : i < someW.length := h
  exact ⟨someW[i], by rw [List.getElem?_map, List.getElem?_eq_getElem hi]; rfl, small_mt (List.all_eq_true.mp al _ (List.getElem_mem hi))⟩
noncomputable def spLaw (K : PySem.W.Frag) : Sp := fun vs H Q _ => ∃ (a : Addr) (ns : List Int), vs = [.ref a] ∧ Scr K H a ns ∧ ∀ H', Q (.bl true) H'
noncomputable abbrev slaw : Stmt := top 68
noncomputable abbrev nlaw : List Str := ["_law_script", "_law_row", "_law_some", "_law_turn", "_law_text_here", "_law_change", "_law_one"]
noncomputable abbrev plaw : List Str := ["_law_script"]
theorem sclaw : FnScope nlaw plaw (defScope slaw) := ⟨rfl, rfl, rfl, by decide +kernel, rfl, by decide +kernel, by decide +kernel⟩
theorem okLaw (D : DefAt K mg "law" slaw plaw) (T : Blt mg) (C_law_taken : Callee P w K mg base "_law_taken" 1 pL_taken (spTaken K)) (C_law_program : Callee P w K mg base "_law_program" 15 pL_program (spProgram K)) (C_law_text : Callee P w K mg base "_law_text" 15 pL_text (spLawText K)) (C_law_told : Callee P w K mg base "_law_told" 27 pL_told (spLawTold K))
    (C_law_reading : Callee P w K mg base "_law_reading" 125 pL_reading (spLawReading K 121 78)) (C_law_alike : Callee P w K mg base "_law_alike" 22 pL_alike (spAlike K 21)) (C_law_changed : Callee P w K mg base "_law_changed" 2 pL_changed (spLawChanged K)) : Callee P w K mg base "law" 130 plaw (spLaw K) := by
  refine D.ok sclaw (fun vs H Q E h => ?_) (fun f cdv A outer s H vs Q E hr h => ?_)
  · obtain ⟨a, ns, rfl, _⟩ := h
    rfl
  obtain ⟨a, ns, rfl, hS, q⟩ := h
  refine ⟨_, (pss_cons (ps_set (i := 1) sclaw.nd rfl (Or.inl rfl) (pe_lst (pa_cons (pv 0) (pa_cons pe_int (pa_cons pe_int (pa_cons pe_int pa_nil))))))
  (pss_cons (ps_set (i := 2) sclaw.nd rfl (Or.inl rfl) (pe_lst (pa_cons pe_str (pa_cons pe_str (pa_cons pe_str (pa_cons pe_str (pa_cons pe_str (pa_cons pe_str (pa_cons pe_str (pa_cons pe_str (pa_cons pe_str (pa_cons pe_str (pa_cons pe_str pa_nil)))))))))))))
  (pss_cons (ps_set (i := 2) sclaw.nd rfl (Or.inl rfl) (pe_op op_cat (pv 2) (pe_lst (pa_cons pe_str (pa_cons pe_str (pa_cons pe_str (pa_cons pe_str (pa_cons pe_str (pa_cons pe_str pa_nil)))))))))
  (pss_cons (ps_set (i := 2) sclaw.nd rfl (Or.inl rfl) (pe_op op_cat (pv 2) (pe_lst (pa_cons pe_str (pa_cons pe_str (pa_cons pe_str (pa_cons pe_str (pa_cons pe_str (pa_cons pe_str pa_nil)))))))))
  (pss_cons (ps_expr (peApp (K := K) (pv 2) pe_str))
  (pss_cons (ps_for PassesOwn.never rfl (pi_range1 rfl T.range (pa_cons pe_int pa_nil)) (pg_name (i := 3) sclaw.nd rfl (Or.inl rfl))
   (pss_cons (ps_set (i := 4) sclaw.nd rfl (Or.inl rfl) (pcall C_law_text (hr.mono (by first | exact Nat.le_of_ble_eq_true rfl | omega)) rfl (pa_cons (pcall C_law_program (hr.mono (by first | exact Nat.le_of_ble_eq_true rfl | omega)) rfl (pa_cons (pv 1) (pa_cons pe_int pa_nil))) pa_nil)))
  (pss_cons (ps_for PassesOwn.never rfl (pi_range1 rfl T.range (pa_cons (pe_op op_add pe_int (pcall C_law_taken (hr.mono (by first | exact Nat.le_of_ble_eq_true rfl | omega)) rfl (pa_cons (pv 1) (pa_cons pe_int pa_nil)))) pa_nil)) (pg_name (i := 5) sclaw.nd rfl (Or.inl rfl))
   (pss_cons (ps_if (pt_not (pt_val (pcall C_law_alike (hr.mono (by first | exact Nat.le_of_ble_eq_true rfl | omega)) rfl (pa_cons (pcall C_law_told (hr.mono (by first | exact Nat.le_of_ble_eq_true rfl | omega)) rfl (pa_cons (pv 4) pa_nil)) (pa_cons (pcall C_law_reading (hr.mono (by first | exact Nat.le_of_ble_eq_true rfl | omega)) rfl (pa_cons (pv 4) pa_nil)) pa_nil))))) (pss_one (ps_ret pe_bl)) pss_nil)
  (pss_one (ps_set (i := 4) sclaw.nd rfl (Or.inl rfl) (pcall C_law_changed (hr.mono (by first | exact Nat.le_of_ble_eq_true rfl | omega)) rfl (pa_cons (pv 1) (pa_cons (pv 4) pa_nil)))))))
  (pss_one (ps_for PassesOwn.never rfl (piList (K := K) (pe_lst (pa_cons (pv 4) (pa_cons (pe_ix (ixL (K := K)) (pv 2) (pcall C_law_taken (hr.mono (by first | exact Nat.le_of_ble_eq_true rfl | omega)) rfl (pa_cons (pv 1) (pa_cons pe_int pa_nil))) (fun _ _ => rfl)) pa_nil)))) (pg_name (i := 6) sclaw.nd rfl (Or.inl rfl))
   (pss_one (ps_if (pt_not (pt_val (pcall C_law_alike (hr.mono (by first | exact Nat.le_of_ble_eq_true rfl | omega)) rfl (pa_cons (pcall C_law_told (hr.mono (by first | exact Nat.le_of_ble_eq_true rfl | omega)) rfl (pa_cons (pv 6) pa_nil)) (pa_cons (pcall C_law_reading (hr.mono (by first | exact Nat.le_of_ble_eq_true rfl | omega)) rfl (pa_cons (pv 6) pa_nil)) pa_nil))))) (pss_one (ps_ret pe_bl)) pss_nil)))))))
  (pss_one (ps_ret pe_bl)))))))), ?_⟩
  walk_at "rd"
  intro r H1 nr h1 k1
  have R1 : Row K H1 r := ⟨a, ns, 0, 0, 0, h1, hS.ts (keep_ts0 k1), by omega⟩
  walk_at "rd"
  intro p1 H2 n2 h2 k2
  walk_at "rd"
  intro p2 H3 n3 h3 k3
  have h23 := k3 _ _ h2 (by simp)
  walk_at "rd"
  refine r_cat h23 h3 (small (by decide)) ?_
  walk_at "rd"
  intro p3 H4 n4 h4 k4
  walk_at "rd"
  intro p4 H5 n5 h5 k5
  have h45 := k5 _ _ h4 (by simp)
  walk_at "rd"
  refine r_cat h45 h5 (small (by decide)) ?_
  walk_at "rd"
  intro p5 H6 n6 h6 k6
  have k16 := (((k2.trans k3).trans k4).trans k5).trans k6
  have R6 := R1.keep0 k16
  have h6' : H6 p5 = some (.lst ((someW.take 23).map V.str)) := h6
  have pr : p5 ∉ [r] := ne_row (R1.keep0 (((k2.trans k3).trans k4).trans k5)) n6
  have lt : ((someW.take 23).map V.str).length ≤ 100000 := by decide
  walk_at "rd"
  intro H7 h7 k7
  have rp : r ∉ [p5] := by
    rw [List.mem_singleton] at pr ⊢
    exact fun z => pr z.symm
  have R7 : Row K H7 r := R6.keep k7 rp (k7.ts fun x hx => by cases List.mem_singleton.mp hx; exact .inl ⟨_, h6'⟩)
  have hs7 : H7 p5 = some (.lst (someW.map V.str)) := h7
  walk_at "rd"
  refine forR (fun i σ H' => ∃ x3 x4 x5 x6 : Option V, σ = [some (.ref a), some (.ref r), some (.ref p5), x3, x4, x5, x6] ∧ Row K H' r ∧ H' p5 = some (.lst (someW.map V.str))) ⟨_, _, _, _, rfl, R7, hs7⟩ (fun i σ H8 hi hp => ?_) (fun σ H8 hp => ?_)
  · obtain ⟨x3, x4, x5, x6, rfl, R8, hs8⟩ := hp
    walk_at "rd"
    refine ask ⟨r, 6, rfl, by omega, by omega, R8, fun v PP Ha hv gd ka Ra => ?_⟩
    walk_at "rd"
    refine ask ⟨v, PP, 8, rfl, hv, gd.toGood, by omega, fun Hb kb => ?_⟩
    have m0 : MtC 0 (textP PP) := drawn_mt gd.toGood
    generalize textP PP = t0 at m0
    have Rb := Ra.keep0 kb
    have hsb := kb _ _ (ka _ _ hs8 pr) (by simp)
    walk_at "rd"
    refine ask ⟨r, 3, rfl, by omega, by omega, Rb, fun z Hc z0 z3 kc Rc => ?_⟩
    obtain ⟨m, rfl⟩ : ∃ m : Nat, z = (m : Int) := ⟨z.toNat, by omega⟩
    have hsc := kc _ _ hsb pr
    walk_at "rd"
    rw [show ((1 : Int) + (m : Int)).toNat = m + 1 by omega]
    refine forR (n := m + 1) (fun j σ H' => ∃ (t : Str) (x3 x5 x6 : Option V), σ = [some (.ref a), some (.ref r), some (.ref p5), x3, some (.str t), x5, x6] ∧ Row K H' r ∧ H' p5 = some (.lst (someW.map V.str)) ∧ MtC j t) ⟨t0, _, _, _, rfl, Rc, hsc, m0⟩ (fun j σ H9 hj hp => ?_) (fun σ H9 hp => ?_)
    · obtain ⟨t, y3, y5, y6, rfl, R9, hs9, mt⟩ := hp
      have big := mtC_all (by omega) mt
      walk_at "rd"
      refine ask ⟨t, rfl, big, fun v1 d1 Hd t1 r1 kd => ?_⟩
      walk_at "rd"
      refine ask ⟨t, rfl, big, fun v2 d2 He t2 r2 ke => ?_⟩
      have same := t1.same t2
      subst same
      walk_at "rd"
      refine ask ⟨v1, v2, d1, rfl, (r1.ts (keep_ts0 ke)).dp, r2.dp, tells_plain big t1, fun Hf kf => ?_⟩
      have kdf := (kd.trans ke).trans kf
      walk_at "rd"
      have jb := small_c (i := j) (by omega)
      refine ask ⟨r, t, nnC j, ffC j, llC j, 4 + j, rfl, R9.keep0 kdf, mt, jb.1, jb.2, by omega, fun t' Hg mt' kg Rg => ?_⟩
      walk_at "rd"
      exact ⟨t', _, _, _, rfl, Rg, kg _ _ (kdf _ _ hs9 (by simp)) pr, mt'⟩
    · obtain ⟨t, y3, y5, y6, rfl, R9, hs9, mt⟩ := hp
      have big := mtC_all (by omega) mt
      walk_at "rd"
      refine ask ⟨r, 24, rfl, by omega, by omega, R9, fun z Hj z0 z24 kj Rj => ?_⟩
      obtain ⟨o, rfl⟩ : ∃ o : Nat, z = (o : Int) := ⟨z.toNat, by omega⟩
      obtain ⟨t2, e2, big2⟩ := some_ok o (by omega)
      have hsj := kj _ _ hs9 pr
      have ae := atI_nat e2
      walk_at "rd"
      intro pl Hk nk hk kk
      have hsk := kk _ _ hsj (by simp)
      have plr : pl ∉ [r] := ne_row Rj nk
      walk_at "rd"
      refine forL (xs := [.str t, .str t2]) (fun j σ H' => ∃ x6 : Option V, σ = [some (.ref a), some (.ref r), some (.ref p5), y3, some (.str t), y5, x6] ∧ Keep [] Hk H') ⟨_, rfl, Keep.refl⟩ (fun j σ H' _ hp => ?_) (fun j x σ H' hx hp => ?_) (fun σ H' hp => ?_)
      · obtain ⟨_, _, k⟩ := hp
        exact SqL.of (k _ _ hk (by simp))
      · obtain ⟨x6, rfl, kz⟩ := hp
        obtain ⟨tt, rfl, bt⟩ : ∃ tt : Str, x = .str tt ∧ Mt 121 78 48200 8 (TL.tl tt) := by
          match j, hx with
          | 0, hx => cases hx; exact ⟨t, rfl, big⟩
          | 1, hx => cases hx; exact ⟨t2, rfl, big2⟩
          | j + 2, hx => simp at hx
        walk_at "rd"
        refine ask ⟨tt, rfl, bt, fun v1 d1 Hd t1 r1 kd => ?_⟩
        walk_at "rd"
        refine ask ⟨tt, rfl, bt, fun v2 d2 He t2 r2 ke => ?_⟩
        have same := t1.same t2
        subst same
        walk_at "rd"
        refine ask ⟨v1, v2, d1, rfl, (r1.ts (keep_ts0 ke)).dp, r2.dp, tells_plain bt t1, fun Hf kf => ?_⟩
        have kdf := (kd.trans ke).trans kf
        walk_at "rd"
        exact ⟨_, rfl, kz.trans kdf⟩
      · obtain ⟨x6, rfl, kz⟩ := hp
        walk_at "rd"
        exact ⟨_, _, _, _, rfl, (Rj.keep0 kk).keep0 kz, kz _ _ hsk (by simp)⟩
  · obtain ⟨x3, x4, x5, x6, rfl, R8, hs8⟩ := hp
    walk_at "rd"
    exact q _
end
end
section
theorem Callee.at_ {P : Program} {w : World} {K : PySem.W.Frag} {mg : Str → Option Value} {base : Heap} {x : Str} {k : Nat} {ps : List Str} {sp : Sp} {f : Addr} {fd : FuncData} {oc : Value} {od : Option Addr} {osl : Array (Option Value)} (C : Callee P w K mg base x k ps sp) (m : mg x = some (.ref f)) (l : K.lookup f = some ⟨oc, od, .func fd, osl⟩) :
    FnOk P w K mg base CX0 k f fd ps sp := by
  obtain ⟨f', fd', F, m', kp, b, oc', od', osl', lk⟩ := C.ex
  rw [m] at m'
  cases m'
  rw [l] at lk
  cases lk
  exact F
theorem scr_of {K : PySem.W.Frag} {H : Hp} {a : Addr} {ns : List Int} (o : Only H) (h : SqL K H a (ns.map V.int)) : Scr K H a ns := by
  rcases h with (h | ⟨ob, h⟩) | h
  · rcases o a with q | ⟨ob, xs, q⟩
    · rw [q] at h; cases h
    · rw [q] at h; cases h
  · exact .inl ⟨ob, h⟩
  · exact .inr ⟨rfl, .inr h⟩
theorem kit_self {K : PySem.W.Frag} {C : Addr} : PySem.W.kitOne K (.ref C) (.ref C) = some true := by
  unfold PySem.W.kitOne
  rw [if_pos (beq_self_eq_true _)]
theorem kit_no {K : PySem.W.Frag} {C D : Addr} (n : C ≠ D) (h1 : PySem.W.isClsIn K D = true) (h2 : PySem.W.typeIn K (.ref D) = some (.type "type")) (h3 : PySem.W.subIn K (.ref C) (.ref D) = some false) : PySem.W.kitOne K (.ref C) (.ref D) = some false := by
  unfold PySem.W.kitOne PySem.W.kitCls
  rw [if_neg (by rw [beq_eq_false_iff_ne.mpr fun z => n (Value.ref.inj z)]; exact Bool.false_ne_true)]
  unfold PySem.W.isClsIn at h1
  show (if ((PySem.W.clsIn K D).isSome && PySem.W.typeIn K (.ref D) == some (.type "type")) = true then PySem.W.subIn K (.ref C) (.ref D) else none) = some false
  rw [if_pos (by rw [h1, h2]; exact beq_self_eq_true _), h3]
theorem lawOk {P : Program} {w : World} {K : PySem.W.Frag} {mg : Str → Option Value} {base : Heap} {tk : Nat → Tok} {aP aW : Addr} (T : Cst K tk aP aW mg)
    (D_is_below : DefAt K mg "is_below" sis_below pis_below)
    (D_is_number : DefAt K mg "is_number" sis_number pis_number)
    (D_is_shaped : DefAt K mg "is_shaped" sis_shaped pis_shaped)
    (D_need_program : DefAt K mg "need_program" sneed_program pneed_program)
    (D_need_head : DefAt K mg "need_head" sneed_head pneed_head)
    (D_need_body : DefAt K mg "need_body" sneed_body pneed_body)
    (D_need_step : DefAt K mg "need_step" sneed_step pneed_step)
    (D_need_call : DefAt K mg "need_call" sneed_call pneed_call)
    (D_need_place : DefAt K mg "need_place" sneed_place pneed_place)
    (D_need_thing : DefAt K mg "need_thing" sneed_thing pneed_thing)
    (D_is_plain : DefAt K mg "is_plain" sis_plain pis_plain)
    (D_read : DefAt K mg "read" sread pread)
    (D_read_work : DefAt K mg "read_work" sread_work pread_work)
    (D_read_word : DefAt K mg "read_word" sread_word pread_word)
    (D_is_figures : DefAt K mg "is_figures" sis_figures pis_figures)
    (D_read_body : DefAt K mg "read_body" sread_body pread_body)
    (D_read_call : DefAt K mg "read_call" sread_call pread_call)
    (D_taken : DefAt K mg "taken" staken ptaken)
    (D_taken_all : DefAt K mg "taken_all" staken_all ptaken_all)
    (D_is_kind : DefAt K mg "is_kind" sis_kind pis_kind)
    (D_told_as : DefAt K mg "told_as" stold_as ptold_as)
    (D__law_taken : DefAt K mg "_law_taken" sL_taken pL_taken)
    (D__law_alike : DefAt K mg "_law_alike" sL_alike pL_alike)
    (D__law_thing : DefAt K mg "_law_thing" sL_thing pL_thing)
    (D__law_place : DefAt K mg "_law_place" sL_place pL_place)
    (D__law_step : DefAt K mg "_law_step" sL_step pL_step)
    (D__law_body : DefAt K mg "_law_body" sL_body pL_body)
    (D__law_program : DefAt K mg "_law_program" sL_program pL_program)
    (D__law_words : DefAt K mg "_law_words" sL_words pL_words)
    (D__law_text : DefAt K mg "_law_text" sL_text pL_text)
    (D__law_is_number : DefAt K mg "_law_is_number" sL_is_number pL_is_number)
    (D__law_is_thing : DefAt K mg "_law_is_thing" sL_is_thing pL_is_thing)
    (D__law_is_step : DefAt K mg "_law_is_step" sL_is_step pL_is_step)
    (D__law_is_body : DefAt K mg "_law_is_body" sL_is_body pL_is_body)
    (D__law_count : DefAt K mg "_law_count" sL_count pL_count)
    (D__law_is_program : DefAt K mg "_law_is_program" sL_is_program pL_is_program)
    (D__law_is_figures : DefAt K mg "_law_is_figures" sL_is_figures pL_is_figures)
    (D__law_thing_at : DefAt K mg "_law_thing_at" sL_thing_at pL_thing_at)
    (D__law_things_at : DefAt K mg "_law_things_at" sL_things_at pL_things_at)
    (D__law_step_at : DefAt K mg "_law_step_at" sL_step_at pL_step_at)
    (D__law_body_at : DefAt K mg "_law_body_at" sL_body_at pL_body_at)
    (D__law_reading : DefAt K mg "_law_reading" sL_reading pL_reading)
    (D__law_told : DefAt K mg "_law_told" sL_told pL_told)
    (D__law_changed : DefAt K mg "_law_changed" sL_changed pL_changed)
    (D_law : DefAt K mg "law" slaw plaw)
    {cI : Addr} (K_Item : ClassAt K mg "Item" "Item.__init__" cI sItem_init pItem_init)
    (OI : ItC K cI)
    {tk2 : Nat → Tok} {bT bE bD : Addr} {eD : Array DictEntry} {nD : Nat} (NT : Nts K w tk2 mg bT bE bD eD nD)
    (T_ValueError : mg "ValueError" = none)
    {cBadProgram : Addr} (E_BadProgram : ExcAt K mg "BadProgram" cBadProgram)
    {cHandError cBadText cBadCells cBadWays : Addr} (G_HandError : GAt mg "HandError" cHandError) (G_BadText : GAt mg "BadText" cBadText) (G_BadCells : GAt mg "BadCells" cBadCells) (G_BadWays : GAt mg "BadWays" cBadWays) (TX_T : TxE K cBadText cHandError cBadText cBadProgram cBadCells cBadWays true false) (TX_P : TxE K cBadProgram cHandError cBadText cBadProgram cBadCells cBadWays false true) (XF : XfC K cBadText ∧ PySem.W.findIn K (.ref cBadText) "row" = some none) (R_BadText : BtxRaw P K mg cBadText) :
    Callee P w K mg base "law" 130 plaw (spLaw K) := by
  have B : Blt mg := T.toBlt
  have tn := T.toNrs
  have taken := okTaken (P := P) (w := w) (base := base) D__law_taken B
  have thing := okThing D__law_thing B taken 3
  have place := okPlace D__law_place B thing
  have steps := okSteps D__law_step D__law_body B taken thing place 3
  have program := okProgram D__law_program B taken place steps.2
  have alike := okAlike (P := P) (w := w) (base := base) D__law_alike B 21
  have lw := okLawWords (P := P) (w := w) (base := base) D__law_words B 13
  have lt := okLawText D__law_text B lw
  have below := okIsBelow (P := P) (w := w) (base := base) D_is_below B
  have number := okIsNumber D_is_number tn below
  have shaped := okIsShaped (P := P) (w := w) (base := base) D_is_shaped B
  have plain := okIsPlain D_is_plain B below number shaped
  have nthing := okNeedThingX D_need_thing tn E_BadProgram shaped plain 6
  have nplace := okNeedPlaceX D_need_place T E_BadProgram nthing
  have ncall := okNeedCallX D_need_call T E_BadProgram below nthing
  have nbody := okNeedBodiesX D_need_body D_need_step T E_BadProgram shaped nthing nplace ncall 6
  have nhead := okNeedHeadX D_need_head tn E_BadProgram below
  have nprogram := okNeedProgramX D_need_program T E_BadProgram nhead nbody
  have item := okItem (P := P) (w := w) (base := base) K_Item OI
  have iskind := okIsKind (P := P) (w := w) (base := base) D_is_kind OI
  have toldas := okToldAs (P := P) (w := w) (base := base) D_told_as OI
  have takenk := okTakenK D_taken iskind toldas
  have takena := okTakenAll D_taken_all B iskind toldas
  have isfig := okIsFigures (P := P) (base := base) D_is_figures NT
  have rbody := okReadBody D_read_body item takenk takena
  have rcall := okReadCall D_read_call item takenk takena
  have rword := okReadWord D_read_word NT isfig item takenk rbody rcall
  have rwork := okReadWork D_read_work NT rword takenk takena
  have rd := okReadX D_read B (btx_at (w := w) (base := base) R_BadText G_BadText.g XF.2) rwork nprogram
  have told := okLawTold D__law_told B T_ValueError G_HandError G_BadText ⟨E_BadProgram.g⟩ G_BadCells G_BadWays TX_T TX_P XF rd
  have lnumber := okLawNumber (P := P) (w := w) (base := base) D__law_is_number B
  have lthing := okLawIsThing D__law_is_thing B lnumber 6
  have lbody := okLawIsBodies D__law_is_body D__law_is_step B lnumber lthing 6
  have lcount := okLawCount (P := P) (w := w) (base := base) D__law_count B 6
  have lprogram := okLawIsProgram D__law_is_program B lbody lcount
  have lfig := okLawFigures (P := P) (w := w) (base := base) D__law_is_figures B
  have thingat := okLawThingAt D__law_thing_at B lfig 122
  have thingsat := okLawThingsAt D__law_things_at B thingat
  have bodyat := okLawBodyFrom D__law_body_at D__law_step_at B lfig thingat thingsat 79
  have reading := (okLawReading D__law_reading B lfig bodyat lprogram).shallow (k := 125) (by omega) (by omega)
  have changed := okLawChanged D__law_changed B taken
  exact okLaw D_law B taken program lt told reading alike changed
theorem mk_D0 {K : PySem.W.Frag} {h : Heap} {mg : Str → Option Value} {f0 : Addr} {od0 an0 : Option Addr} {sl0 : Array (Option Value)} {oc0 kV0 dc0 pm0 cd0 ct0 : Value} (X : K.In h) (G : h.Ns mainGlobals mg)
    (a0 : PySem.W.nsIn K mainGlobals "is_below" = some (some (.ref f0)))
    (l0 : K.lookup f0 = some ⟨oc0, od0, .func (PySem.W.fnOf "is_below" "is_below" (defArgs sis_below) (defBody sis_below) (defScope sis_below) .none kV0 dc0 pm0 an0 cd0 ct0), sl0⟩)
    (c0 : PySem.W.codeIn K cd0 "is_below" = true)
    (k0 : PySem.W.keepIn K (.ref f0) = true) :
    DefAt K mg "is_below" sis_below pis_below := by
  have F0 := fun_mk (st := sis_below) l0 c0 k0
  exact ⟨_, _, F0, PySem.W.mg_of X G a0, F0.binds (ps := pis_below) fun _ _ _ _ _ _ us hl => by obtain ⟨x0, x1, rfl⟩ := Hw.len2 hl; rfl⟩
theorem mk_D1 {K : PySem.W.Frag} {h : Heap} {mg : Str → Option Value} {f1 : Addr} {od1 an1 : Option Addr} {sl1 : Array (Option Value)} {oc1 kV1 dc1 pm1 cd1 ct1 : Value} (X : K.In h) (G : h.Ns mainGlobals mg)
    (a1 : PySem.W.nsIn K mainGlobals "is_number" = some (some (.ref f1)))
    (l1 : K.lookup f1 = some ⟨oc1, od1, .func (PySem.W.fnOf "is_number" "is_number" (defArgs sis_number) (defBody sis_number) (defScope sis_number) .none kV1 dc1 pm1 an1 cd1 ct1), sl1⟩)
    (c1 : PySem.W.codeIn K cd1 "is_number" = true)
    (k1 : PySem.W.keepIn K (.ref f1) = true) :
    DefAt K mg "is_number" sis_number pis_number := by
  have F1 := fun_mk (st := sis_number) l1 c1 k1
  exact ⟨_, _, F1, PySem.W.mg_of X G a1, F1.binds (ps := pis_number) fun _ _ _ _ _ _ us hl => by obtain ⟨x0, rfl⟩ := Hw.len1 hl; rfl⟩
theorem mk_D2 {K : PySem.W.Frag} {h : Heap} {mg : Str → Option Value} {f2 : Addr} {od2 an2 : Option Addr} {sl2 : Array (Option Value)} {oc2 kV2 dc2 pm2 cd2 ct2 : Value} (X : K.In h) (G : h.Ns mainGlobals mg)
    (a2 : PySem.W.nsIn K mainGlobals "is_shaped" = some (some (.ref f2)))
    (l2 : K.lookup f2 = some ⟨oc2, od2, .func (PySem.W.fnOf "is_shaped" "is_shaped" (defArgs sis_shaped) (defBody sis_shaped) (defScope sis_shaped) .none kV2 dc2 pm2 an2 cd2 ct2), sl2⟩)
    (c2 : PySem.W.codeIn K cd2 "is_shaped" = true)
    (k2 : PySem.W.keepIn K (.ref f2) = true) :
    DefAt K mg "is_shaped" sis_shaped pis_shaped := by
  have F2 := fun_mk (st := sis_shaped) l2 c2 k2
  exact ⟨_, _, F2, PySem.W.mg_of X G a2, F2.binds (ps := pis_shaped) fun _ _ _ _ _ _ us hl => by obtain ⟨x0, x1, x2, rfl⟩ := Hw.len3 hl; rfl⟩
theorem mk_D3 {K : PySem.W.Frag} {h : Heap} {mg : Str → Option Value} {f3 : Addr} {od3 an3 : Option Addr} {sl3 : Array (Option Value)} {oc3 kV3 dc3 pm3 cd3 ct3 : Value} (X : K.In h) (G : h.Ns mainGlobals mg)
    (a3 : PySem.W.nsIn K mainGlobals "need_program" = some (some (.ref f3)))
    (l3 : K.lookup f3 = some ⟨oc3, od3, .func (PySem.W.fnOf "need_program" "need_program" (defArgs sneed_program) (defBody sneed_program) (defScope sneed_program) .none kV3 dc3 pm3 an3 cd3 ct3), sl3⟩)
    (c3 : PySem.W.codeIn K cd3 "need_program" = true)
    (k3 : PySem.W.keepIn K (.ref f3) = true) :
    DefAt K mg "need_program" sneed_program pneed_program := by
  have F3 := fun_mk (st := sneed_program) l3 c3 k3
  exact ⟨_, _, F3, PySem.W.mg_of X G a3, F3.binds (ps := pneed_program) fun _ _ _ _ _ _ us hl => by obtain ⟨x0, rfl⟩ := Hw.len1 hl; rfl⟩
theorem mk_D4 {K : PySem.W.Frag} {h : Heap} {mg : Str → Option Value} {f4 : Addr} {od4 an4 : Option Addr} {sl4 : Array (Option Value)} {oc4 kV4 dc4 pm4 cd4 ct4 : Value} (X : K.In h) (G : h.Ns mainGlobals mg)
    (a4 : PySem.W.nsIn K mainGlobals "need_head" = some (some (.ref f4)))
    (l4 : K.lookup f4 = some ⟨oc4, od4, .func (PySem.W.fnOf "need_head" "need_head" (defArgs sneed_head) (defBody sneed_head) (defScope sneed_head) .none kV4 dc4 pm4 an4 cd4 ct4), sl4⟩)
    (c4 : PySem.W.codeIn K cd4 "need_head" = true)
    (k4 : PySem.W.keepIn K (.ref f4) = true) :
    DefAt K mg "need_head" sneed_head pneed_head := by
  have F4 := fun_mk (st := sneed_head) l4 c4 k4
  exact ⟨_, _, F4, PySem.W.mg_of X G a4, F4.binds (ps := pneed_head) fun _ _ _ _ _ _ us hl => by obtain ⟨x0, x1, rfl⟩ := Hw.len2 hl; rfl⟩
theorem mk_D5 {K : PySem.W.Frag} {h : Heap} {mg : Str → Option Value} {f5 : Addr} {od5 an5 : Option Addr} {sl5 : Array (Option Value)} {oc5 kV5 dc5 pm5 cd5 ct5 : Value} (X : K.In h) (G : h.Ns mainGlobals mg)
    (a5 : PySem.W.nsIn K mainGlobals "need_body" = some (some (.ref f5)))
    (l5 : K.lookup f5 = some ⟨oc5, od5, .func (PySem.W.fnOf "need_body" "need_body" (defArgs sneed_body) (defBody sneed_body) (defScope sneed_body) .none kV5 dc5 pm5 an5 cd5 ct5), sl5⟩)
    (c5 : PySem.W.codeIn K cd5 "need_body" = true)
    (k5 : PySem.W.keepIn K (.ref f5) = true) :
    DefAt K mg "need_body" sneed_body pneed_body := by
  have F5 := fun_mk (st := sneed_body) l5 c5 k5
  exact ⟨_, _, F5, PySem.W.mg_of X G a5, F5.binds (ps := pneed_body) fun _ _ _ _ _ _ us hl => by obtain ⟨x0, x1, x2, x3, x4, rfl⟩ := Hw.len5 hl; rfl⟩
theorem mk_D6 {K : PySem.W.Frag} {h : Heap} {mg : Str → Option Value} {f6 : Addr} {od6 an6 : Option Addr} {sl6 : Array (Option Value)} {oc6 kV6 dc6 pm6 cd6 ct6 : Value} (X : K.In h) (G : h.Ns mainGlobals mg)
    (a6 : PySem.W.nsIn K mainGlobals "need_step" = some (some (.ref f6)))
    (l6 : K.lookup f6 = some ⟨oc6, od6, .func (PySem.W.fnOf "need_step" "need_step" (defArgs sneed_step) (defBody sneed_step) (defScope sneed_step) .none kV6 dc6 pm6 an6 cd6 ct6), sl6⟩)
    (c6 : PySem.W.codeIn K cd6 "need_step" = true)
    (k6 : PySem.W.keepIn K (.ref f6) = true) :
    DefAt K mg "need_step" sneed_step pneed_step := by
  have F6 := fun_mk (st := sneed_step) l6 c6 k6
  exact ⟨_, _, F6, PySem.W.mg_of X G a6, F6.binds (ps := pneed_step) fun _ _ _ _ _ _ us hl => by obtain ⟨x0, x1, x2, x3, x4, rfl⟩ := Hw.len5 hl; rfl⟩
theorem mk_D7 {K : PySem.W.Frag} {h : Heap} {mg : Str → Option Value} {f7 : Addr} {od7 an7 : Option Addr} {sl7 : Array (Option Value)} {oc7 kV7 dc7 pm7 cd7 ct7 : Value} (X : K.In h) (G : h.Ns mainGlobals mg)
    (a7 : PySem.W.nsIn K mainGlobals "need_call" = some (some (.ref f7)))
    (l7 : K.lookup f7 = some ⟨oc7, od7, .func (PySem.W.fnOf "need_call" "need_call" (defArgs sneed_call) (defBody sneed_call) (defScope sneed_call) .none kV7 dc7 pm7 an7 cd7 ct7), sl7⟩)
    (c7 : PySem.W.codeIn K cd7 "need_call" = true)
    (k7 : PySem.W.keepIn K (.ref f7) = true) :
    DefAt K mg "need_call" sneed_call pneed_call := by
  have F7 := fun_mk (st := sneed_call) l7 c7 k7
  exact ⟨_, _, F7, PySem.W.mg_of X G a7, F7.binds (ps := pneed_call) fun _ _ _ _ _ _ us hl => by obtain ⟨x0, x1, x2, x3, rfl⟩ := Hw.len4 hl; rfl⟩
theorem mk_D8 {K : PySem.W.Frag} {h : Heap} {mg : Str → Option Value} {f8 : Addr} {od8 an8 : Option Addr} {sl8 : Array (Option Value)} {oc8 kV8 dc8 pm8 cd8 ct8 : Value} (X : K.In h) (G : h.Ns mainGlobals mg)
    (a8 : PySem.W.nsIn K mainGlobals "need_place" = some (some (.ref f8)))
    (l8 : K.lookup f8 = some ⟨oc8, od8, .func (PySem.W.fnOf "need_place" "need_place" (defArgs sneed_place) (defBody sneed_place) (defScope sneed_place) .none kV8 dc8 pm8 an8 cd8 ct8), sl8⟩)
    (c8 : PySem.W.codeIn K cd8 "need_place" = true)
    (k8 : PySem.W.keepIn K (.ref f8) = true) :
    DefAt K mg "need_place" sneed_place pneed_place := by
  have F8 := fun_mk (st := sneed_place) l8 c8 k8
  exact ⟨_, _, F8, PySem.W.mg_of X G a8, F8.binds (ps := pneed_place) fun _ _ _ _ _ _ us hl => by obtain ⟨x0, x1, rfl⟩ := Hw.len2 hl; rfl⟩
theorem mk_D9 {K : PySem.W.Frag} {h : Heap} {mg : Str → Option Value} {f9 : Addr} {od9 an9 : Option Addr} {sl9 : Array (Option Value)} {oc9 kV9 dc9 pm9 cd9 ct9 : Value} (X : K.In h) (G : h.Ns mainGlobals mg)
    (a9 : PySem.W.nsIn K mainGlobals "need_thing" = some (some (.ref f9)))
    (l9 : K.lookup f9 = some ⟨oc9, od9, .func (PySem.W.fnOf "need_thing" "need_thing" (defArgs sneed_thing) (defBody sneed_thing) (defScope sneed_thing) .none kV9 dc9 pm9 an9 cd9 ct9), sl9⟩)
    (c9 : PySem.W.codeIn K cd9 "need_thing" = true)
    (k9 : PySem.W.keepIn K (.ref f9) = true) :
    DefAt K mg "need_thing" sneed_thing pneed_thing := by
  have F9 := fun_mk (st := sneed_thing) l9 c9 k9
  exact ⟨_, _, F9, PySem.W.mg_of X G a9, F9.binds (ps := pneed_thing) fun _ _ _ _ _ _ us hl => by obtain ⟨x0, x1, x2, rfl⟩ := Hw.len3 hl; rfl⟩
theorem mk_D10 {K : PySem.W.Frag} {h : Heap} {mg : Str → Option Value} {f10 : Addr} {od10 an10 : Option Addr} {sl10 : Array (Option Value)} {oc10 kV10 dc10 pm10 cd10 ct10 : Value} (X : K.In h) (G : h.Ns mainGlobals mg)
    (a10 : PySem.W.nsIn K mainGlobals "is_plain" = some (some (.ref f10)))
    (l10 : K.lookup f10 = some ⟨oc10, od10, .func (PySem.W.fnOf "is_plain" "is_plain" (defArgs sis_plain) (defBody sis_plain) (defScope sis_plain) .none kV10 dc10 pm10 an10 cd10 ct10), sl10⟩)
    (c10 : PySem.W.codeIn K cd10 "is_plain" = true)
    (k10 : PySem.W.keepIn K (.ref f10) = true) :
    DefAt K mg "is_plain" sis_plain pis_plain := by
  have F10 := fun_mk (st := sis_plain) l10 c10 k10
  exact ⟨_, _, F10, PySem.W.mg_of X G a10, F10.binds (ps := pis_plain) fun _ _ _ _ _ _ us hl => by obtain ⟨x0, x1, rfl⟩ := Hw.len2 hl; rfl⟩
theorem mk_D11 {K : PySem.W.Frag} {h : Heap} {mg : Str → Option Value} {f11 : Addr} {od11 an11 : Option Addr} {sl11 : Array (Option Value)} {oc11 kV11 dc11 pm11 cd11 ct11 : Value} (X : K.In h) (G : h.Ns mainGlobals mg)
    (a11 : PySem.W.nsIn K mainGlobals "read" = some (some (.ref f11)))
    (l11 : K.lookup f11 = some ⟨oc11, od11, .func (PySem.W.fnOf "read" "read" (defArgs sread) (defBody sread) (defScope sread) .none kV11 dc11 pm11 an11 cd11 ct11), sl11⟩)
    (c11 : PySem.W.codeIn K cd11 "read" = true)
    (k11 : PySem.W.keepIn K (.ref f11) = true) :
    DefAt K mg "read" sread pread := by
  have F11 := fun_mk (st := sread) l11 c11 k11
  exact ⟨_, _, F11, PySem.W.mg_of X G a11, F11.binds (ps := pread) fun _ _ _ _ _ _ us hl => by obtain ⟨x0, rfl⟩ := Hw.len1 hl; rfl⟩
theorem mk_D12 {K : PySem.W.Frag} {h : Heap} {mg : Str → Option Value} {f12 : Addr} {od12 an12 : Option Addr} {sl12 : Array (Option Value)} {oc12 kV12 dc12 pm12 cd12 ct12 : Value} (X : K.In h) (G : h.Ns mainGlobals mg)
    (a12 : PySem.W.nsIn K mainGlobals "read_work" = some (some (.ref f12)))
    (l12 : K.lookup f12 = some ⟨oc12, od12, .func (PySem.W.fnOf "read_work" "read_work" (defArgs sread_work) (defBody sread_work) (defScope sread_work) .none kV12 dc12 pm12 an12 cd12 ct12), sl12⟩)
    (c12 : PySem.W.codeIn K cd12 "read_work" = true)
    (k12 : PySem.W.keepIn K (.ref f12) = true) :
    DefAt K mg "read_work" sread_work pread_work := by
  have F12 := fun_mk (st := sread_work) l12 c12 k12
  exact ⟨_, _, F12, PySem.W.mg_of X G a12, F12.binds (ps := pread_work) fun _ _ _ _ _ _ us hl => by obtain ⟨x0, rfl⟩ := Hw.len1 hl; rfl⟩
theorem mk_D13 {K : PySem.W.Frag} {h : Heap} {mg : Str → Option Value} {f13 : Addr} {od13 an13 : Option Addr} {sl13 : Array (Option Value)} {oc13 kV13 dc13 pm13 cd13 ct13 : Value} (X : K.In h) (G : h.Ns mainGlobals mg)
    (a13 : PySem.W.nsIn K mainGlobals "read_word" = some (some (.ref f13)))
    (l13 : K.lookup f13 = some ⟨oc13, od13, .func (PySem.W.fnOf "read_word" "read_word" (defArgs sread_word) (defBody sread_word) (defScope sread_word) .none kV13 dc13 pm13 an13 cd13 ct13), sl13⟩)
    (c13 : PySem.W.codeIn K cd13 "read_word" = true)
    (k13 : PySem.W.keepIn K (.ref f13) = true) :
    DefAt K mg "read_word" sread_word pread_word := by
  have F13 := fun_mk (st := sread_word) l13 c13 k13
  exact ⟨_, _, F13, PySem.W.mg_of X G a13, F13.binds (ps := pread_word) fun _ _ _ _ _ _ us hl => by obtain ⟨x0, x1, rfl⟩ := Hw.len2 hl; rfl⟩
theorem mk_D14 {K : PySem.W.Frag} {h : Heap} {mg : Str → Option Value} {f14 : Addr} {od14 an14 : Option Addr} {sl14 : Array (Option Value)} {oc14 kV14 dc14 pm14 cd14 ct14 : Value} (X : K.In h) (G : h.Ns mainGlobals mg)
    (a14 : PySem.W.nsIn K mainGlobals "is_figures" = some (some (.ref f14)))
    (l14 : K.lookup f14 = some ⟨oc14, od14, .func (PySem.W.fnOf "is_figures" "is_figures" (defArgs sis_figures) (defBody sis_figures) (defScope sis_figures) .none kV14 dc14 pm14 an14 cd14 ct14), sl14⟩)
    (c14 : PySem.W.codeIn K cd14 "is_figures" = true)
    (k14 : PySem.W.keepIn K (.ref f14) = true) :
    DefAt K mg "is_figures" sis_figures pis_figures := by
  have F14 := fun_mk (st := sis_figures) l14 c14 k14
  exact ⟨_, _, F14, PySem.W.mg_of X G a14, F14.binds (ps := pis_figures) fun _ _ _ _ _ _ us hl => by obtain ⟨x0, rfl⟩ := Hw.len1 hl; rfl⟩
theorem mk_D15 {K : PySem.W.Frag} {h : Heap} {mg : Str → Option Value} {f15 : Addr} {od15 an15 : Option Addr} {sl15 : Array (Option Value)} {oc15 kV15 dc15 pm15 cd15 ct15 : Value} (X : K.In h) (G : h.Ns mainGlobals mg)
    (a15 : PySem.W.nsIn K mainGlobals "read_body" = some (some (.ref f15)))
    (l15 : K.lookup f15 = some ⟨oc15, od15, .func (PySem.W.fnOf "read_body" "read_body" (defArgs sread_body) (defBody sread_body) (defScope sread_body) .none kV15 dc15 pm15 an15 cd15 ct15), sl15⟩)
    (c15 : PySem.W.codeIn K cd15 "read_body" = true)
    (k15 : PySem.W.keepIn K (.ref f15) = true) :
    DefAt K mg "read_body" sread_body pread_body := by
  have F15 := fun_mk (st := sread_body) l15 c15 k15
  exact ⟨_, _, F15, PySem.W.mg_of X G a15, F15.binds (ps := pread_body) fun _ _ _ _ _ _ us hl => by obtain ⟨x0, rfl⟩ := Hw.len1 hl; rfl⟩
theorem mk_D16 {K : PySem.W.Frag} {h : Heap} {mg : Str → Option Value} {f16 : Addr} {od16 an16 : Option Addr} {sl16 : Array (Option Value)} {oc16 kV16 dc16 pm16 cd16 ct16 : Value} (X : K.In h) (G : h.Ns mainGlobals mg)
    (a16 : PySem.W.nsIn K mainGlobals "read_call" = some (some (.ref f16)))
    (l16 : K.lookup f16 = some ⟨oc16, od16, .func (PySem.W.fnOf "read_call" "read_call" (defArgs sread_call) (defBody sread_call) (defScope sread_call) .none kV16 dc16 pm16 an16 cd16 ct16), sl16⟩)
    (c16 : PySem.W.codeIn K cd16 "read_call" = true)
    (k16 : PySem.W.keepIn K (.ref f16) = true) :
    DefAt K mg "read_call" sread_call pread_call := by
  have F16 := fun_mk (st := sread_call) l16 c16 k16
  exact ⟨_, _, F16, PySem.W.mg_of X G a16, F16.binds (ps := pread_call) fun _ _ _ _ _ _ us hl => by obtain ⟨x0, rfl⟩ := Hw.len1 hl; rfl⟩
theorem mk_D17 {K : PySem.W.Frag} {h : Heap} {mg : Str → Option Value} {f17 : Addr} {od17 an17 : Option Addr} {sl17 : Array (Option Value)} {oc17 kV17 dc17 pm17 cd17 ct17 : Value} (X : K.In h) (G : h.Ns mainGlobals mg)
    (a17 : PySem.W.nsIn K mainGlobals "taken" = some (some (.ref f17)))
    (l17 : K.lookup f17 = some ⟨oc17, od17, .func (PySem.W.fnOf "taken" "taken" (defArgs staken) (defBody staken) (defScope staken) .none kV17 dc17 pm17 an17 cd17 ct17), sl17⟩)
    (c17 : PySem.W.codeIn K cd17 "taken" = true)
    (k17 : PySem.W.keepIn K (.ref f17) = true) :
    DefAt K mg "taken" staken ptaken := by
  have F17 := fun_mk (st := staken) l17 c17 k17
  exact ⟨_, _, F17, PySem.W.mg_of X G a17, F17.binds (ps := ptaken) fun _ _ _ _ _ _ us hl => by obtain ⟨x0, x1, rfl⟩ := Hw.len2 hl; rfl⟩
theorem mk_D18 {K : PySem.W.Frag} {h : Heap} {mg : Str → Option Value} {f18 : Addr} {od18 an18 : Option Addr} {sl18 : Array (Option Value)} {oc18 kV18 dc18 pm18 cd18 ct18 : Value} (X : K.In h) (G : h.Ns mainGlobals mg)
    (a18 : PySem.W.nsIn K mainGlobals "taken_all" = some (some (.ref f18)))
    (l18 : K.lookup f18 = some ⟨oc18, od18, .func (PySem.W.fnOf "taken_all" "taken_all" (defArgs staken_all) (defBody staken_all) (defScope staken_all) .none kV18 dc18 pm18 an18 cd18 ct18), sl18⟩)
    (c18 : PySem.W.codeIn K cd18 "taken_all" = true)
    (k18 : PySem.W.keepIn K (.ref f18) = true) :
    DefAt K mg "taken_all" staken_all ptaken_all := by
  have F18 := fun_mk (st := staken_all) l18 c18 k18
  exact ⟨_, _, F18, PySem.W.mg_of X G a18, F18.binds (ps := ptaken_all) fun _ _ _ _ _ _ us hl => by obtain ⟨x0, x1, rfl⟩ := Hw.len2 hl; rfl⟩
theorem mk_D19 {K : PySem.W.Frag} {h : Heap} {mg : Str → Option Value} {f19 : Addr} {od19 an19 : Option Addr} {sl19 : Array (Option Value)} {oc19 kV19 dc19 pm19 cd19 ct19 : Value} (X : K.In h) (G : h.Ns mainGlobals mg)
    (a19 : PySem.W.nsIn K mainGlobals "is_kind" = some (some (.ref f19)))
    (l19 : K.lookup f19 = some ⟨oc19, od19, .func (PySem.W.fnOf "is_kind" "is_kind" (defArgs sis_kind) (defBody sis_kind) (defScope sis_kind) .none kV19 dc19 pm19 an19 cd19 ct19), sl19⟩)
    (c19 : PySem.W.codeIn K cd19 "is_kind" = true)
    (k19 : PySem.W.keepIn K (.ref f19) = true) :
    DefAt K mg "is_kind" sis_kind pis_kind := by
  have F19 := fun_mk (st := sis_kind) l19 c19 k19
  exact ⟨_, _, F19, PySem.W.mg_of X G a19, F19.binds (ps := pis_kind) fun _ _ _ _ _ _ us hl => by obtain ⟨x0, x1, rfl⟩ := Hw.len2 hl; rfl⟩
theorem mk_D20 {K : PySem.W.Frag} {h : Heap} {mg : Str → Option Value} {f20 : Addr} {od20 an20 : Option Addr} {sl20 : Array (Option Value)} {oc20 kV20 dc20 pm20 cd20 ct20 : Value} (X : K.In h) (G : h.Ns mainGlobals mg)
    (a20 : PySem.W.nsIn K mainGlobals "told_as" = some (some (.ref f20)))
    (l20 : K.lookup f20 = some ⟨oc20, od20, .func (PySem.W.fnOf "told_as" "told_as" (defArgs stold_as) (defBody stold_as) (defScope stold_as) .none kV20 dc20 pm20 an20 cd20 ct20), sl20⟩)
    (c20 : PySem.W.codeIn K cd20 "told_as" = true)
    (k20 : PySem.W.keepIn K (.ref f20) = true) :
    DefAt K mg "told_as" stold_as ptold_as := by
  have F20 := fun_mk (st := stold_as) l20 c20 k20
  exact ⟨_, _, F20, PySem.W.mg_of X G a20, F20.binds (ps := ptold_as) fun _ _ _ _ _ _ us hl => by obtain ⟨x0, x1, rfl⟩ := Hw.len2 hl; rfl⟩
theorem mk_D21 {K : PySem.W.Frag} {h : Heap} {mg : Str → Option Value} {f21 : Addr} {od21 an21 : Option Addr} {sl21 : Array (Option Value)} {oc21 kV21 dc21 pm21 cd21 ct21 : Value} (X : K.In h) (G : h.Ns mainGlobals mg)
    (a21 : PySem.W.nsIn K mainGlobals "_law_taken" = some (some (.ref f21)))
    (l21 : K.lookup f21 = some ⟨oc21, od21, .func (PySem.W.fnOf "_law_taken" "_law_taken" (defArgs sL_taken) (defBody sL_taken) (defScope sL_taken) .none kV21 dc21 pm21 an21 cd21 ct21), sl21⟩)
    (c21 : PySem.W.codeIn K cd21 "_law_taken" = true)
    (k21 : PySem.W.keepIn K (.ref f21) = true) :
    DefAt K mg "_law_taken" sL_taken pL_taken := by
  have F21 := fun_mk (st := sL_taken) l21 c21 k21
  exact ⟨_, _, F21, PySem.W.mg_of X G a21, F21.binds (ps := pL_taken) fun _ _ _ _ _ _ us hl => by obtain ⟨x0, x1, rfl⟩ := Hw.len2 hl; rfl⟩
theorem mk_D22 {K : PySem.W.Frag} {h : Heap} {mg : Str → Option Value} {f22 : Addr} {od22 an22 : Option Addr} {sl22 : Array (Option Value)} {oc22 kV22 dc22 pm22 cd22 ct22 : Value} (X : K.In h) (G : h.Ns mainGlobals mg)
    (a22 : PySem.W.nsIn K mainGlobals "_law_alike" = some (some (.ref f22)))
    (l22 : K.lookup f22 = some ⟨oc22, od22, .func (PySem.W.fnOf "_law_alike" "_law_alike" (defArgs sL_alike) (defBody sL_alike) (defScope sL_alike) .none kV22 dc22 pm22 an22 cd22 ct22), sl22⟩)
    (c22 : PySem.W.codeIn K cd22 "_law_alike" = true)
    (k22 : PySem.W.keepIn K (.ref f22) = true) :
    DefAt K mg "_law_alike" sL_alike pL_alike := by
  have F22 := fun_mk (st := sL_alike) l22 c22 k22
  exact ⟨_, _, F22, PySem.W.mg_of X G a22, F22.binds (ps := pL_alike) fun _ _ _ _ _ _ us hl => by obtain ⟨x0, x1, rfl⟩ := Hw.len2 hl; rfl⟩
theorem mk_D23 {K : PySem.W.Frag} {h : Heap} {mg : Str → Option Value} {f23 : Addr} {od23 an23 : Option Addr} {sl23 : Array (Option Value)} {oc23 kV23 dc23 pm23 cd23 ct23 : Value} (X : K.In h) (G : h.Ns mainGlobals mg)
    (a23 : PySem.W.nsIn K mainGlobals "_law_thing" = some (some (.ref f23)))
    (l23 : K.lookup f23 = some ⟨oc23, od23, .func (PySem.W.fnOf "_law_thing" "_law_thing" (defArgs sL_thing) (defBody sL_thing) (defScope sL_thing) .none kV23 dc23 pm23 an23 cd23 ct23), sl23⟩)
    (c23 : PySem.W.codeIn K cd23 "_law_thing" = true)
    (k23 : PySem.W.keepIn K (.ref f23) = true) :
    DefAt K mg "_law_thing" sL_thing pL_thing := by
  have F23 := fun_mk (st := sL_thing) l23 c23 k23
  exact ⟨_, _, F23, PySem.W.mg_of X G a23, F23.binds (ps := pL_thing) fun _ _ _ _ _ _ us hl => by obtain ⟨x0, x1, x2, rfl⟩ := Hw.len3 hl; rfl⟩
theorem mk_D24 {K : PySem.W.Frag} {h : Heap} {mg : Str → Option Value} {f24 : Addr} {od24 an24 : Option Addr} {sl24 : Array (Option Value)} {oc24 kV24 dc24 pm24 cd24 ct24 : Value} (X : K.In h) (G : h.Ns mainGlobals mg)
    (a24 : PySem.W.nsIn K mainGlobals "_law_place" = some (some (.ref f24)))
    (l24 : K.lookup f24 = some ⟨oc24, od24, .func (PySem.W.fnOf "_law_place" "_law_place" (defArgs sL_place) (defBody sL_place) (defScope sL_place) .none kV24 dc24 pm24 an24 cd24 ct24), sl24⟩)
    (c24 : PySem.W.codeIn K cd24 "_law_place" = true)
    (k24 : PySem.W.keepIn K (.ref f24) = true) :
    DefAt K mg "_law_place" sL_place pL_place := by
  have F24 := fun_mk (st := sL_place) l24 c24 k24
  exact ⟨_, _, F24, PySem.W.mg_of X G a24, F24.binds (ps := pL_place) fun _ _ _ _ _ _ us hl => by obtain ⟨x0, x1, x2, rfl⟩ := Hw.len3 hl; rfl⟩
theorem mk_D25 {K : PySem.W.Frag} {h : Heap} {mg : Str → Option Value} {f25 : Addr} {od25 an25 : Option Addr} {sl25 : Array (Option Value)} {oc25 kV25 dc25 pm25 cd25 ct25 : Value} (X : K.In h) (G : h.Ns mainGlobals mg)
    (a25 : PySem.W.nsIn K mainGlobals "_law_step" = some (some (.ref f25)))
    (l25 : K.lookup f25 = some ⟨oc25, od25, .func (PySem.W.fnOf "_law_step" "_law_step" (defArgs sL_step) (defBody sL_step) (defScope sL_step) .none kV25 dc25 pm25 an25 cd25 ct25), sl25⟩)
    (c25 : PySem.W.codeIn K cd25 "_law_step" = true)
    (k25 : PySem.W.keepIn K (.ref f25) = true) :
    DefAt K mg "_law_step" sL_step pL_step := by
  have F25 := fun_mk (st := sL_step) l25 c25 k25
  exact ⟨_, _, F25, PySem.W.mg_of X G a25, F25.binds (ps := pL_step) fun _ _ _ _ _ _ us hl => by obtain ⟨x0, x1, x2, x3, x4, rfl⟩ := Hw.len5 hl; rfl⟩
theorem mk_D26 {K : PySem.W.Frag} {h : Heap} {mg : Str → Option Value} {f26 : Addr} {od26 an26 : Option Addr} {sl26 : Array (Option Value)} {oc26 kV26 dc26 pm26 cd26 ct26 : Value} (X : K.In h) (G : h.Ns mainGlobals mg)
    (a26 : PySem.W.nsIn K mainGlobals "_law_body" = some (some (.ref f26)))
    (l26 : K.lookup f26 = some ⟨oc26, od26, .func (PySem.W.fnOf "_law_body" "_law_body" (defArgs sL_body) (defBody sL_body) (defScope sL_body) .none kV26 dc26 pm26 an26 cd26 ct26), sl26⟩)
    (c26 : PySem.W.codeIn K cd26 "_law_body" = true)
    (k26 : PySem.W.keepIn K (.ref f26) = true) :
    DefAt K mg "_law_body" sL_body pL_body := by
  have F26 := fun_mk (st := sL_body) l26 c26 k26
  exact ⟨_, _, F26, PySem.W.mg_of X G a26, F26.binds (ps := pL_body) fun _ _ _ _ _ _ us hl => by obtain ⟨x0, x1, x2, x3, x4, rfl⟩ := Hw.len5 hl; rfl⟩
theorem mk_D27 {K : PySem.W.Frag} {h : Heap} {mg : Str → Option Value} {f27 : Addr} {od27 an27 : Option Addr} {sl27 : Array (Option Value)} {oc27 kV27 dc27 pm27 cd27 ct27 : Value} (X : K.In h) (G : h.Ns mainGlobals mg)
    (a27 : PySem.W.nsIn K mainGlobals "_law_program" = some (some (.ref f27)))
    (l27 : K.lookup f27 = some ⟨oc27, od27, .func (PySem.W.fnOf "_law_program" "_law_program" (defArgs sL_program) (defBody sL_program) (defScope sL_program) .none kV27 dc27 pm27 an27 cd27 ct27), sl27⟩)
    (c27 : PySem.W.codeIn K cd27 "_law_program" = true)
    (k27 : PySem.W.keepIn K (.ref f27) = true) :
    DefAt K mg "_law_program" sL_program pL_program := by
  have F27 := fun_mk (st := sL_program) l27 c27 k27
  exact ⟨_, _, F27, PySem.W.mg_of X G a27, F27.binds (ps := pL_program) fun _ _ _ _ _ _ us hl => by obtain ⟨x0, x1, rfl⟩ := Hw.len2 hl; rfl⟩
theorem mk_D28 {K : PySem.W.Frag} {h : Heap} {mg : Str → Option Value} {f28 : Addr} {od28 an28 : Option Addr} {sl28 : Array (Option Value)} {oc28 kV28 dc28 pm28 cd28 ct28 : Value} (X : K.In h) (G : h.Ns mainGlobals mg)
    (a28 : PySem.W.nsIn K mainGlobals "_law_words" = some (some (.ref f28)))
    (l28 : K.lookup f28 = some ⟨oc28, od28, .func (PySem.W.fnOf "_law_words" "_law_words" (defArgs sL_words) (defBody sL_words) (defScope sL_words) .none kV28 dc28 pm28 an28 cd28 ct28), sl28⟩)
    (c28 : PySem.W.codeIn K cd28 "_law_words" = true)
    (k28 : PySem.W.keepIn K (.ref f28) = true) :
    DefAt K mg "_law_words" sL_words pL_words := by
  have F28 := fun_mk (st := sL_words) l28 c28 k28
  exact ⟨_, _, F28, PySem.W.mg_of X G a28, F28.binds (ps := pL_words) fun _ _ _ _ _ _ us hl => by obtain ⟨x0, rfl⟩ := Hw.len1 hl; rfl⟩
theorem mk_D29 {K : PySem.W.Frag} {h : Heap} {mg : Str → Option Value} {f29 : Addr} {od29 an29 : Option Addr} {sl29 : Array (Option Value)} {oc29 kV29 dc29 pm29 cd29 ct29 : Value} (X : K.In h) (G : h.Ns mainGlobals mg)
    (a29 : PySem.W.nsIn K mainGlobals "_law_text" = some (some (.ref f29)))
    (l29 : K.lookup f29 = some ⟨oc29, od29, .func (PySem.W.fnOf "_law_text" "_law_text" (defArgs sL_text) (defBody sL_text) (defScope sL_text) .none kV29 dc29 pm29 an29 cd29 ct29), sl29⟩)
    (c29 : PySem.W.codeIn K cd29 "_law_text" = true)
    (k29 : PySem.W.keepIn K (.ref f29) = true) :
    DefAt K mg "_law_text" sL_text pL_text := by
  have F29 := fun_mk (st := sL_text) l29 c29 k29
  exact ⟨_, _, F29, PySem.W.mg_of X G a29, F29.binds (ps := pL_text) fun _ _ _ _ _ _ us hl => by obtain ⟨x0, rfl⟩ := Hw.len1 hl; rfl⟩
theorem mk_D30 {K : PySem.W.Frag} {h : Heap} {mg : Str → Option Value} {f30 : Addr} {od30 an30 : Option Addr} {sl30 : Array (Option Value)} {oc30 kV30 dc30 pm30 cd30 ct30 : Value} (X : K.In h) (G : h.Ns mainGlobals mg)
    (a30 : PySem.W.nsIn K mainGlobals "_law_is_number" = some (some (.ref f30)))
    (l30 : K.lookup f30 = some ⟨oc30, od30, .func (PySem.W.fnOf "_law_is_number" "_law_is_number" (defArgs sL_is_number) (defBody sL_is_number) (defScope sL_is_number) .none kV30 dc30 pm30 an30 cd30 ct30), sl30⟩)
    (c30 : PySem.W.codeIn K cd30 "_law_is_number" = true)
    (k30 : PySem.W.keepIn K (.ref f30) = true) :
    DefAt K mg "_law_is_number" sL_is_number pL_is_number := by
  have F30 := fun_mk (st := sL_is_number) l30 c30 k30
  exact ⟨_, _, F30, PySem.W.mg_of X G a30, F30.binds (ps := pL_is_number) fun _ _ _ _ _ _ us hl => by obtain ⟨x0, x1, rfl⟩ := Hw.len2 hl; rfl⟩
theorem mk_D31 {K : PySem.W.Frag} {h : Heap} {mg : Str → Option Value} {f31 : Addr} {od31 an31 : Option Addr} {sl31 : Array (Option Value)} {oc31 kV31 dc31 pm31 cd31 ct31 : Value} (X : K.In h) (G : h.Ns mainGlobals mg)
    (a31 : PySem.W.nsIn K mainGlobals "_law_is_thing" = some (some (.ref f31)))
    (l31 : K.lookup f31 = some ⟨oc31, od31, .func (PySem.W.fnOf "_law_is_thing" "_law_is_thing" (defArgs sL_is_thing) (defBody sL_is_thing) (defScope sL_is_thing) .none kV31 dc31 pm31 an31 cd31 ct31), sl31⟩)
    (c31 : PySem.W.codeIn K cd31 "_law_is_thing" = true)
    (k31 : PySem.W.keepIn K (.ref f31) = true) :
    DefAt K mg "_law_is_thing" sL_is_thing pL_is_thing := by
  have F31 := fun_mk (st := sL_is_thing) l31 c31 k31
  exact ⟨_, _, F31, PySem.W.mg_of X G a31, F31.binds (ps := pL_is_thing) fun _ _ _ _ _ _ us hl => by obtain ⟨x0, x1, x2, rfl⟩ := Hw.len3 hl; rfl⟩
theorem mk_D32 {K : PySem.W.Frag} {h : Heap} {mg : Str → Option Value} {f32 : Addr} {od32 an32 : Option Addr} {sl32 : Array (Option Value)} {oc32 kV32 dc32 pm32 cd32 ct32 : Value} (X : K.In h) (G : h.Ns mainGlobals mg)
    (a32 : PySem.W.nsIn K mainGlobals "_law_is_step" = some (some (.ref f32)))
    (l32 : K.lookup f32 = some ⟨oc32, od32, .func (PySem.W.fnOf "_law_is_step" "_law_is_step" (defArgs sL_is_step) (defBody sL_is_step) (defScope sL_is_step) .none kV32 dc32 pm32 an32 cd32 ct32), sl32⟩)
    (c32 : PySem.W.codeIn K cd32 "_law_is_step" = true)
    (k32 : PySem.W.keepIn K (.ref f32) = true) :
    DefAt K mg "_law_is_step" sL_is_step pL_is_step := by
  have F32 := fun_mk (st := sL_is_step) l32 c32 k32
  exact ⟨_, _, F32, PySem.W.mg_of X G a32, F32.binds (ps := pL_is_step) fun _ _ _ _ _ _ us hl => by obtain ⟨x0, x1, x2, x3, rfl⟩ := Hw.len4 hl; rfl⟩
theorem mk_D33 {K : PySem.W.Frag} {h : Heap} {mg : Str → Option Value} {f33 : Addr} {od33 an33 : Option Addr} {sl33 : Array (Option Value)} {oc33 kV33 dc33 pm33 cd33 ct33 : Value} (X : K.In h) (G : h.Ns mainGlobals mg)
    (a33 : PySem.W.nsIn K mainGlobals "_law_is_body" = some (some (.ref f33)))
    (l33 : K.lookup f33 = some ⟨oc33, od33, .func (PySem.W.fnOf "_law_is_body" "_law_is_body" (defArgs sL_is_body) (defBody sL_is_body) (defScope sL_is_body) .none kV33 dc33 pm33 an33 cd33 ct33), sl33⟩)
    (c33 : PySem.W.codeIn K cd33 "_law_is_body" = true)
    (k33 : PySem.W.keepIn K (.ref f33) = true) :
    DefAt K mg "_law_is_body" sL_is_body pL_is_body := by
  have F33 := fun_mk (st := sL_is_body) l33 c33 k33
  exact ⟨_, _, F33, PySem.W.mg_of X G a33, F33.binds (ps := pL_is_body) fun _ _ _ _ _ _ us hl => by obtain ⟨x0, x1, x2, x3, rfl⟩ := Hw.len4 hl; rfl⟩
theorem mk_D34 {K : PySem.W.Frag} {h : Heap} {mg : Str → Option Value} {f34 : Addr} {od34 an34 : Option Addr} {sl34 : Array (Option Value)} {oc34 kV34 dc34 pm34 cd34 ct34 : Value} (X : K.In h) (G : h.Ns mainGlobals mg)
    (a34 : PySem.W.nsIn K mainGlobals "_law_count" = some (some (.ref f34)))
    (l34 : K.lookup f34 = some ⟨oc34, od34, .func (PySem.W.fnOf "_law_count" "_law_count" (defArgs sL_count) (defBody sL_count) (defScope sL_count) .none kV34 dc34 pm34 an34 cd34 ct34), sl34⟩)
    (c34 : PySem.W.codeIn K cd34 "_law_count" = true)
    (k34 : PySem.W.keepIn K (.ref f34) = true) :
    DefAt K mg "_law_count" sL_count pL_count := by
  have F34 := fun_mk (st := sL_count) l34 c34 k34
  exact ⟨_, _, F34, PySem.W.mg_of X G a34, F34.binds (ps := pL_count) fun _ _ _ _ _ _ us hl => by obtain ⟨x0, rfl⟩ := Hw.len1 hl; rfl⟩
theorem mk_D35 {K : PySem.W.Frag} {h : Heap} {mg : Str → Option Value} {f35 : Addr} {od35 an35 : Option Addr} {sl35 : Array (Option Value)} {oc35 kV35 dc35 pm35 cd35 ct35 : Value} (X : K.In h) (G : h.Ns mainGlobals mg)
    (a35 : PySem.W.nsIn K mainGlobals "_law_is_program" = some (some (.ref f35)))
    (l35 : K.lookup f35 = some ⟨oc35, od35, .func (PySem.W.fnOf "_law_is_program" "_law_is_program" (defArgs sL_is_program) (defBody sL_is_program) (defScope sL_is_program) .none kV35 dc35 pm35 an35 cd35 ct35), sl35⟩)
    (c35 : PySem.W.codeIn K cd35 "_law_is_program" = true)
    (k35 : PySem.W.keepIn K (.ref f35) = true) :
    DefAt K mg "_law_is_program" sL_is_program pL_is_program := by
  have F35 := fun_mk (st := sL_is_program) l35 c35 k35
  exact ⟨_, _, F35, PySem.W.mg_of X G a35, F35.binds (ps := pL_is_program) fun _ _ _ _ _ _ us hl => by obtain ⟨x0, rfl⟩ := Hw.len1 hl; rfl⟩
theorem mk_D36 {K : PySem.W.Frag} {h : Heap} {mg : Str → Option Value} {f36 : Addr} {od36 an36 : Option Addr} {sl36 : Array (Option Value)} {oc36 kV36 dc36 pm36 cd36 ct36 : Value} (X : K.In h) (G : h.Ns mainGlobals mg)
    (a36 : PySem.W.nsIn K mainGlobals "_law_is_figures" = some (some (.ref f36)))
    (l36 : K.lookup f36 = some ⟨oc36, od36, .func (PySem.W.fnOf "_law_is_figures" "_law_is_figures" (defArgs sL_is_figures) (defBody sL_is_figures) (defScope sL_is_figures) .none kV36 dc36 pm36 an36 cd36 ct36), sl36⟩)
    (c36 : PySem.W.codeIn K cd36 "_law_is_figures" = true)
    (k36 : PySem.W.keepIn K (.ref f36) = true) :
    DefAt K mg "_law_is_figures" sL_is_figures pL_is_figures := by
  have F36 := fun_mk (st := sL_is_figures) l36 c36 k36
  exact ⟨_, _, F36, PySem.W.mg_of X G a36, F36.binds (ps := pL_is_figures) fun _ _ _ _ _ _ us hl => by obtain ⟨x0, rfl⟩ := Hw.len1 hl; rfl⟩
theorem mk_D37 {K : PySem.W.Frag} {h : Heap} {mg : Str → Option Value} {f37 : Addr} {od37 an37 : Option Addr} {sl37 : Array (Option Value)} {oc37 kV37 dc37 pm37 cd37 ct37 : Value} (X : K.In h) (G : h.Ns mainGlobals mg)
    (a37 : PySem.W.nsIn K mainGlobals "_law_thing_at" = some (some (.ref f37)))
    (l37 : K.lookup f37 = some ⟨oc37, od37, .func (PySem.W.fnOf "_law_thing_at" "_law_thing_at" (defArgs sL_thing_at) (defBody sL_thing_at) (defScope sL_thing_at) .none kV37 dc37 pm37 an37 cd37 ct37), sl37⟩)
    (c37 : PySem.W.codeIn K cd37 "_law_thing_at" = true)
    (k37 : PySem.W.keepIn K (.ref f37) = true) :
    DefAt K mg "_law_thing_at" sL_thing_at pL_thing_at := by
  have F37 := fun_mk (st := sL_thing_at) l37 c37 k37
  exact ⟨_, _, F37, PySem.W.mg_of X G a37, F37.binds (ps := pL_thing_at) fun _ _ _ _ _ _ us hl => by obtain ⟨x0, x1, rfl⟩ := Hw.len2 hl; rfl⟩
theorem mk_D38 {K : PySem.W.Frag} {h : Heap} {mg : Str → Option Value} {f38 : Addr} {od38 an38 : Option Addr} {sl38 : Array (Option Value)} {oc38 kV38 dc38 pm38 cd38 ct38 : Value} (X : K.In h) (G : h.Ns mainGlobals mg)
    (a38 : PySem.W.nsIn K mainGlobals "_law_things_at" = some (some (.ref f38)))
    (l38 : K.lookup f38 = some ⟨oc38, od38, .func (PySem.W.fnOf "_law_things_at" "_law_things_at" (defArgs sL_things_at) (defBody sL_things_at) (defScope sL_things_at) .none kV38 dc38 pm38 an38 cd38 ct38), sl38⟩)
    (c38 : PySem.W.codeIn K cd38 "_law_things_at" = true)
    (k38 : PySem.W.keepIn K (.ref f38) = true) :
    DefAt K mg "_law_things_at" sL_things_at pL_things_at := by
  have F38 := fun_mk (st := sL_things_at) l38 c38 k38
  exact ⟨_, _, F38, PySem.W.mg_of X G a38, F38.binds (ps := pL_things_at) fun _ _ _ _ _ _ us hl => by obtain ⟨x0, x1, rfl⟩ := Hw.len2 hl; rfl⟩
theorem mk_D39 {K : PySem.W.Frag} {h : Heap} {mg : Str → Option Value} {f39 : Addr} {od39 an39 : Option Addr} {sl39 : Array (Option Value)} {oc39 kV39 dc39 pm39 cd39 ct39 : Value} (X : K.In h) (G : h.Ns mainGlobals mg)
    (a39 : PySem.W.nsIn K mainGlobals "_law_step_at" = some (some (.ref f39)))
    (l39 : K.lookup f39 = some ⟨oc39, od39, .func (PySem.W.fnOf "_law_step_at" "_law_step_at" (defArgs sL_step_at) (defBody sL_step_at) (defScope sL_step_at) .none kV39 dc39 pm39 an39 cd39 ct39), sl39⟩)
    (c39 : PySem.W.codeIn K cd39 "_law_step_at" = true)
    (k39 : PySem.W.keepIn K (.ref f39) = true) :
    DefAt K mg "_law_step_at" sL_step_at pL_step_at := by
  have F39 := fun_mk (st := sL_step_at) l39 c39 k39
  exact ⟨_, _, F39, PySem.W.mg_of X G a39, F39.binds (ps := pL_step_at) fun _ _ _ _ _ _ us hl => by obtain ⟨x0, x1, rfl⟩ := Hw.len2 hl; rfl⟩
theorem mk_D40 {K : PySem.W.Frag} {h : Heap} {mg : Str → Option Value} {f40 : Addr} {od40 an40 : Option Addr} {sl40 : Array (Option Value)} {oc40 kV40 dc40 pm40 cd40 ct40 : Value} (X : K.In h) (G : h.Ns mainGlobals mg)
    (a40 : PySem.W.nsIn K mainGlobals "_law_body_at" = some (some (.ref f40)))
    (l40 : K.lookup f40 = some ⟨oc40, od40, .func (PySem.W.fnOf "_law_body_at" "_law_body_at" (defArgs sL_body_at) (defBody sL_body_at) (defScope sL_body_at) .none kV40 dc40 pm40 an40 cd40 ct40), sl40⟩)
    (c40 : PySem.W.codeIn K cd40 "_law_body_at" = true)
    (k40 : PySem.W.keepIn K (.ref f40) = true) :
    DefAt K mg "_law_body_at" sL_body_at pL_body_at := by
  have F40 := fun_mk (st := sL_body_at) l40 c40 k40
  exact ⟨_, _, F40, PySem.W.mg_of X G a40, F40.binds (ps := pL_body_at) fun _ _ _ _ _ _ us hl => by obtain ⟨x0, x1, rfl⟩ := Hw.len2 hl; rfl⟩
theorem mk_D41 {K : PySem.W.Frag} {h : Heap} {mg : Str → Option Value} {f41 : Addr} {od41 an41 : Option Addr} {sl41 : Array (Option Value)} {oc41 kV41 dc41 pm41 cd41 ct41 : Value} (X : K.In h) (G : h.Ns mainGlobals mg)
    (a41 : PySem.W.nsIn K mainGlobals "_law_reading" = some (some (.ref f41)))
    (l41 : K.lookup f41 = some ⟨oc41, od41, .func (PySem.W.fnOf "_law_reading" "_law_reading" (defArgs sL_reading) (defBody sL_reading) (defScope sL_reading) .none kV41 dc41 pm41 an41 cd41 ct41), sl41⟩)
    (c41 : PySem.W.codeIn K cd41 "_law_reading" = true)
    (k41 : PySem.W.keepIn K (.ref f41) = true) :
    DefAt K mg "_law_reading" sL_reading pL_reading := by
  have F41 := fun_mk (st := sL_reading) l41 c41 k41
  exact ⟨_, _, F41, PySem.W.mg_of X G a41, F41.binds (ps := pL_reading) fun _ _ _ _ _ _ us hl => by obtain ⟨x0, rfl⟩ := Hw.len1 hl; rfl⟩
theorem mk_D42 {K : PySem.W.Frag} {h : Heap} {mg : Str → Option Value} {f42 : Addr} {od42 an42 : Option Addr} {sl42 : Array (Option Value)} {oc42 kV42 dc42 pm42 cd42 ct42 : Value} (X : K.In h) (G : h.Ns mainGlobals mg)
    (a42 : PySem.W.nsIn K mainGlobals "_law_told" = some (some (.ref f42)))
    (l42 : K.lookup f42 = some ⟨oc42, od42, .func (PySem.W.fnOf "_law_told" "_law_told" (defArgs sL_told) (defBody sL_told) (defScope sL_told) .none kV42 dc42 pm42 an42 cd42 ct42), sl42⟩)
    (c42 : PySem.W.codeIn K cd42 "_law_told" = true)
    (k42 : PySem.W.keepIn K (.ref f42) = true) :
    DefAt K mg "_law_told" sL_told pL_told := by
  have F42 := fun_mk (st := sL_told) l42 c42 k42
  exact ⟨_, _, F42, PySem.W.mg_of X G a42, F42.binds (ps := pL_told) fun _ _ _ _ _ _ us hl => by obtain ⟨x0, rfl⟩ := Hw.len1 hl; rfl⟩
theorem mk_D43 {K : PySem.W.Frag} {h : Heap} {mg : Str → Option Value} {f43 : Addr} {od43 an43 : Option Addr} {sl43 : Array (Option Value)} {oc43 kV43 dc43 pm43 cd43 ct43 : Value} (X : K.In h) (G : h.Ns mainGlobals mg)
    (a43 : PySem.W.nsIn K mainGlobals "_law_changed" = some (some (.ref f43)))
    (l43 : K.lookup f43 = some ⟨oc43, od43, .func (PySem.W.fnOf "_law_changed" "_law_changed" (defArgs sL_changed) (defBody sL_changed) (defScope sL_changed) .none kV43 dc43 pm43 an43 cd43 ct43), sl43⟩)
    (c43 : PySem.W.codeIn K cd43 "_law_changed" = true)
    (k43 : PySem.W.keepIn K (.ref f43) = true) :
    DefAt K mg "_law_changed" sL_changed pL_changed := by
  have F43 := fun_mk (st := sL_changed) l43 c43 k43
  exact ⟨_, _, F43, PySem.W.mg_of X G a43, F43.binds (ps := pL_changed) fun _ _ _ _ _ _ us hl => by obtain ⟨x0, x1, rfl⟩ := Hw.len2 hl; rfl⟩
theorem mk_CAI {K : PySem.W.Frag} {h : Heap} {mg : Str → Option Value} {CI : Addr} {f45 : Addr} {od45 an45 : Option Addr} {sl45 : Array (Option Value)} {oc45 kV45 dc45 pm45 cd45 ct45 : Value} (X : K.In h) (G : h.Ns mainGlobals mg)
    (aCI : PySem.W.nsIn K mainGlobals "Item" = some (some (.ref CI)))
    (a45 : PySem.W.findIn K (.ref CI) "__init__" = some (some (.ref f45)))
    (i45 : PySem.W.isFn K (.ref f45) = true)
    (l45 : K.lookup f45 = some ⟨oc45, od45, .func (PySem.W.fnOf "__init__" "Item.__init__" (defArgs sItem_init) (defBody sItem_init) (defScope sItem_init) .none kV45 dc45 pm45 an45 cd45 ct45), sl45⟩)
    (c45 : PySem.W.codeIn K cd45 "Item.__init__" = true)
    (k45 : PySem.W.keepIn K (.ref f45) = true)
    (mkI : PySem.W.makesIn K CI = true)
    (kcI : PySem.W.keepIn K (.ref CI) = true) :
    ClassAt K mg "Item" "Item.__init__" CI sItem_init pItem_init ∧ mg "Item" = some (.ref CI) := by
  have F45 := fun_mk (st := sItem_init) l45 c45 k45
  exact ⟨⟨f45, _, ⟨mkI, a45, i45, kcI⟩, F45, PySem.W.mg_of X G aCI, F45.binds (ps := pItem_init) fun _ _ _ _ _ _ us hl => by obtain ⟨x0, x1, x2, rfl⟩ := Hw.len3 hl; rfl⟩, PySem.W.mg_of X G aCI⟩
theorem mk_E_BadProgram {K : PySem.W.Frag} {h : Heap} {mg : Str → Option Value} {XBadProgram : Addr} (X : K.In h) (G : h.Ns mainGlobals mg)
    (xg_BadProgram : PySem.W.nsIn K mainGlobals "BadProgram" = some (some (.ref XBadProgram)))
    (xq_BadProgram : PySem.W.excIn K XBadProgram [.type "ValueError", .type "Exception", .type "BaseException", .type "object"] "ValueError.__new__" = true)
    (xk_BadProgram : PySem.W.keepIn K (.ref XBadProgram) = true)
    (xb_BadProgram : PySem.W.subIn K (.ref XBadProgram) (.type "BaseException") = some true)
    (xt_BadProgram : PySem.W.typeIn K (.ref XBadProgram) = some (.type "type"))
    (xga_BadProgram : PySem.W.findIn K (.ref XBadProgram) "__getattribute__" = some (some (.builtin "BaseException.__getattribute__")))
    (xgt_BadProgram : PySem.W.findIn K (.ref XBadProgram) "__getattr__" = some none)
    (xd_BadProgram : PySem.W.hasDictIn K XBadProgram = true)
    (xa_BadProgram : PySem.W.findIn K (.ref XBadProgram) "__class__" = some (some (.builtin "object.__class__")))
    (xm_BadProgram : PySem.W.mroIn K XBadProgram (.type "object") = some true)
    (xs_BadProgram : PySem.W.subIn K (.ref XBadProgram) (.ref XBadProgram) = some true)
    (xv_BadProgram : PySem.W.subIn K (.ref XBadProgram) (.type "ValueError") = some true)
    (hn : PySem.W.specialIn K (.builtin "object.__class__") "__get__" = some (some (.builtin "getset_descriptor.__get__")))
    (htk : PySem.W.takesIn K (.builtin "object.__class__") = some true) :
    ExcAt K mg "BadProgram" XBadProgram := by
  exact excAt_mk (PySem.W.mg_of X G xg_BadProgram) xq_BadProgram xk_BadProgram xb_BadProgram xt_BadProgram xga_BadProgram xgt_BadProgram xd_BadProgram xa_BadProgram hn htk xm_BadProgram xs_BadProgram xv_BadProgram
theorem mk_G_HandError {K : PySem.W.Frag} {h : Heap} {mg : Str → Option Value} {XHandError : Addr} (X : K.In h) (G : h.Ns mainGlobals mg)
    (xg_HandError : PySem.W.nsIn K mainGlobals "HandError" = some (some (.ref XHandError))) :
    GAt mg "HandError" XHandError := by
  exact ⟨PySem.W.mg_of X G xg_HandError⟩
theorem mk_G_BadText {K : PySem.W.Frag} {h : Heap} {mg : Str → Option Value} {XBadText : Addr} (X : K.In h) (G : h.Ns mainGlobals mg)
    (xg_BadText : PySem.W.nsIn K mainGlobals "BadText" = some (some (.ref XBadText))) :
    GAt mg "BadText" XBadText := by
  exact ⟨PySem.W.mg_of X G xg_BadText⟩
theorem mk_G_BadCells {K : PySem.W.Frag} {h : Heap} {mg : Str → Option Value} {XBadCells : Addr} (X : K.In h) (G : h.Ns mainGlobals mg)
    (xg_BadCells : PySem.W.nsIn K mainGlobals "BadCells" = some (some (.ref XBadCells))) :
    GAt mg "BadCells" XBadCells := by
  exact ⟨PySem.W.mg_of X G xg_BadCells⟩
theorem mk_G_BadWays {K : PySem.W.Frag} {h : Heap} {mg : Str → Option Value} {XBadWays : Addr} (X : K.In h) (G : h.Ns mainGlobals mg)
    (xg_BadWays : PySem.W.nsIn K mainGlobals "BadWays" = some (some (.ref XBadWays))) :
    GAt mg "BadWays" XBadWays := by
  exact ⟨PySem.W.mg_of X G xg_BadWays⟩
theorem mk_TX_BadText {K : PySem.W.Frag} {h : Heap} {mg : Str → Option Value} {XHandError XBadText XBadProgram XBadCells XBadWays : Addr} (X : K.In h) (G : h.Ns mainGlobals mg)
    (xga_BadText : PySem.W.findIn K (.ref XBadText) "__getattribute__" = some (some (.builtin "BaseException.__getattribute__")))
    (xgt_BadText : PySem.W.findIn K (.ref XBadText) "__getattr__" = some none)
    (xb_BadText : PySem.W.subIn K (.ref XBadText) (.type "BaseException") = some true)
    (xd_BadText : PySem.W.hasDictIn K XBadText = true)
    (xa_BadText : PySem.W.findIn K (.ref XBadText) "__class__" = some (some (.builtin "object.__class__")))
    (xm_BadText : PySem.W.mroIn K XBadText (.type "object") = some true)
    (xv_BadText : PySem.W.subIn K (.ref XBadText) (.type "ValueError") = some true)
    (xh_BadText : PySem.W.subIn K (.ref XBadText) (.ref XHandError) = some true)
    (hn : PySem.W.specialIn K (.builtin "object.__class__") "__get__" = some (some (.builtin "getset_descriptor.__get__")))
    (htk : PySem.W.takesIn K (.builtin "object.__class__") = some true)
    (xb_HandError : PySem.W.subIn K (.ref XHandError) (.type "BaseException") = some true)
    (xd_HandError : PySem.W.hasDictIn K XHandError = true)
    (xt_HandError : PySem.W.typeIn K (.ref XHandError) = some (.type "type"))
    (xn_BadText_BadProgram : XBadText ≠ XBadProgram)
    (xi_BadProgram : PySem.W.isClsIn K XBadProgram = true)
    (xt_BadProgram : PySem.W.typeIn K (.ref XBadProgram) = some (.type "type"))
    (xo_BadText_BadProgram : PySem.W.subIn K (.ref XBadText) (.ref XBadProgram) = some false)
    (xn_BadText_BadCells : XBadText ≠ XBadCells)
    (xi_BadCells : PySem.W.isClsIn K XBadCells = true)
    (xt_BadCells : PySem.W.typeIn K (.ref XBadCells) = some (.type "type"))
    (xo_BadText_BadCells : PySem.W.subIn K (.ref XBadText) (.ref XBadCells) = some false)
    (xn_BadText_BadWays : XBadText ≠ XBadWays)
    (xi_BadWays : PySem.W.isClsIn K XBadWays = true)
    (xt_BadWays : PySem.W.typeIn K (.ref XBadWays) = some (.type "type"))
    (xo_BadText_BadWays : PySem.W.subIn K (.ref XBadText) (.ref XBadWays) = some false) :
    TxE K XBadText XHandError XBadText XBadProgram XBadCells XBadWays true false := by
  exact ⟨⟨xga_BadText, xgt_BadText, xb_BadText, xd_BadText, xa_BadText, hn, htk, xm_BadText⟩, PySem.W.exm_ref xb_HandError xd_HandError xt_HandError xh_BadText, kit_ve xv_BadText, kit_self, kit_no xn_BadText_BadProgram xi_BadProgram xt_BadProgram xo_BadText_BadProgram, kit_no xn_BadText_BadCells xi_BadCells xt_BadCells xo_BadText_BadCells, kit_no xn_BadText_BadWays xi_BadWays xt_BadWays xo_BadText_BadWays⟩
theorem mk_TX_BadProgram {K : PySem.W.Frag} {h : Heap} {mg : Str → Option Value} {XHandError XBadText XBadProgram XBadCells XBadWays : Addr} (X : K.In h) (G : h.Ns mainGlobals mg)
    (xga_BadProgram : PySem.W.findIn K (.ref XBadProgram) "__getattribute__" = some (some (.builtin "BaseException.__getattribute__")))
    (xgt_BadProgram : PySem.W.findIn K (.ref XBadProgram) "__getattr__" = some none)
    (xb_BadProgram : PySem.W.subIn K (.ref XBadProgram) (.type "BaseException") = some true)
    (xd_BadProgram : PySem.W.hasDictIn K XBadProgram = true)
    (xa_BadProgram : PySem.W.findIn K (.ref XBadProgram) "__class__" = some (some (.builtin "object.__class__")))
    (xm_BadProgram : PySem.W.mroIn K XBadProgram (.type "object") = some true)
    (xv_BadProgram : PySem.W.subIn K (.ref XBadProgram) (.type "ValueError") = some true)
    (xh_BadProgram : PySem.W.subIn K (.ref XBadProgram) (.ref XHandError) = some true)
    (hn : PySem.W.specialIn K (.builtin "object.__class__") "__get__" = some (some (.builtin "getset_descriptor.__get__")))
    (htk : PySem.W.takesIn K (.builtin "object.__class__") = some true)
    (xb_HandError : PySem.W.subIn K (.ref XHandError) (.type "BaseException") = some true)
    (xd_HandError : PySem.W.hasDictIn K XHandError = true)
    (xt_HandError : PySem.W.typeIn K (.ref XHandError) = some (.type "type"))
    (xn_BadProgram_BadText : XBadProgram ≠ XBadText)
    (xi_BadText : PySem.W.isClsIn K XBadText = true)
    (xt_BadText : PySem.W.typeIn K (.ref XBadText) = some (.type "type"))
    (xo_BadProgram_BadText : PySem.W.subIn K (.ref XBadProgram) (.ref XBadText) = some false)
    (xn_BadProgram_BadCells : XBadProgram ≠ XBadCells)
    (xi_BadCells : PySem.W.isClsIn K XBadCells = true)
    (xt_BadCells : PySem.W.typeIn K (.ref XBadCells) = some (.type "type"))
    (xo_BadProgram_BadCells : PySem.W.subIn K (.ref XBadProgram) (.ref XBadCells) = some false)
    (xn_BadProgram_BadWays : XBadProgram ≠ XBadWays)
    (xi_BadWays : PySem.W.isClsIn K XBadWays = true)
    (xt_BadWays : PySem.W.typeIn K (.ref XBadWays) = some (.type "type"))
    (xo_BadProgram_BadWays : PySem.W.subIn K (.ref XBadProgram) (.ref XBadWays) = some false) :
    TxE K XBadProgram XHandError XBadText XBadProgram XBadCells XBadWays false true := by
  exact ⟨⟨xga_BadProgram, xgt_BadProgram, xb_BadProgram, xd_BadProgram, xa_BadProgram, hn, htk, xm_BadProgram⟩, PySem.W.exm_ref xb_HandError xd_HandError xt_HandError xh_BadProgram, kit_ve xv_BadProgram, kit_no xn_BadProgram_BadText xi_BadText xt_BadText xo_BadProgram_BadText, kit_self, kit_no xn_BadProgram_BadCells xi_BadCells xt_BadCells xo_BadProgram_BadCells, kit_no xn_BadProgram_BadWays xi_BadWays xt_BadWays xo_BadProgram_BadWays⟩
theorem mk_XF {K : PySem.W.Frag} {h : Heap} {mg : Str → Option Value} {XBadText : Addr} (X : K.In h) (G : h.Ns mainGlobals mg)
    (xga_BadText : PySem.W.findIn K (.ref XBadText) "__getattribute__" = some (some (.builtin "BaseException.__getattribute__")))
    (xgt_BadText : PySem.W.findIn K (.ref XBadText) "__getattr__" = some none)
    (xb_BadText : PySem.W.subIn K (.ref XBadText) (.type "BaseException") = some true)
    (xd_BadText : PySem.W.hasDictIn K XBadText = true)
    (xr_BadText : PySem.W.findIn K (.ref XBadText) "row" = some none) :
    XfC K XBadText ∧ PySem.W.findIn K (.ref XBadText) "row" = some none := by
  exact ⟨⟨xga_BadText, xgt_BadText, xb_BadText, xd_BadText⟩, xr_BadText⟩
theorem mk_R_BadText {K : PySem.W.Frag} {h : Heap} {mg : Str → Option Value} {l : PySem.W.OpenLaw} {XBadText fI ccI cdI NI : Addr} {ocI kVI dcI pmI ctI cclI clI : Value} {odI anI cddI cldI ddI : Option Addr} {slI ccsI cslI : Array (Option Value)} {vsI : Array Value} {fileI nmI qI : Str} {tfI : Tok} {bsI bmI subI : List Value} {snI : List Str} {abI : Bool} {colI : Option Bool} {k0I k1I k2I k3I k5I : Option Value} (X : K.In h) (G : h.Ns mainGlobals mg)
    (bt_i : PySem.W.findIn K (.ref XBadText) "__init__" = some (some (.ref fI)))
    (bt_y : PySem.W.typeIn K (.ref fI) = some (.type "function"))
    (bt_l : K.lookup fI = some ⟨ocI, odI, .func (PySem.W.fnX "__init__" "BadText.__init__" (defArgs sBadText_init) (defBody sBadText_init) (defScope sBadText_init) [(("__class__" : Str), ccI)] .none kVI dcI pmI anI (.ref cdI) ctI), slI⟩)
    (bt_c : PySem.W.codeIn K (.ref cdI) "BadText.__init__" = true)
    (bt_v : K.lookup cdI = some ⟨cclI, cddI, .fields vsI, ccsI⟩)
    (bt_2 : vsI[2]? = some (.str fileI tfI))
    (bt_f : ((l.prog.main.file : Str) == fileI) = true)
    (bt_k : K.lookup ccI = some ⟨clI, cldI, .cell (some (.ref XBadText)), cslI⟩)
    (bt_t : (l.prog.main.scope.names.lookup ("super" : Str)).isSome = false)
    (bt_s : PySem.W.nsIn K mainGlobals "super" = some none)
    (bt_3 : PySem.W.nsIn K cStatics "thirdparty.any" = some none)
    (bt_m : PySem.W.ks_superIn K XBadText XBadText "__init__" = some (some (.builtin "ValueError.__init__")))
    (xv_BadText : PySem.W.subIn K (.ref XBadText) (.type "ValueError") = some true)
    (bt_o : PySem.W.mroIn K XBadText (.ref XBadText) = some true)
    (bt_x : K.lookup XBadText = some (excClassObj nmI qI XBadText NI bsI bmI true snI subI abI colI ddI k0I k1I k2I k3I k5I "ValueError.__new__"))
    (bt_b : PySem.HandSPX.refsVE bmI = true)
    (bt_a : PySem.W.findIn K (.ref XBadText) "__setattr__" = some (some (.builtin "object.__setattr__")))
    (xb_BadText : PySem.W.subIn K (.ref XBadText) (.type "BaseException") = some true)
    (xt_BadText : PySem.W.typeIn K (.ref XBadText) = some (.type "type"))
    (xk_BadText : PySem.W.keepIn K (.ref XBadText) = true) :
    BtxRaw l.prog K mg XBadText := by
  exact ⟨_, _, _, _, _, _, _, _, _, _, _, ⟨bt_c, ⟨_, _, _, _, _, _, bt_v, bt_2, bt_f⟩, ⟨_, _, _, _, rfl, bt_k⟩, bt_t, PySem.W.mg_none_of X G bt_s, bt_3, bt_m, xv_BadText, bt_o, oex_mk bt_x bt_b bt_a xb_BadText xt_BadText xk_BadText⟩, bt_i, bt_y, bt_l⟩
theorem mk_NA {K : PySem.W.Frag} {h : Heap} {mg : Str → Option Value} {q20 q21 : Tok} (X : K.In h) (G : h.Ns mainGlobals mg)
    (nt_FIG : PySem.W.nsIn K mainGlobals "FIGURES" = some (some (.str "0123456789" q20)))
    (nt_MOST : PySem.W.nsIn K mainGlobals "MOST_FIGURES" = some (some (.int 2 q21))) :
    mg "FIGURES" = some (.str "0123456789" q20) ∧ mg "MOST_FIGURES" = some (.int 2 q21) := by
  exact ⟨PySem.W.mg_of X G nt_FIG, PySem.W.mg_of X G nt_MOST⟩
theorem mk_NT_ {K : PySem.W.Frag} {h : Heap} {mg : Str → Option Value} {bT : Addr} {odBT : Option Addr} {slBT : Array (Option Value)} {nBT : Nat} {vT0 vT1 vT2 vT3 : Tok} (X : K.In h) (G : h.Ns mainGlobals mg)
    (nt_THINGS : PySem.W.nsIn K mainGlobals "THINGS" = some (some (.ref bT)))
    (nu_THINGS : K.lookup bT = some ⟨.type "tuple", odBT, .seq #[.str "+" vT0, .str "cell" vT1, .str "own" vT2, .str "par" vT3] nBT, slBT⟩) :
    mg "THINGS" = some (.ref bT) ∧ SqT K (fun _ => none) bT (vws' ["+", "cell", "own", "par"]) := by
  exact ⟨PySem.W.mg_of X G nt_THINGS, .inr ⟨_, _, _, nu_THINGS, rfl, rfl, (by show 4 ≤ sizeLine; decide), .cons ⟨_, rfl⟩ (.cons ⟨_, rfl⟩ (.cons ⟨_, rfl⟩ (.cons ⟨_, rfl⟩ (.nil))))⟩⟩
theorem mk_NE {K : PySem.W.Frag} {h : Heap} {mg : Str → Option Value} {bE : Addr} {odBE : Option Addr} {slBE : Array (Option Value)} {nBE : Nat} {vE0 vE1 : Tok} (X : K.In h) (G : h.Ns mainGlobals mg)
    (nt_ENDS : PySem.W.nsIn K mainGlobals "ENDS" = some (some (.ref bE)))
    (nu_ENDS : K.lookup bE = some ⟨.type "tuple", odBE, .seq #[.str ")" vE0, .str "." vE1] nBE, slBE⟩) :
    mg "ENDS" = some (.ref bE) ∧ SqT K (fun _ => none) bE (vws' [")", "."]) := by
  exact ⟨PySem.W.mg_of X G nt_ENDS, .inr ⟨_, _, _, nu_ENDS, rfl, rfl, (by show 2 ≤ sizeLine; decide), .cons ⟨_, rfl⟩ (.cons ⟨_, rfl⟩ (.nil))⟩⟩
theorem mk_NK {K : PySem.W.Frag} {h : Heap} {mg : Str → Option Value} {w : World} {bD b0 b1 b2 b3 b4 b5 b6 : Addr} {nD nB0 nB1 nB2 nB3 nB4 nB5 nB6 : Nat} {h0 h1 h2 h3 h4 h5 h6 : Int} {odB0 odB1 odB2 odB3 odB4 odB5 odB6 : Option Addr} {slB0 slB1 slB2 slB3 slB4 slB5 slB6 : Array (Option Value)} {k0 k1 k2 k3 k4 k5 k6 v0_0 v0_1 v1_0 v2_0 v3_0 v4_0 v4_1 v5_0 v6_0 v6_1 v6_2 : Tok} (X : K.In h) (G : h.Ns mainGlobals mg)
    (nt_TAKES : PySem.W.nsIn K mainGlobals "TAKES" = some (some (.ref bD)))
    (nu_TAKES : K.lookup bD = some ⟨.type "dict", none, .dict #[⟨h0, .str "+" k0, .ref b0⟩, ⟨h1, .str "cell" k1, .ref b1⟩, ⟨h2, .str "own" k2, .ref b2⟩, ⟨h3, .str "par" k3, .ref b3⟩, ⟨h4, .str "set" k4, .ref b4⟩, ⟨h5, .str "say" k5, .ref b5⟩, ⟨h6, .str "if" k6, .ref b6⟩] nD, #[]⟩)
    (nl_TAKES : (bD == sysModules) = false)
    (nh_0 : h0 = PyData.keyHash w.params "+")
    (nv_0 : K.lookup b0 = some ⟨.type "tuple", odB0, .seq #[.str "thing" v0_0, .str "thing" v0_1] nB0, slB0⟩)
    (nh_1 : h1 = PyData.keyHash w.params "cell")
    (nv_1 : K.lookup b1 = some ⟨.type "tuple", odB1, .seq #[.str "thing" v1_0] nB1, slB1⟩)
    (nh_2 : h2 = PyData.keyHash w.params "own")
    (nv_2 : K.lookup b2 = some ⟨.type "tuple", odB2, .seq #[.str "number" v2_0] nB2, slB2⟩)
    (nh_3 : h3 = PyData.keyHash w.params "par")
    (nv_3 : K.lookup b3 = some ⟨.type "tuple", odB3, .seq #[.str "number" v3_0] nB3, slB3⟩)
    (nh_4 : h4 = PyData.keyHash w.params "set")
    (nv_4 : K.lookup b4 = some ⟨.type "tuple", odB4, .seq #[.str "thing" v4_0, .str "thing" v4_1] nB4, slB4⟩)
    (nh_5 : h5 = PyData.keyHash w.params "say")
    (nv_5 : K.lookup b5 = some ⟨.type "tuple", odB5, .seq #[.str "thing" v5_0] nB5, slB5⟩)
    (nh_6 : h6 = PyData.keyHash w.params "if")
    (nv_6 : K.lookup b6 = some ⟨.type "tuple", odB6, .seq #[.str "thing" v6_0, .str "body" v6_1, .str "body" v6_2] nB6, slB6⟩) :
    mg "TAKES" = some (.ref bD) ∧ KDict K w bD #[⟨h0, .str "+" k0, .ref b0⟩, ⟨h1, .str "cell" k1, .ref b1⟩, ⟨h2, .str "own" k2, .ref b2⟩, ⟨h3, .str "par" k3, .ref b3⟩, ⟨h4, .str "set" k4, .ref b4⟩, ⟨h5, .str "say" k5, .ref b5⟩, ⟨h6, .str "if" k6, .ref b6⟩] nD ∧ ∀ z : Str, match takesOf z with | none => PySem.W.nsIn K bD z = some none | some ks => ∃ a, PySem.W.nsIn K bD z = some (some (.ref a)) ∧ SqT K (fun _ => none) a (vws' ks) := by
  refine ⟨PySem.W.mg_of X G nt_TAKES, ⟨nu_TAKES, ⟨⟨_, _, rfl, nh_0⟩, ⟨_, _, rfl, nh_1⟩, ⟨_, _, rfl, nh_2⟩, ⟨_, _, rfl, nh_3⟩, ⟨_, _, rfl, nh_4⟩, ⟨_, _, rfl, nh_5⟩, ⟨_, _, rfl, nh_6⟩, trivial⟩, nl_TAKES⟩, fun z => ?_⟩
  have ns : PySem.W.nsIn K bD z = some (([(("+" : Str), k0, b0), (("cell" : Str), k1, b1), (("own" : Str), k2, b2), (("par" : Str), k3, b3), (("set" : Str), k4, b4), (("say" : Str), k5, b5), (("if" : Str), k6, b6)].find? fun e => e.1 == z).map fun e => .ref e.2.2) := ns_lit nu_TAKES rfl
  by_cases c0 : z = "+"
  · subst c0
    have t : takesOf "+" = some (["thing", "thing"] : List Str) := by decide +kernel
    rw [t]
    exact ⟨b0, ns.trans (congrArg (fun o => some (o.map fun e => Value.ref e.2.2)) (ent_hit (z := "+") (e := ("+", k0, b0)) rfl)), .inr ⟨_, _, _, nv_0, rfl, rfl, (by show 2 ≤ sizeLine; decide), .cons ⟨_, rfl⟩ (.cons ⟨_, rfl⟩ (.nil))⟩⟩
  by_cases c1 : z = "cell"
  · subst c1
    have t : takesOf "cell" = some (["thing"] : List Str) := by decide +kernel
    rw [t]
    exact ⟨b1, ns.trans (congrArg (fun o => some (o.map fun e => Value.ref e.2.2)) ((ent_skip (z := "cell") (e := ("+", k0, b0)) (show ¬ ("+" : Str) = "cell" by decide +kernel)).trans (ent_hit (z := "cell") (e := ("cell", k1, b1)) rfl))), .inr ⟨_, _, _, nv_1, rfl, rfl, (by show 1 ≤ sizeLine; decide), .cons ⟨_, rfl⟩ (.nil)⟩⟩
  by_cases c2 : z = "own"
  · subst c2
    have t : takesOf "own" = some (["number"] : List Str) := by decide +kernel
    rw [t]
    exact ⟨b2, ns.trans (congrArg (fun o => some (o.map fun e => Value.ref e.2.2)) ((ent_skip (z := "own") (e := ("+", k0, b0)) (show ¬ ("+" : Str) = "own" by decide +kernel)).trans ((ent_skip (z := "own") (e := ("cell", k1, b1)) (show ¬ ("cell" : Str) = "own" by decide +kernel)).trans (ent_hit (z := "own") (e := ("own", k2, b2)) rfl)))), .inr ⟨_, _, _, nv_2, rfl, rfl, (by show 1 ≤ sizeLine; decide), .cons ⟨_, rfl⟩ (.nil)⟩⟩
  by_cases c3 : z = "par"
  · subst c3
    have t : takesOf "par" = some (["number"] : List Str) := by decide +kernel
    rw [t]
    exact ⟨b3, ns.trans (congrArg (fun o => some (o.map fun e => Value.ref e.2.2)) ((ent_skip (z := "par") (e := ("+", k0, b0)) (show ¬ ("+" : Str) = "par" by decide +kernel)).trans ((ent_skip (z := "par") (e := ("cell", k1, b1)) (show ¬ ("cell" : Str) = "par" by decide +kernel)).trans ((ent_skip (z := "par") (e := ("own", k2, b2)) (show ¬ ("own" : Str) = "par" by decide +kernel)).trans (ent_hit (z := "par") (e := ("par", k3, b3)) rfl))))), .inr ⟨_, _, _, nv_3, rfl, rfl, (by show 1 ≤ sizeLine; decide), .cons ⟨_, rfl⟩ (.nil)⟩⟩
  by_cases c4 : z = "set"
  · subst c4
    have t : takesOf "set" = some (["thing", "thing"] : List Str) := by decide +kernel
    rw [t]
    exact ⟨b4, ns.trans (congrArg (fun o => some (o.map fun e => Value.ref e.2.2)) ((ent_skip (z := "set") (e := ("+", k0, b0)) (show ¬ ("+" : Str) = "set" by decide +kernel)).trans ((ent_skip (z := "set") (e := ("cell", k1, b1)) (show ¬ ("cell" : Str) = "set" by decide +kernel)).trans ((ent_skip (z := "set") (e := ("own", k2, b2)) (show ¬ ("own" : Str) = "set" by decide +kernel)).trans ((ent_skip (z := "set") (e := ("par", k3, b3)) (show ¬ ("par" : Str) = "set" by decide +kernel)).trans (ent_hit (z := "set") (e := ("set", k4, b4)) rfl)))))), .inr ⟨_, _, _, nv_4, rfl, rfl, (by show 2 ≤ sizeLine; decide), .cons ⟨_, rfl⟩ (.cons ⟨_, rfl⟩ (.nil))⟩⟩
  by_cases c5 : z = "say"
  · subst c5
    have t : takesOf "say" = some (["thing"] : List Str) := by decide +kernel
    rw [t]
    exact ⟨b5, ns.trans (congrArg (fun o => some (o.map fun e => Value.ref e.2.2)) ((ent_skip (z := "say") (e := ("+", k0, b0)) (show ¬ ("+" : Str) = "say" by decide +kernel)).trans ((ent_skip (z := "say") (e := ("cell", k1, b1)) (show ¬ ("cell" : Str) = "say" by decide +kernel)).trans ((ent_skip (z := "say") (e := ("own", k2, b2)) (show ¬ ("own" : Str) = "say" by decide +kernel)).trans ((ent_skip (z := "say") (e := ("par", k3, b3)) (show ¬ ("par" : Str) = "say" by decide +kernel)).trans ((ent_skip (z := "say") (e := ("set", k4, b4)) (show ¬ ("set" : Str) = "say" by decide +kernel)).trans (ent_hit (z := "say") (e := ("say", k5, b5)) rfl))))))), .inr ⟨_, _, _, nv_5, rfl, rfl, (by show 1 ≤ sizeLine; decide), .cons ⟨_, rfl⟩ (.nil)⟩⟩
  by_cases c6 : z = "if"
  · subst c6
    have t : takesOf "if" = some (["thing", "body", "body"] : List Str) := by decide +kernel
    rw [t]
    exact ⟨b6, ns.trans (congrArg (fun o => some (o.map fun e => Value.ref e.2.2)) ((ent_skip (z := "if") (e := ("+", k0, b0)) (show ¬ ("+" : Str) = "if" by decide +kernel)).trans ((ent_skip (z := "if") (e := ("cell", k1, b1)) (show ¬ ("cell" : Str) = "if" by decide +kernel)).trans ((ent_skip (z := "if") (e := ("own", k2, b2)) (show ¬ ("own" : Str) = "if" by decide +kernel)).trans ((ent_skip (z := "if") (e := ("par", k3, b3)) (show ¬ ("par" : Str) = "if" by decide +kernel)).trans ((ent_skip (z := "if") (e := ("set", k4, b4)) (show ¬ ("set" : Str) = "if" by decide +kernel)).trans ((ent_skip (z := "if") (e := ("say", k5, b5)) (show ¬ ("say" : Str) = "if" by decide +kernel)).trans (ent_hit (z := "if") (e := ("if", k6, b6)) rfl)))))))), .inr ⟨_, _, _, nv_6, rfl, rfl, (by show 3 ≤ sizeLine; decide), .cons ⟨_, rfl⟩ (.cons ⟨_, rfl⟩ (.cons ⟨_, rfl⟩ (.nil)))⟩⟩
  have e : takesOf z = none := takes_none c0 c1 c2 c3 c4 c5 c6
  rw [e]
  rw [ns, ent_none fun e he => ?_]
  · rfl
  simp only [List.mem_cons, List.not_mem_nil, or_false] at he
  rcases he with rfl | rfl | rfl | rfl | rfl | rfl | rfl
  · exact fun y => c0 y.symm
  · exact fun y => c1 y.symm
  · exact fun y => c2 y.symm
  · exact fun y => c3 y.symm
  · exact fun y => c4 y.symm
  · exact fun y => c5 y.symm
  · exact fun y => c6 y.symm
theorem all_mk {l : PySem.W.OpenLaw} {w : World} {K : PySem.W.Frag} {h : Heap} {mg : Str → Option Value} {fa CI XBadProgram XHandError XBadText XBadCells XBadWays aP f44 : Addr} (X : K.In h) (G : h.Ns mainGlobals mg) (hfa : mg "law" = some (.ref fa))
    {od44 an44 odTP : Option Addr} {sl44 slTP : Array (Option Value)} {oc44 kV44 dc44 pm44 cd44 ct44 : Value} {t0 t1 t2 t3 t4 t5 uP0 uP1 uP2 : Tok} {nTP : Nat}
    {q20 q21 : Tok} {bT bE bD b0 b1 b2 b3 b4 b5 b6 : Addr} {nD : Nat} {h0 h1 h2 h3 h4 h5 h6 : Int} {k0 k1 k2 k3 k4 k5 k6 : Tok}
    (D0 : DefAt K mg "is_below" sis_below pis_below)
    (D1 : DefAt K mg "is_number" sis_number pis_number)
    (D2 : DefAt K mg "is_shaped" sis_shaped pis_shaped)
    (D3 : DefAt K mg "need_program" sneed_program pneed_program)
    (D4 : DefAt K mg "need_head" sneed_head pneed_head)
    (D5 : DefAt K mg "need_body" sneed_body pneed_body)
    (D6 : DefAt K mg "need_step" sneed_step pneed_step)
    (D7 : DefAt K mg "need_call" sneed_call pneed_call)
    (D8 : DefAt K mg "need_place" sneed_place pneed_place)
    (D9 : DefAt K mg "need_thing" sneed_thing pneed_thing)
    (D10 : DefAt K mg "is_plain" sis_plain pis_plain)
    (D11 : DefAt K mg "read" sread pread)
    (D12 : DefAt K mg "read_work" sread_work pread_work)
    (D13 : DefAt K mg "read_word" sread_word pread_word)
    (D14 : DefAt K mg "is_figures" sis_figures pis_figures)
    (D15 : DefAt K mg "read_body" sread_body pread_body)
    (D16 : DefAt K mg "read_call" sread_call pread_call)
    (D17 : DefAt K mg "taken" staken ptaken)
    (D18 : DefAt K mg "taken_all" staken_all ptaken_all)
    (D19 : DefAt K mg "is_kind" sis_kind pis_kind)
    (D20 : DefAt K mg "told_as" stold_as ptold_as)
    (D21 : DefAt K mg "_law_taken" sL_taken pL_taken)
    (D22 : DefAt K mg "_law_alike" sL_alike pL_alike)
    (D23 : DefAt K mg "_law_thing" sL_thing pL_thing)
    (D24 : DefAt K mg "_law_place" sL_place pL_place)
    (D25 : DefAt K mg "_law_step" sL_step pL_step)
    (D26 : DefAt K mg "_law_body" sL_body pL_body)
    (D27 : DefAt K mg "_law_program" sL_program pL_program)
    (D28 : DefAt K mg "_law_words" sL_words pL_words)
    (D29 : DefAt K mg "_law_text" sL_text pL_text)
    (D30 : DefAt K mg "_law_is_number" sL_is_number pL_is_number)
    (D31 : DefAt K mg "_law_is_thing" sL_is_thing pL_is_thing)
    (D32 : DefAt K mg "_law_is_step" sL_is_step pL_is_step)
    (D33 : DefAt K mg "_law_is_body" sL_is_body pL_is_body)
    (D34 : DefAt K mg "_law_count" sL_count pL_count)
    (D35 : DefAt K mg "_law_is_program" sL_is_program pL_is_program)
    (D36 : DefAt K mg "_law_is_figures" sL_is_figures pL_is_figures)
    (D37 : DefAt K mg "_law_thing_at" sL_thing_at pL_thing_at)
    (D38 : DefAt K mg "_law_things_at" sL_things_at pL_things_at)
    (D39 : DefAt K mg "_law_step_at" sL_step_at pL_step_at)
    (D40 : DefAt K mg "_law_body_at" sL_body_at pL_body_at)
    (D41 : DefAt K mg "_law_reading" sL_reading pL_reading)
    (D42 : DefAt K mg "_law_told" sL_told pL_told)
    (D43 : DefAt K mg "_law_changed" sL_changed pL_changed)
    (a44 : PySem.W.nsIn K mainGlobals "law" = some (some (.ref f44)))
    (l44 : K.lookup f44 = some ⟨oc44, od44, .func (PySem.W.fnOf "law" "law" (defArgs slaw) (defBody slaw) (defScope slaw) .none kV44 dc44 pm44 an44 cd44 ct44), sl44⟩)
    (c44 : PySem.W.codeIn K cd44 "law" = true)
    (k44 : PySem.W.keepIn K (.ref f44) = true)
    (CAI : ClassAt K mg "Item" "Item.__init__" CI sItem_init pItem_init ∧ mg "Item" = some (.ref CI))
    (pgI : PySem.W.plainGet K CI Str.empty = true)
    (hdI : PySem.W.hasDictIn K CI = true)
    (poI : PySem.W.plainOver K CI = true)
    (saI : PySem.W.findIn K (.ref CI) "__setattr__" = some (some (.builtin "object.__setattr__")))
    (nI_kind : PySem.W.findIn K (.ref CI) "kind" = some none)
    (nI_told : PySem.W.findIn K (.ref CI) "told" = some none)
    (E_BadProgram : ExcAt K mg "BadProgram" XBadProgram)
    (G_HandError : GAt mg "HandError" XHandError)
    (G_BadText : GAt mg "BadText" XBadText)
    (G_BadCells : GAt mg "BadCells" XBadCells)
    (G_BadWays : GAt mg "BadWays" XBadWays)
    (TX_BadText : TxE K XBadText XHandError XBadText XBadProgram XBadCells XBadWays true false)
    (TX_BadProgram : TxE K XBadProgram XHandError XBadText XBadProgram XBadCells XBadWays false true)
    (XF : XfC K XBadText ∧ PySem.W.findIn K (.ref XBadText) "row" = some none)
    (R_BadText : BtxRaw l.prog K mg XBadText)
    (z_ValueError : PySem.W.nsIn K mainGlobals "ValueError" = some none)
    (i_NUMBERS : PySem.W.nsIn K mainGlobals "NUMBERS" = some (some (.int 3 t0)))
    (i_MOST_WORKS : PySem.W.nsIn K mainGlobals "MOST_WORKS" = some (some (.int 4 t1)))
    (i_MOST_PARAMS : PySem.W.nsIn K mainGlobals "MOST_PARAMS" = some (some (.int 3 t2)))
    (i_MOST_OWNS : PySem.W.nsIn K mainGlobals "MOST_OWNS" = some (some (.int 99 t3)))
    (i_MOST_STEPS : PySem.W.nsIn K mainGlobals "MOST_STEPS" = some (some (.int 100 t4)))
    (i_MOST_OTHERS : PySem.W.nsIn K mainGlobals "MOST_OTHERS" = some (some (.int 4 t5)))
    (t_PLACES : PySem.W.nsIn K mainGlobals "PLACES" = some (some (.ref aP)))
    (u_PLACES : K.lookup aP = some ⟨.type "tuple", odTP, .seq #[.str "cell" uP0, .str "own" uP1, .str "par" uP2] nTP, slTP⟩)
    (NA : mg "FIGURES" = some (.str "0123456789" q20) ∧ mg "MOST_FIGURES" = some (.int 2 q21))
    (NT_ : mg "THINGS" = some (.ref bT) ∧ SqT K (fun _ => none) bT (vws' ["+", "cell", "own", "par"]))
    (NE : mg "ENDS" = some (.ref bE) ∧ SqT K (fun _ => none) bE (vws' [")", "."]))
    (NK : mg "TAKES" = some (.ref bD) ∧ KDict K w bD #[⟨h0, .str "+" k0, .ref b0⟩, ⟨h1, .str "cell" k1, .ref b1⟩, ⟨h2, .str "own" k2, .ref b2⟩, ⟨h3, .str "par" k3, .ref b3⟩, ⟨h4, .str "set" k4, .ref b4⟩, ⟨h5, .str "say" k5, .ref b5⟩, ⟨h6, .str "if" k6, .ref b6⟩] nD ∧ ∀ z : Str, match takesOf z with | none => PySem.W.nsIn K bD z = some none | some ks => ∃ a, PySem.W.nsIn K bD z = some (some (.ref a)) ∧ SqT K (fun _ => none) a (vws' ks))
    (z_reversed : PySem.W.nsIn K mainGlobals "reversed" = some none)
    (z_all : PySem.W.nsIn K mainGlobals "all" = some none)
    (z_len : PySem.W.nsIn K mainGlobals "len" = some none)
    (z_int : PySem.W.nsIn K mainGlobals "int" = some none)
    (z_range : PySem.W.nsIn K mainGlobals "range" = some none)
    (z_isinstance : PySem.W.nsIn K mainGlobals "isinstance" = some none)
    (z_tuple : PySem.W.nsIn K mainGlobals "tuple" = some none)
    (z_list : PySem.W.nsIn K mainGlobals "list" = some none)
    (z_bool : PySem.W.nsIn K mainGlobals "bool" = some none)
    (z_str : PySem.W.nsIn K mainGlobals "str" = some none)
    (z_zip : PySem.W.nsIn K mainGlobals "zip" = some none)
    (z_enumerate : PySem.W.nsIn K mainGlobals "enumerate" = some none) :
    ∃ fd : FuncData, (∀ (s : Shared) (v : Value), BindsTo s fd ⟨[v], []⟩ [("_law_script", v)]) ∧ ∀ base : Heap, K.In base → base.Ns mainGlobals mg → FnOk l.prog w K mg base CX0 130 fa fd ["_law_script"] (spLaw K) := by
  have e := hfa.symm.trans (PySem.W.mg_of X G a44)
  cases e
  have F44 := fun_mk (st := slaw) l44 c44 k44
  have D44 : DefAt K mg "law" slaw plaw := ⟨_, _, F44, PySem.W.mg_of X G a44, F44.binds (ps := plaw) fun _ _ _ _ _ _ us hl => by obtain ⟨x0, rfl⟩ := Hw.len1 hl; rfl⟩
  have ClI : Cls K CI := ⟨pgI, hdI, poI, saI⟩
  have B : Blt mg := ⟨PySem.W.mg_none_of X G z_len, PySem.W.mg_none_of X G z_int, PySem.W.mg_none_of X G z_range, PySem.W.mg_none_of X G z_isinstance, PySem.W.mg_none_of X G z_tuple, PySem.W.mg_none_of X G z_list, PySem.W.mg_none_of X G z_bool, PySem.W.mg_none_of X G z_str, PySem.W.mg_none_of X G z_zip, PySem.W.mg_none_of X G z_enumerate⟩
  have T : Cst K (fun i => match i with | 0 => t0 | 1 => t1 | 2 => t2 | 3 => t3 | 4 => t4 | 5 => t5 | _ => t5) aP aP mg := ⟨⟨B, PySem.W.mg_of X G i_NUMBERS, PySem.W.mg_of X G i_MOST_WORKS, PySem.W.mg_of X G i_MOST_PARAMS, PySem.W.mg_of X G i_MOST_OWNS, PySem.W.mg_of X G i_MOST_STEPS, PySem.W.mg_of X G i_MOST_OTHERS⟩, PySem.W.mg_of X G t_PLACES, .inr ⟨_, _, _, u_PLACES, rfl, rfl, (by show 3 ≤ sizeLine; decide), .cons ⟨_, rfl⟩ (.cons ⟨_, rfl⟩ (.cons ⟨_, rfl⟩ .nil))⟩⟩
  have OI : ItC K CI := ⟨ClI, nI_kind, nI_told⟩
  have T_ValueError : mg "ValueError" = none := PySem.W.mg_none_of X G z_ValueError
  have NT : Nts K w (fun i => match i with | 20 => q20 | _ => q21) mg bT bE bD #[⟨h0, .str "+" k0, .ref b0⟩, ⟨h1, .str "cell" k1, .ref b1⟩, ⟨h2, .str "own" k2, .ref b2⟩, ⟨h3, .str "par" k3, .ref b3⟩, ⟨h4, .str "set" k4, .ref b4⟩, ⟨h5, .str "say" k5, .ref b5⟩, ⟨h6, .str "if" k6, .ref b6⟩] nD := ⟨B, PySem.W.mg_none_of X G z_reversed, PySem.W.mg_none_of X G z_all, NA.1, NA.2, NT_.1, NE.1, NK.1, NT_.2, NE.2, NK.2.1, NK.2.2⟩
  refine ⟨PySem.W.fnOf "law" "law" (defArgs slaw) (defBody slaw) (defScope slaw) .none kV44 dc44 pm44 an44 cd44 ct44, fun s v => .of_eq rfl, fun base _ _ => ?_⟩
  exact (lawOk (P := l.prog) (w := w) (base := base) T D0 D1 D2 D3 D4 D5 D6 D7 D8 D9 D10 D11 D12 D13 D14 D15 D16 D17 D18 D19 D20 D21 D22 D23 D24 D25 D26 D27 D28 D29 D30 D31 D32 D33 D34 D35 D36 D37 D38 D39 D40 D41 D42 D43 D44 CAI.1 OI NT T_ValueError E_BadProgram G_HandError G_BadText G_BadCells G_BadWays TX_BadText TX_BadProgram XF R_BadText).at_ (PySem.W.mg_of X G a44) l44
theorem walk {l : PySem.W.OpenLaw} {q : Program} {loose : List Str} {XP : (Str → Option Value) → Heap → Prop} {YP : World → Heap → Prop} {d : DefRec} {K : Params → PySem.W.Frag} (hn : l.most = some 63) (hdf : d.params.defaults = [])
    (hY : ∀ (w : World) (h : Heap), YP w h → (K w.params).In h)
    (F : ∀ (w : World) (mg : Str → Option Value) (fa : Addr) (h : Heap), (K w.params).In h → h.Ns mainGlobals mg → mg d.name = some (.ref fa) →
      ∃ fd : FuncData, (∀ (s : Shared) (u : Value), BindsTo s fd ⟨[u], []⟩ [("_law_script", u)]) ∧ ∀ base : Heap, (K w.params).In base → base.Ns mainGlobals mg → FnOk l.prog w (K w.params) mg base CX0 130 fa fd ["_law_script"] (spLaw (K w.params))) :
    PySem.W.WalkO q loose XP YP l.row.toRowW d [] (fun f vs => PySem.call f vs) :=
  L2.walk_of (n := 63) (k := 130) (x := "_law_script") (CX := fun _ => CX0) (sp := fun w => spLaw (K w.params)) hn (by decide) hdf ⟨rfl, by decide, by decide⟩ hY F (fun _ _ a ns _ o hS => ⟨a, ns, rfl, scr_of o hS, fun _ => rfl⟩) fun _ _ _ _ _ z => z
end
end Hw
open PySem PySem.W PyProof.Rows
set_option maxRecDepth 100000 in
set_option maxHeartbeats 0 in
theorem PySem.Challenge.cw_handways_k12_texts_refused_holds : PySem.Challenge.rw_handways_k12_texts_refused.Holds := by
  refine hwEarly ?_
  k_fill
  refine Hw.walk (l := PySem.Challenge.rw_handways_k12_texts_refused) rfl rfl (fun w h Y => PySem.W.kIn_of Y) ?F
  case F =>
    intro w mg fa h KX G hmg
    refine' Hw.all_mk KX G hmg (Hw.mk_D0 KX G ?a0 ?l0 ?c0 ?k0) (Hw.mk_D1 KX G ?a1 ?l1 ?c1 ?k1) (Hw.mk_D2 KX G ?a2 ?l2 ?c2 ?k2) (Hw.mk_D3 KX G ?a3 ?l3 ?c3 ?k3) (Hw.mk_D4 KX G ?a4 ?l4 ?c4 ?k4) (Hw.mk_D5 KX G ?a5 ?l5 ?c5 ?k5) (Hw.mk_D6 KX G ?a6 ?l6 ?c6 ?k6) (Hw.mk_D7 KX G ?a7 ?l7 ?c7 ?k7) (Hw.mk_D8 KX G ?a8 ?l8 ?c8 ?k8) (Hw.mk_D9 KX G ?a9 ?l9 ?c9 ?k9) (Hw.mk_D10 KX G ?a10 ?l10 ?c10 ?k10) (Hw.mk_D11 KX G ?a11 ?l11 ?c11 ?k11) (Hw.mk_D12 KX G ?a12 ?l12 ?c12 ?k12) (Hw.mk_D13 KX G ?a13 ?l13 ?c13 ?k13) (Hw.mk_D14 KX G ?a14 ?l14 ?c14 ?k14) (Hw.mk_D15 KX G ?a15 ?l15 ?c15 ?k15) (Hw.mk_D16 KX G ?a16 ?l16 ?c16 ?k16) (Hw.mk_D17 KX G ?a17 ?l17 ?c17 ?k17) (Hw.mk_D18 KX G ?a18 ?l18 ?c18 ?k18) (Hw.mk_D19 KX G ?a19 ?l19 ?c19 ?k19) (Hw.mk_D20 KX G ?a20 ?l20 ?c20 ?k20) (Hw.mk_D21 KX G ?a21 ?l21 ?c21 ?k21) (Hw.mk_D22 KX G ?a22 ?l22 ?c22 ?k22) (Hw.mk_D23 KX G ?a23 ?l23 ?c23 ?k23) (Hw.mk_D24 KX G ?a24 ?l24 ?c24 ?k24) (Hw.mk_D25 KX G ?a25 ?l25 ?c25 ?k25) (Hw.mk_D26 KX G ?a26 ?l26 ?c26 ?k26) (Hw.mk_D27 KX G ?a27 ?l27 ?c27 ?k27) (Hw.mk_D28 KX G ?a28 ?l28 ?c28 ?k28) (Hw.mk_D29 KX G ?a29 ?l29 ?c29 ?k29) (Hw.mk_D30 KX G ?a30 ?l30 ?c30 ?k30) (Hw.mk_D31 KX G ?a31 ?l31 ?c31 ?k31) (Hw.mk_D32 KX G ?a32 ?l32 ?c32 ?k32) (Hw.mk_D33 KX G ?a33 ?l33 ?c33 ?k33) (Hw.mk_D34 KX G ?a34 ?l34 ?c34 ?k34) (Hw.mk_D35 KX G ?a35 ?l35 ?c35 ?k35) (Hw.mk_D36 KX G ?a36 ?l36 ?c36 ?k36) (Hw.mk_D37 KX G ?a37 ?l37 ?c37 ?k37) (Hw.mk_D38 KX G ?a38 ?l38 ?c38 ?k38) (Hw.mk_D39 KX G ?a39 ?l39 ?c39 ?k39) (Hw.mk_D40 KX G ?a40 ?l40 ?c40 ?k40) (Hw.mk_D41 KX G ?a41 ?l41 ?c41 ?k41) (Hw.mk_D42 KX G ?a42 ?l42 ?c42 ?k42) (Hw.mk_D43 KX G ?a43 ?l43 ?c43 ?k43) ?a44 ?l44 ?c44 ?k44 (Hw.mk_CAI KX G ?aCI ?a45 ?i45 ?l45 ?c45 ?k45 ?mkI ?kcI) ?pgI ?hdI ?poI ?saI ?nI_kind ?nI_told (Hw.mk_E_BadProgram KX G ?xg_BadProgram ?xq_BadProgram ?xk_BadProgram ?xb_BadProgram ?xt_BadProgram ?xga_BadProgram ?xgt_BadProgram ?xd_BadProgram ?xa_BadProgram ?xm_BadProgram ?xs_BadProgram ?xv_BadProgram ?hn ?htk) (Hw.mk_G_HandError KX G ?xg_HandError) (Hw.mk_G_BadText KX G ?xg_BadText) (Hw.mk_G_BadCells KX G ?xg_BadCells) (Hw.mk_G_BadWays KX G ?xg_BadWays) (Hw.mk_TX_BadText KX G ?xga_BadText ?xgt_BadText ?xb_BadText ?xd_BadText ?xa_BadText ?xm_BadText ?xv_BadText ?xh_BadText ?hn ?htk ?xb_HandError ?xd_HandError ?xt_HandError ?xn_BadText_BadProgram ?xi_BadProgram ?xt_BadProgram ?xo_BadText_BadProgram ?xn_BadText_BadCells ?xi_BadCells ?xt_BadCells ?xo_BadText_BadCells ?xn_BadText_BadWays ?xi_BadWays ?xt_BadWays ?xo_BadText_BadWays) (Hw.mk_TX_BadProgram KX G ?xga_BadProgram ?xgt_BadProgram ?xb_BadProgram ?xd_BadProgram ?xa_BadProgram ?xm_BadProgram ?xv_BadProgram ?xh_BadProgram ?hn ?htk ?xb_HandError ?xd_HandError ?xt_HandError ?xn_BadProgram_BadText ?xi_BadText ?xt_BadText ?xo_BadProgram_BadText ?xn_BadProgram_BadCells ?xi_BadCells ?xt_BadCells ?xo_BadProgram_BadCells ?xn_BadProgram_BadWays ?xi_BadWays ?xt_BadWays ?xo_BadProgram_BadWays) (Hw.mk_XF KX G ?xga_BadText ?xgt_BadText ?xb_BadText ?xd_BadText ?xr_BadText) (Hw.mk_R_BadText KX G ?bt_i ?bt_y ?bt_l ?bt_c ?bt_v ?bt_2 ?bt_f ?bt_k ?bt_t ?bt_s ?bt_3 ?bt_m ?xv_BadText ?bt_o ?bt_x ?bt_b ?bt_a ?xb_BadText ?xt_BadText ?xk_BadText) ?z_ValueError ?i_NUMBERS ?i_MOST_WORKS ?i_MOST_PARAMS ?i_MOST_OWNS ?i_MOST_STEPS ?i_MOST_OTHERS ?t_PLACES ?u_PLACES (Hw.mk_NA KX G ?nt_FIG ?nt_MOST) (Hw.mk_NT_ KX G ?nt_THINGS ?nu_THINGS) (Hw.mk_NE KX G ?nt_ENDS ?nu_ENDS) (Hw.mk_NK KX G ?nt_TAKES ?nu_TAKES ?nl_TAKES ?nh_0 ?nv_0 ?nh_1 ?nv_1 ?nh_2 ?nv_2 ?nh_3 ?nv_3 ?nh_4 ?nv_4 ?nh_5 ?nv_5 ?nh_6 ?nv_6) ?z_reversed ?z_all ?z_len ?z_int ?z_range ?z_isinstance ?z_tuple ?z_list ?z_bool ?z_str ?z_zip ?z_enumerate
    (case a0 => k_is)
    (case l0 => k_is)
    (case c0 => k_is)
    (case k0 => k_is)
    (case a1 => k_is)
    (case l1 => k_is)
    (case c1 => k_is)
    (case k1 => k_is)
    (case a2 => k_is)
    (case l2 => k_is)
    (case c2 => k_is)
    (case k2 => k_is)
    (case a3 => k_is)
    (case l3 => k_is)
    (case c3 => k_is)
    (case k3 => k_is)
    (case a4 => k_is)
    (case l4 => k_is)
    (case c4 => k_is)
    (case k4 => k_is)
    (case a5 => k_is)
    (case l5 => k_is)
    (case c5 => k_is)
    (case k5 => k_is)
    (case a6 => k_is)
    (case l6 => k_is)
    (case c6 => k_is)
    (case k6 => k_is)
    (case a7 => k_is)
    (case l7 => k_is)
    (case c7 => k_is)
    (case k7 => k_is)
    (case a8 => k_is)
    (case l8 => k_is)
    (case c8 => k_is)
    (case k8 => k_is)
    (case a9 => k_is)
    (case l9 => k_is)
    (case c9 => k_is)
    (case k9 => k_is)
    (case a10 => k_is)
    (case l10 => k_is)
    (case c10 => k_is)
    (case k10 => k_is)
    (case a11 => k_is)
    (case l11 => k_is)
    (case c11 => k_is)
    (case k11 => k_is)
    (case a12 => k_is)
    (case l12 => k_is)
    (case c12 => k_is)
    (case k12 => k_is)
    (case a13 => k_is)
    (case l13 => k_is)
    (case c13 => k_is)
    (case k13 => k_is)
    (case a14 => k_is)
    (case l14 => k_is)
    (case c14 => k_is)
    (case k14 => k_is)
    (case a15 => k_is)
    (case l15 => k_is)
    (case c15 => k_is)
    (case k15 => k_is)
    (case a16 => k_is)
    (case l16 => k_is)
    (case c16 => k_is)
    (case k16 => k_is)
    (case a17 => k_is)
    (case l17 => k_is)
    (case c17 => k_is)
    (case k17 => k_is)
    (case a18 => k_is)
    (case l18 => k_is)
    (case c18 => k_is)
    (case k18 => k_is)
    (case a19 => k_is)
    (case l19 => k_is)
    (case c19 => k_is)
    (case k19 => k_is)
    (case a20 => k_is)
    (case l20 => k_is)
    (case c20 => k_is)
    (case k20 => k_is)
    (case a21 => k_is)
    (case l21 => k_is)
    (case c21 => k_is)
    (case k21 => k_is)
    (case a22 => k_is)
    (case l22 => k_is)
    (case c22 => k_is)
    (case k22 => k_is)
    (case a23 => k_is)
    (case l23 => k_is)
    (case c23 => k_is)
    (case k23 => k_is)
    (case a24 => k_is)
    (case l24 => k_is)
    (case c24 => k_is)
    (case k24 => k_is)
    (case a25 => k_is)
    (case l25 => k_is)
    (case c25 => k_is)
    (case k25 => k_is)
    (case a26 => k_is)
    (case l26 => k_is)
    (case c26 => k_is)
    (case k26 => k_is)
    (case a27 => k_is)
    (case l27 => k_is)
    (case c27 => k_is)
    (case k27 => k_is)
    (case a28 => k_is)
    (case l28 => k_is)
    (case c28 => k_is)
    (case k28 => k_is)
    (case a29 => k_is)
    (case l29 => k_is)
    (case c29 => k_is)
    (case k29 => k_is)
    (case a30 => k_is)
    (case l30 => k_is)
    (case c30 => k_is)
    (case k30 => k_is)
    (case a31 => k_is)
    (case l31 => k_is)
    (case c31 => k_is)
    (case k31 => k_is)
    (case a32 => k_is)
    (case l32 => k_is)
    (case c32 => k_is)
    (case k32 => k_is)
    (case a33 => k_is)
    (case l33 => k_is)
    (case c33 => k_is)
    (case k33 => k_is)
    (case a34 => k_is)
    (case l34 => k_is)
    (case c34 => k_is)
    (case k34 => k_is)
    (case a35 => k_is)
    (case l35 => k_is)
    (case c35 => k_is)
    (case k35 => k_is)
    (case a36 => k_is)
    (case l36 => k_is)
    (case c36 => k_is)
    (case k36 => k_is)
    (case a37 => k_is)
    (case l37 => k_is)
    (case c37 => k_is)
    (case k37 => k_is)
    (case a38 => k_is)
    (case l38 => k_is)
    (case c38 => k_is)
    (case k38 => k_is)
    (case a39 => k_is)
    (case l39 => k_is)
    (case c39 => k_is)
    (case k39 => k_is)
    (case a40 => k_is)
    (case l40 => k_is)
    (case c40 => k_is)
    (case k40 => k_is)
    (case a41 => k_is)
    (case l41 => k_is)
    (case c41 => k_is)
    (case k41 => k_is)
    (case a42 => k_is)
    (case l42 => k_is)
    (case c42 => k_is)
    (case k42 => k_is)
    (case a43 => k_is)
    (case l43 => k_is)
    (case c43 => k_is)
    (case k43 => k_is)
    (case a44 => k_is)
    (case l44 => k_is)
    (case c44 => k_is)
    (case k44 => k_is)
    (case aCI => k_is)
    (case a45 => k_is)
    (case i45 => k_is)
    (case l45 => k_is)
    (case c45 => k_is)
    (case k45 => k_is)
    (case mkI => k_is)
    (case kcI => k_is)
    (case pgI => k_is)
    (case hdI => k_is)
    (case poI => k_is)
    (case saI => k_is)
    (case nI_kind => k_is)
    (case nI_told => k_is)
    (case xg_BadProgram => k_is)
    (case xq_BadProgram => k_exc)
    (case xk_BadProgram => k_is)
    (case xb_BadProgram => k_is)
    (case xt_BadProgram => k_is)
    (case xga_BadProgram => k_is)
    (case xgt_BadProgram => k_is)
    (case xd_BadProgram => k_is)
    (case xa_BadProgram => k_is)
    (case xm_BadProgram => k_is)
    (case xs_BadProgram => first | rfl | k_is)
    (case xv_BadProgram => k_is)
    (case hn => k_is)
    (case htk => k_is)
    (case xg_HandError => k_is)
    (case xg_BadText => k_is)
    (case xg_BadCells => k_is)
    (case xg_BadWays => k_is)
    (case xga_BadText => k_is)
    (case xgt_BadText => k_is)
    (case xb_BadText => k_is)
    (case xd_BadText => k_is)
    (case xa_BadText => k_is)
    (case xm_BadText => k_is)
    (case xv_BadText => k_is)
    (case xh_BadText => k_is)
    (case xb_HandError => k_is)
    (case xd_HandError => k_is)
    (case xt_HandError => k_is)
    (case xn_BadText_BadProgram => decide)
    (case xi_BadProgram => k_is)
    (case xo_BadText_BadProgram => k_is)
    (case xn_BadText_BadCells => decide)
    (case xi_BadCells => k_is)
    (case xt_BadCells => k_is)
    (case xo_BadText_BadCells => k_is)
    (case xn_BadText_BadWays => decide)
    (case xi_BadWays => k_is)
    (case xt_BadWays => k_is)
    (case xo_BadText_BadWays => k_is)
    (case xh_BadProgram => k_is)
    (case xn_BadProgram_BadText => decide)
    (case xi_BadText => k_is)
    (case xt_BadText => k_is)
    (case xo_BadProgram_BadText => k_is)
    (case xn_BadProgram_BadCells => decide)
    (case xo_BadProgram_BadCells => k_is)
    (case xn_BadProgram_BadWays => decide)
    (case xo_BadProgram_BadWays => k_is)
    (case xr_BadText => k_is)
    (case bt_i => k_is)
    (case bt_y => k_is)
    (case bt_l => k_is)
    (case bt_c => k_is)
    (case bt_v => k_is)
    (case bt_2 => rfl)
    (case bt_f => decide +kernel)
    (case bt_k => k_is)
    (case bt_t => decide +kernel)
    (case bt_s => k_is)
    (case bt_3 => k_is)
    (case bt_m => ks_is)
    (case bt_o => k_is)
    (case bt_x => k_is)
    (case bt_b => rfl)
    (case bt_a => k_is)
    (case xk_BadText => k_is)
    (case z_ValueError => k_is)
    (case i_NUMBERS => k_is)
    (case i_MOST_WORKS => k_is)
    (case i_MOST_PARAMS => k_is)
    (case i_MOST_OWNS => k_is)
    (case i_MOST_STEPS => k_is)
    (case i_MOST_OTHERS => k_is)
    (case t_PLACES => k_is)
    (case u_PLACES => k_is)
    (case nt_FIG => k_is)
    (case nt_MOST => k_is)
    (case nt_THINGS => k_is)
    (case nu_THINGS => k_is)
    (case nt_ENDS => k_is)
    (case nu_ENDS => k_is)
    (case nt_TAKES => k_is)
    (case nu_TAKES => k_is)
    (case nl_TAKES => decide)
    (case nh_0 => rfl)
    (case nv_0 => k_is)
    (case nh_1 => rfl)
    (case nv_1 => k_is)
    (case nh_2 => rfl)
    (case nv_2 => k_is)
    (case nh_3 => rfl)
    (case nv_3 => k_is)
    (case nh_4 => rfl)
    (case nv_4 => k_is)
    (case nh_5 => rfl)
    (case nv_5 => k_is)
    (case nh_6 => rfl)
    (case nv_6 => k_is)
    (case z_reversed => k_is)
    (case z_all => k_is)
    (case z_len => k_is)
    (case z_int => k_is)
    (case z_range => k_is)
    (case z_isinstance => k_is)
    (case z_tuple => k_is)
    (case z_list => k_is)
    (case z_bool => k_is)
    (case z_str => k_is)
    (case z_zip => k_is)
    (case z_enumerate => k_is)
