import PyProof.Rows.All
import Wide.All
import OpenK.AllK
import Wide.FinOn
import HandS.ForMost
import HandS.IsInst
import HandS.Wide
import HandS.TupAny
import HandS.Codes
import HandS.Small
import HandS.NoneIn
import HandS.Zip
import HandS.Text
import HandS.Conv
import HandS.FStr
import HandS.StrMore
import KE.KDictZip
import KE.GoesMore
import KE.GoesEnum
import KE.GoesZip
import HandS.More
import KE.SortData
import KE.DatumOrd
import KE.KDictPairs
import HandS.SortKw
import PyProof.P3Eq
import PySem.Challenge.RW_trireme_k10_plain_runs
section
set_option Elab.async false
set_option linter.all false
set_option maxRecDepth 100000
set_option autoImplicit false
/-! Rf: values with tuples as data, objects numbered as they are made; every def becomes a plain Lean function over these (by combinators), and one rule a construct ties it to the program's own run. -/
namespace Rf
open PySem PySem.Spec L2

inductive PV where
  | non | bl (b : Bool) | int (i : Int) | str (s : Str) | tup (xs : List PV) | ref (i : Nat)

mutual
def PV.dec : (a b : PV) → Decidable (a = b)
  | .non, .non => Decidable.isTrue rfl
  | .bl a, .bl b => if h : a = b then Decidable.isTrue (h ▸ rfl) else Decidable.isFalse fun e => h (PV.bl.inj e)
  | .int a, .int b => if h : a = b then Decidable.isTrue (h ▸ rfl) else Decidable.isFalse fun e => h (PV.int.inj e)
  | .str a, .str b => if h : a = b then Decidable.isTrue (h ▸ rfl) else Decidable.isFalse fun e => h (PV.str.inj e)
  | .tup a, .tup b => match PV.decL a b with
    | Decidable.isTrue h => Decidable.isTrue (h ▸ rfl)
    | Decidable.isFalse h => Decidable.isFalse fun e => h (PV.tup.inj e)
  | .ref a, .ref b => if h : a = b then Decidable.isTrue (h ▸ rfl) else Decidable.isFalse fun e => h (PV.ref.inj e)
  | .non, .bl _ | .non, .int _ | .non, .str _ | .non, .tup _ | .non, .ref _ => Decidable.isFalse nofun
  | .bl _, .non | .bl _, .int _ | .bl _, .str _ | .bl _, .tup _ | .bl _, .ref _ => Decidable.isFalse nofun
  | .int _, .non | .int _, .bl _ | .int _, .str _ | .int _, .tup _ | .int _, .ref _ => Decidable.isFalse nofun
  | .str _, .non | .str _, .bl _ | .str _, .int _ | .str _, .tup _ | .str _, .ref _ => Decidable.isFalse nofun
  | .tup _, .non | .tup _, .bl _ | .tup _, .int _ | .tup _, .str _ | .tup _, .ref _ => Decidable.isFalse nofun
  | .ref _, .non | .ref _, .bl _ | .ref _, .int _ | .ref _, .str _ | .ref _, .tup _ => Decidable.isFalse nofun
def PV.decL : (a b : List PV) → Decidable (a = b)
  | [], [] => Decidable.isTrue rfl
  | [], _ :: _ => Decidable.isFalse nofun
  | _ :: _, [] => Decidable.isFalse nofun
  | a :: r, b :: s => match PV.dec a b, PV.decL r s with
    | Decidable.isTrue h, Decidable.isTrue h' => Decidable.isTrue (h ▸ h' ▸ rfl)
    | Decidable.isFalse h, _ => Decidable.isFalse fun e => h (List.cons.inj e).1
    | _, Decidable.isFalse h => Decidable.isFalse fun e => h (List.cons.inj e).2
end
instance : DecidableEq PV := PV.dec

/-- what stands at a numbered place: a list, a list that is only read, a dict, an instance of the class c -/
inductive Ob where
  | lst (xs : List PV) | rol (xs : List PV) | dic (kvs : List (Key × PV)) | ins (c : Nat) (fs : List (Str × PV))
  deriving DecidableEq
def Ob.mu : Ob → Bool
  | .rol _ => false
  | _ => true
abbrev Mem := List Ob
abbrev Env := List (Option PV)

/-- a tuple whose object has no dict of its own -/
def SqP (K : PySem.W.Frag) (H : Hp) (a : Addr) (xs : List V) : Prop := (∃ o : Obj, H a = some (.frz o (.tup xs)) ∧ o.dict = none) ∨
  ∃ (o : Obj) (its : Array Value) (n : Nat), K.lookup a = some o ∧ o.cls = .type "tuple" ∧ o.dict = none ∧ o.data = .seq its n ∧ its.size ≤ sizeLine ∧ Vals xs its.toList
theorem SqP.t {K : PySem.W.Frag} {H : Hp} {a : Addr} {xs : List V} (h : SqP K H a xs) : SqT K H a xs := by
  rcases h with ⟨o, h, _⟩ | ⟨o, its, n, h1, h2, _, h3⟩
  · exact .inl (.inr ⟨o, h⟩)
  · exact .inr ⟨o, its, n, h1, h2, h3⟩
/-! ### what a value stands for -/
section
variable (K : PySem.W.Frag) (ρ : List Addr) (H : Hp)
mutual
def Rep : PV → V → Prop
  | .non, v => v = .non
  | .bl b, v => v = .bl b
  | .int i, v => v = .int i
  | .str s, v => v = .str s
  | .tup ps, v => ∃ a xs, v = .ref a ∧ SqP K H a xs ∧ RepL ps xs
  | .ref i, v => ∃ a, ρ[i]? = some a ∧ v = .ref a
def RepL : List PV → List V → Prop
  | [], xs => xs = []
  | p :: ps, xs => ∃ x r, xs = x :: r ∧ Rep p x ∧ RepL ps r
end
abbrev RepF {κ : Type} : List (κ × PV) → List (κ × V) → Prop := Paired fun p q => p.1 = q.1 ∧ Rep K ρ H p.2 q.2
def RepO (cl : Nat → Addr) : Ob → Addr → Prop
  | .lst ps, a => ∃ xs, H a = some (.lst xs) ∧ RepL K ρ H ps xs
  | .rol ps, a => ∃ xs, ((∃ o, H a = some (.frz o (.lst xs))) ∨ ∀ H', SqL K H' a xs) ∧ RepL K ρ H ps xs
  | .dic kvs, a => ∃ kws, H a = some (.dK kws) ∧ RepF K ρ H kvs kws
  | .ins c fs, a => ∃ dx fws, H a = some (.ins (cl c) dx fws) ∧ RepF K ρ H fs fws
end

/-- the heap may have grown: tuples stay, numbers keep their addresses -/
structure Ext (K : PySem.W.Frag) (ρ : List Addr) (H : Hp) (ρ' : List Addr) (H' : Hp) : Prop where
  pre : ρ <+: ρ'
  tup : ∀ a xs, SqT K H a xs → SqT K H' a xs
  tp : ∀ a xs, SqP K H a xs → SqP K H' a xs
theorem Ext.refl {K ρ H} : Ext K ρ H ρ H := ⟨List.prefix_refl _, fun _ _ h => h, fun _ _ h => h⟩
theorem Ext.trans {K ρ H ρ1 H1 ρ2 H2} (a : Ext K ρ H ρ1 H1) (b : Ext K ρ1 H1 ρ2 H2) : Ext K ρ H ρ2 H2 := ⟨a.pre.trans b.pre, fun c xs h => b.tup c xs (a.tup c xs h), fun c xs h => b.tp c xs (a.tp c xs h)⟩
theorem Ext.at {K ρ H ρ' H'} (e : Ext K ρ H ρ' H') {i : Nat} {a : Addr} (h : ρ[i]? = some a) : ρ'[i]? = some a := by
  obtain ⟨t, rfl⟩ := e.pre
  rw [List.getElem?_append_left (List.getElem?_eq_some_iff.mp h).1]
  exact h
section
variable {K : PySem.W.Frag} {ρ ρ' : List Addr} {H H' : Hp} (e : Ext K ρ H ρ' H')
include e
mutual
theorem Ext.rep : ∀ (p : PV) (v : V), Rep K ρ H p v → Rep K ρ' H' p v
  | .non, _, h => h
  | .bl _, _, h => h
  | .int _, _, h => h
  | .str _, _, h => h
  | .tup ps, v, h => by
    rw [Rep] at h ⊢
    obtain ⟨a, xs, h1, h2, h3⟩ := h
    exact ⟨a, xs, h1, e.tp a xs h2, Ext.repL ps xs h3⟩
  | .ref i, v, h => by
    rw [Rep] at h ⊢
    obtain ⟨a, h1, h2⟩ := h
    exact ⟨a, e.at h1, h2⟩
theorem Ext.repL : ∀ (ps : List PV) (xs : List V), RepL K ρ H ps xs → RepL K ρ' H' ps xs
  | [], _, h => h
  | p :: ps, xs, h => by
    rw [RepL] at h ⊢
    obtain ⟨x, r, h1, h2, h3⟩ := h
    exact ⟨x, r, h1, Ext.rep p x h2, Ext.repL ps r h3⟩
end
theorem Ext.repF {κ : Type} {a : List (κ × PV)} {b : List (κ × V)} (h : RepF K ρ H a b) : RepF K ρ' H' a b := Paired.mapP h fun p q z => ⟨z.1, e.rep _ _ z.2⟩
end

section
variable {K : PySem.W.Frag} {ρ : List Addr} {H : Hp}
theorem RepL.length : ∀ {ps : List PV} {xs : List V}, RepL K ρ H ps xs → xs.length = ps.length
  | [], xs, h => by rw [RepL] at h; rw [h]; rfl
  | p :: ps, xs, h => by
    rw [RepL] at h
    obtain ⟨x, r, rfl, _, h3⟩ := h
    rw [List.length_cons, List.length_cons, RepL.length h3]
theorem RepL.get : ∀ {ps : List PV} {xs : List V} {i : Nat} {p : PV}, RepL K ρ H ps xs → ps[i]? = some p → ∃ x, xs[i]? = some x ∧ Rep K ρ H p x
  | [], _, i, p, _, e => by simp at e
  | q :: ps, xs, i, p, h, e => by
    rw [RepL] at h
    obtain ⟨x, r, rfl, h2, h3⟩ := h
    cases i with
    | zero =>
      simp only [List.getElem?_cons_zero, Option.some.injEq] at e
      subst e
      exact ⟨x, rfl, h2⟩
    | succ i =>
      simp only [List.getElem?_cons_succ] at e
      obtain ⟨y, h4, h5⟩ := RepL.get h3 e
      exact ⟨y, by simpa using h4, h5⟩
theorem RepL.get' : ∀ {ps : List PV} {xs : List V} {i : Nat} {x : V}, RepL K ρ H ps xs → xs[i]? = some x → ∃ p, ps[i]? = some p ∧ Rep K ρ H p x
  | [], _, i, p, h, e => by rw [RepL] at h; subst h; simp at e
  | q :: ps, xs, i, p, h, e => by
    rw [RepL] at h
    obtain ⟨x, r, rfl, h2, h3⟩ := h
    cases i with
    | zero =>
      simp only [List.getElem?_cons_zero, Option.some.injEq] at e
      subst e
      exact ⟨q, rfl, h2⟩
    | succ i =>
      simp only [List.getElem?_cons_succ] at e
      obtain ⟨y, h4, h5⟩ := RepL.get' h3 e
      exact ⟨y, by simpa using h4, h5⟩
theorem RepL.append : ∀ {ps qs : List PV} {xs ys : List V}, RepL K ρ H ps xs → RepL K ρ H qs ys → RepL K ρ H (ps ++ qs) (xs ++ ys)
  | [], qs, xs, ys, h, h' => by rw [RepL] at h; subst h; exact h'
  | p :: ps, qs, xs, ys, h, h' => by
    rw [RepL] at h
    obtain ⟨x, r, rfl, h2, h3⟩ := h
    rw [List.cons_append, List.cons_append, RepL]
    exact ⟨x, _, rfl, h2, RepL.append h3 h'⟩
theorem RepL.nil : RepL K ρ H [] [] := by rw [RepL]
theorem RepL.cons {p : PV} {x : V} {ps : List PV} {xs : List V} (h : Rep K ρ H p x) (h' : RepL K ρ H ps xs) : RepL K ρ H (p :: ps) (x :: xs) := by
  rw [RepL]
  exact ⟨x, xs, rfl, h, h'⟩
theorem RepL.one {p : PV} {x : V} (h : Rep K ρ H p x) : RepL K ρ H [p] [x] := .cons h .nil
theorem RepL.inv {p : PV} {ps : List PV} {xs : List V} (h : RepL K ρ H (p :: ps) xs) : ∃ x r, xs = x :: r ∧ Rep K ρ H p x ∧ RepL K ρ H ps r := by rwa [RepL] at h
theorem RepL.inv0 {xs : List V} (h : RepL K ρ H [] xs) : xs = [] := by rwa [RepL] at h
theorem RepL.set : ∀ {ps : List PV} {xs : List V} {p : PV} {x : V} (i : Nat), RepL K ρ H ps xs → Rep K ρ H p x → RepL K ρ H (ps.set i p) (xs.set i x)
  | [], xs, p, x, i, h, h' => by rw [h.inv0]; exact .nil
  | q :: ps, xs, p, x, i, h, h' => by
    obtain ⟨y, r, rfl, h2, h3⟩ := h.inv
    cases i with
    | zero => exact .cons h' h3
    | succ i => exact .cons h2 (RepL.set i h3 h')
theorem RepL.take : ∀ {ps : List PV} {xs : List V} (n : Nat), RepL K ρ H ps xs → RepL K ρ H (ps.take n) (xs.take n)
  | [], xs, n, h => by rw [h.inv0]; simp; exact .nil
  | q :: ps, xs, n, h => by
    obtain ⟨y, r, rfl, h2, h3⟩ := h.inv
    cases n with
    | zero => exact .nil
    | succ n => exact .cons h2 (RepL.take n h3)
theorem RepL.drop : ∀ {ps : List PV} {xs : List V} (n : Nat), RepL K ρ H ps xs → RepL K ρ H (ps.drop n) (xs.drop n)
  | [], xs, n, h => by rw [h.inv0]; simp; exact .nil
  | q :: ps, xs, n, h => by
    obtain ⟨y, r, rfl, h2, h3⟩ := h.inv
    cases n with
    | zero => exact .cons h2 h3
    | succ n => exact RepL.drop n h3
theorem RepL.reverse : ∀ {ps : List PV} {xs : List V}, RepL K ρ H ps xs → RepL K ρ H ps.reverse xs.reverse
  | [], xs, h => by rw [h.inv0]; exact .nil
  | q :: ps, xs, h => by
    obtain ⟨y, r, rfl, h2, h3⟩ := h.inv
    rw [List.reverse_cons, List.reverse_cons]
    exact h3.reverse.append (.one h2)
theorem RepL.ints : ∀ ns : List Int, RepL K ρ H (ns.map PV.int) (ns.map V.int)
  | [] => .nil
  | n :: ns => .cons (by rw [Rep]) (RepL.ints ns)
theorem RepL.strs : ∀ ns : List Str, RepL K ρ H (ns.map PV.str) (ns.map V.str)
  | [] => .nil
  | n :: ns => .cons (by rw [Rep]) (RepL.strs ns)
@[simp] theorem rep_non {v : V} : Rep K ρ H .non v ↔ v = .non := by rw [Rep]
@[simp] theorem rep_bl {b : Bool} {v : V} : Rep K ρ H (.bl b) v ↔ v = .bl b := by rw [Rep]
@[simp] theorem rep_int {b : Int} {v : V} : Rep K ρ H (.int b) v ↔ v = .int b := by rw [Rep]
@[simp] theorem rep_str {b : Str} {v : V} : Rep K ρ H (.str b) v ↔ v = .str b := by rw [Rep]
theorem rep_tup {ps : List PV} {v : V} : Rep K ρ H (.tup ps) v ↔ ∃ a xs, v = .ref a ∧ SqP K H a xs ∧ RepL K ρ H ps xs := by rw [Rep]
theorem rep_ref {i : Nat} {v : V} : Rep K ρ H (.ref i) v ↔ ∃ a, ρ[i]? = some a ∧ v = .ref a := by rw [Rep]
end

/-! ### what the store stands for -/
structure RelM (K : PySem.W.Frag) (cl : Nat → Addr) (ρ : List Addr) (H : Hp) (m : Mem) : Prop where
  len : ρ.length = m.length
  inj : ∀ (i j : Nat) (a : Addr) (o o' : Ob), ρ[i]? = some a → ρ[j]? = some a → m[i]? = some o → m[j]? = some o' → o.mu = true → o'.mu = true → i = j
  ok : ∀ (i : Nat) (a : Addr) (o : Ob), ρ[i]? = some a → m[i]? = some o → RepO K ρ H cl o a
theorem RelM.addr {K cl ρ H m} (h : RelM K cl ρ H m) {i : Nat} {o : Ob} (e : m[i]? = some o) : ∃ a, ρ[i]? = some a := by
  have := (List.getElem?_eq_some_iff.mp e).1
  exact ⟨ρ[i]'(by rw [h.len]; exact this), List.getElem?_eq_getElem _⟩

/-- a store or a new object at a keeps the tuples -/
theorem sqT_upd {K : PySem.W.Frag} {H : Hp} {a : Addr} {o : HO} (h : ∀ ys, ¬ Rd H a (.tup ys)) {b : Addr} {xs : List V} (q : SqT K H b xs) : SqT K (upd H a o) b xs := by
  rcases q with q | q
  · have hb : b ≠ a := fun e => h xs (e ▸ q)
    refine .inl ?_
    rcases q with q | ⟨o', q⟩
    · exact .inl (by rw [upd_ne hb]; exact q)
    · exact .inr ⟨o', by rw [upd_ne hb]; exact q⟩
  · exact .inr q
theorem sqP_upd {K : PySem.W.Frag} {H : Hp} {a : Addr} {o : HO} (h : ∀ ys, ¬ Rd H a (.tup ys)) {b : Addr} {xs : List V} (q : SqP K H b xs) : SqP K (upd H a o) b xs := by
  rcases q with ⟨o', q, hd⟩ | q
  · have hb : b ≠ a := fun e => h xs (e ▸ .inr ⟨o', q⟩)
    exact .inl ⟨o', by rw [upd_ne hb]; exact q, hd⟩
  · exact .inr q
theorem noTup_none {H : Hp} {a : Addr} (h : H a = none) : ∀ ys, ¬ Rd H a (.tup ys) := fun ys q => by
  rcases q with q | ⟨o, q⟩ <;> (rw [h] at q; cases q)
theorem noTup_some {H : Hp} {a : Addr} {u : HO} (h : H a = some u) (h1 : ∀ ys, u ≠ .tup ys) (h2 : ∀ o ys, u ≠ .frz o ys) : ∀ ys, ¬ Rd H a (.tup ys) := fun ys q => by
  rcases q with q | ⟨o, q⟩
  · rw [h] at q; cases q; exact h1 _ rfl
  · rw [h] at q; cases q; exact h2 _ _ rfl
theorem RepO.ext {K cl ρ H ρ' H'} (e : Ext K ρ H ρ' H') {o : Ob} {a : Addr} (h : RepO K ρ H cl o a) (k : ∀ u, H a = some u → H' a = some u) : RepO K ρ' H' cl o a := by
  cases o with
  | lst ps => obtain ⟨xs, h1, h2⟩ := h; exact ⟨xs, k _ h1, e.repL _ _ h2⟩
  | rol ps =>
    obtain ⟨xs, h1, h2⟩ := h
    refine ⟨xs, ?_, e.repL _ _ h2⟩
    rcases h1 with ⟨o, h1⟩ | h1
    · exact .inl ⟨o, k _ h1⟩
    · exact .inr h1
  | dic kvs => obtain ⟨xs, h1, h2⟩ := h; exact ⟨xs, k _ h1, e.repF h2⟩
  | ins c fs => obtain ⟨dx, xs, h1, h2⟩ := h; exact ⟨dx, xs, k _ h1, e.repF h2⟩
theorem RepO.there {K cl ρ H} {o : Ob} {a : Addr} (h : RepO K ρ H cl o a) (hm : o.mu = true) : ∃ u, H a = some u ∧ (∀ ys, u ≠ .tup ys) ∧ ∀ o ys, u ≠ .frz o ys := by
  cases o with
  | lst ps => obtain ⟨xs, h1, h2⟩ := h; exact ⟨_, h1, (fun _ e => HO.noConfusion e), (fun _ _ e => HO.noConfusion e)⟩
  | rol ps => cases hm
  | dic kvs => obtain ⟨xs, h1, h2⟩ := h; exact ⟨_, h1, (fun _ e => HO.noConfusion e), (fun _ _ e => HO.noConfusion e)⟩
  | ins c fs => obtain ⟨dx, xs, h1, h2⟩ := h; exact ⟨_, h1, (fun _ e => HO.noConfusion e), (fun _ _ e => HO.noConfusion e)⟩
theorem ext_new {K ρ H} {p : Addr} {o : HO} (h : H p = none) (l : List Addr) : Ext K ρ H (ρ ++ l) (upd H p o) := ⟨List.prefix_append _ _, fun _ _ q => sqT_upd (noTup_none h) q, fun _ _ q => sqP_upd (noTup_none h) q⟩
theorem ext_set {K cl ρ H m} {i : Nat} {a : Addr} {o : Ob} {u : HO} (h : RelM K cl ρ H m) (ha : ρ[i]? = some a) (ho : m[i]? = some o) (hm : o.mu = true) : Ext K ρ H ρ (upd H a u) := by
  obtain ⟨u', h1, h2, h3⟩ := (h.ok i a o ha ho).there hm
  exact ⟨List.prefix_refl _, fun _ _ q => sqT_upd (noTup_some h1 h2 h3) q, fun _ _ q => sqP_upd (noTup_some h1 h2 h3) q⟩
/-- a new object -/
theorem RelM.alloc {K cl ρ H m} (h : RelM K cl ρ H m) {p : Addr} {u : HO} {o : Ob} (hp : H p = none) (hn : RepO K (ρ ++ [p]) (upd H p u) cl o p) : RelM K cl (ρ ++ [p]) (upd H p u) (m ++ [o]) := by
  have e : Ext K ρ H (ρ ++ [p]) (upd H p u) := ext_new hp _
  have old : ∀ (i : Nat) (a : Addr) (o' : Ob), ρ[i]? = some a → m[i]? = some o' → RepO K (ρ ++ [p]) (upd H p u) cl o' a := fun i a o' h1 h2 => (h.ok i a o' h1 h2).ext e fun v q => by
    rw [upd_ne (ne_of_none q hp)]; exact q
  have nomu : ∀ (i : Nat) (o' : Ob), ρ[i]? = some p → m[i]? = some o' → o'.mu = true → False := fun i o' h1 h2 h3 => by
    obtain ⟨v, q, _⟩ := (h.ok i p o' h1 h2).there h3
    rw [hp] at q; cases q
  have cut : ∀ (i : Nat) (a : Addr) (o' : Ob), (ρ ++ [p])[i]? = some a → (m ++ [o])[i]? = some o' → (ρ[i]? = some a ∧ m[i]? = some o') ∨ (i = m.length ∧ a = p ∧ o' = o) := fun i a o' h1 h2 => by
    by_cases hi : i < m.length
    · rw [List.getElem?_append_left (by rw [h.len]; exact hi)] at h1
      rw [List.getElem?_append_left hi] at h2
      exact .inl ⟨h1, h2⟩
    · rw [List.getElem?_append_right (by rw [h.len]; omega)] at h1
      rw [List.getElem?_append_right (by omega)] at h2
      have e1 : i - m.length = 0 := by
        have := (List.getElem?_eq_some_iff.mp h2).1
        simpa using this
      rw [h.len] at h1
      rw [e1] at h1 h2
      simp at h1 h2
      exact .inr ⟨by omega, h1.symm, h2.symm⟩
  refine ⟨by simp [h.len], fun i j a o1 o2 h1 h2 h3 h4 h5 h6 => ?_, fun i a o' h1 h2 => ?_⟩
  · rcases cut i a o1 h1 h3 with ⟨q1, q2⟩ | ⟨q1, q2, q3⟩
    · rcases cut j a o2 h2 h4 with ⟨r1, r2⟩ | ⟨r1, r2, r3⟩
      · exact h.inj i j a o1 o2 q1 r1 q2 r2 h5 h6
      · subst r2; exact (nomu i o1 q1 q2 h5).elim
    · rcases cut j a o2 h2 h4 with ⟨r1, r2⟩ | ⟨r1, r2, r3⟩
      · subst q2; exact (nomu j o2 r1 r2 h6).elim
      · omega
  · rcases cut i a o' h1 h2 with ⟨q1, q2⟩ | ⟨q1, q2, q3⟩
    · exact old i a o' q1 q2
    · subst q2 q3; exact hn
/-- a store -/
theorem RelM.set {K cl ρ H m} (h : RelM K cl ρ H m) {i : Nat} {a : Addr} {u : HO} {o o' : Ob} (ha : ρ[i]? = some a) (ho : m[i]? = some o) (hm : o.mu = true) (hm' : o'.mu = true) (hn : RepO K ρ (upd H a u) cl o' a) : RelM K cl ρ (upd H a u) (m.set i o') := by
  have e : Ext K ρ H ρ (upd H a u) := ext_set h ha ho hm
  have hi : i < m.length := (List.getElem?_eq_some_iff.mp ho).1
  refine ⟨by simp [h.len], fun j k b o1 o2 h1 h2 h3 h4 h5 h6 => ?_, fun j b o1 h1 h2 => ?_⟩
  · have at' : ∀ (j : Nat) (o1 : Ob), (m.set i o')[j]? = some o1 → o1.mu = true → ∃ o2, m[j]? = some o2 ∧ o2.mu = true := fun j o1 q1 q2 => by
      by_cases hj : j = i
      · exact ⟨o, by rw [hj]; exact ho, hm⟩
      · rw [List.getElem?_set_ne (Ne.symm hj)] at q1
        exact ⟨o1, q1, q2⟩
    obtain ⟨x1, y1, z1⟩ := at' j o1 h3 h5
    obtain ⟨x2, y2, z2⟩ := at' k o2 h4 h6
    exact h.inj j k b x1 x2 h1 h2 y1 y2 z1 z2
  · by_cases hj : j = i
    · subst hj
      rw [ha] at h1; cases h1
      rw [List.getElem?_set_self hi] at h2; cases h2
      exact hn
    · rw [List.getElem?_set_ne (Ne.symm hj)] at h2
      have q := h.ok j b o1 h1 h2
      by_cases hb : b = a
      · subst hb
        cases hm1 : o1.mu with
        | true => exact absurd (h.inj j i b o1 o h1 ha h2 ho hm1 hm) hj
        | false =>
          cases o1 with
          | rol ps =>
            obtain ⟨xs, q1, q2⟩ := q
            refine ⟨xs, .inr ?_, e.repL _ _ q2⟩
            rcases q1 with ⟨ob, q1⟩ | q1
            · obtain ⟨v, r1, r2, r3⟩ := (h.ok i b o ha ho).there hm
              rw [q1] at r1; cases r1
              exact absurd rfl (r3 _ _)
            · exact q1
          | _ => cases hm1
      · exact q.ext e fun v r => by rw [upd_ne hb]; exact r

/-! ### the local names -/
structure RelE (K : PySem.W.Frag) (ρ : List Addr) (H : Hp) (σ : L2.St) (env : Env) : Prop where
  len : σ.length = env.length
  ok : ∀ (i : Nat) (p : PV), env[i]? = some (some p) → ∃ v, σ[i]? = some (some v) ∧ Rep K ρ H p v
theorem RelE.ext {K ρ H ρ' H' σ env} (h : RelE K ρ H σ env) (e : Ext K ρ H ρ' H') : RelE K ρ' H' σ env := ⟨h.len, fun i p q => let ⟨v, h1, h2⟩ := h.ok i p q; ⟨v, h1, e.rep _ _ h2⟩⟩
theorem RelE.set {K ρ H σ env} (h : RelE K ρ H σ env) {p : PV} {v : V} (i : Nat) (r : Rep K ρ H p v) : RelE K ρ H (σ.set i (some v)) (env.set i (some p)) := by
  refine ⟨by simp [h.len], fun j q e => ?_⟩
  by_cases hj : j = i
  · subst hj
    have hl : j < env.length := by
      have := (List.getElem?_eq_some_iff.mp e).1
      simpa using this
    rw [List.getElem?_set_self hl] at e
    cases e
    exact ⟨v, by rw [List.getElem?_set_self (by rw [h.len]; exact hl)], r⟩
  · rw [List.getElem?_set_ne (Ne.symm hj)] at e ⊢
    exact h.ok j q e
theorem RelE.wipe1 {K ρ H σ env} (h : RelE K ρ H σ env) (i : Nat) : RelE K ρ H (σ.set i none) (env.set i none) := by
  refine ⟨by simp [h.len], fun j q e => ?_⟩
  by_cases hj : j = i
  · subst hj
    have hl : j < env.length := by
      have := (List.getElem?_eq_some_iff.mp e).1
      simpa using this
    rw [List.getElem?_set_self hl] at e
    cases e
  · rw [List.getElem?_set_ne (Ne.symm hj)] at e ⊢
    exact h.ok j q e
end Rf
end

section
set_option Elab.async false
set_option linter.all false
set_option maxRecDepth 100000
set_option autoImplicit false
namespace Rf
open PySem PySem.Spec L2

inductive Fl where
  | nx | rt (v : PV) | bk | ct
abbrev Ex := Env → Mem → Option (PV × Mem)
abbrev Tx := Env → Mem → Option (Bool × Mem)
abbrev Ax := Env → Mem → Option (List PV × Mem)
abbrev Sx := Env → Mem → Option (Fl × Env × Mem)
abbrev Fn := List PV → Mem → Option (PV × Mem)

/-! ### readings -/
section
variable (K : PySem.W.Frag) (cl : Nat → Addr)
def KE (ρ : List Addr) (H : Hp) (r : PV × Mem) (Q : VK) : Prop := ∀ ρ' v H', Ext K ρ H ρ' H' → RelM K cl ρ' H' r.2 → Rep K ρ' H' r.1 v → Q v H'
def KT (ρ : List Addr) (H : Hp) (r : Bool × Mem) (Q : Bool → Hp → Prop) : Prop := ∀ ρ' H', Ext K ρ H ρ' H' → RelM K cl ρ' H' r.2 → Q r.1 H'
def KA (ρ : List Addr) (H : Hp) (r : List PV × Mem) (Q : List V → Hp → Prop) : Prop := ∀ ρ' vs H', Ext K ρ H ρ' H' → RelM K cl ρ' H' r.2 → RepL K ρ' H' r.1 vs → Q vs H'
def KS (ρ : List Addr) (H : Hp) (r : Fl × Env × Mem) (D : Ends) : Prop := ∀ ρ' σ' H', Ext K ρ H ρ' H' → RelM K cl ρ' H' r.2.2 → RelE K ρ' H' σ' r.2.1 → match r.1 with
  | .nx => D.nx σ' H'
  | .bk => D.bk σ' H'
  | .ct => D.ct σ' H'
  | .rt p => ∀ v, Rep K ρ' H' p v → D.rt v H'
def TX (m : Ex) : TE := fun σ H Q => ∃ ρ env mem r, RelM K cl ρ H mem ∧ RelE K ρ H σ env ∧ m env mem = some r ∧ KE K cl ρ H r Q
def TTX (m : Tx) : TT := fun σ H Q => ∃ ρ env mem r, RelM K cl ρ H mem ∧ RelE K ρ H σ env ∧ m env mem = some r ∧ KT K cl ρ H r Q
def TAX (m : Ax) : TA := fun σ H Q => ∃ ρ env mem r, RelM K cl ρ H mem ∧ RelE K ρ H σ env ∧ m env mem = some r ∧ KA K cl ρ H r Q
def TSX (m : Sx) : TS := fun D σ H => ∃ ρ env mem r, RelM K cl ρ H mem ∧ RelE K ρ H σ env ∧ m env mem = some r ∧ KS K cl ρ H r D
/-- what a def promises -/
def SpF (n : Nat) (F : Fn) : Sp := fun vs H Q _ => ∃ ρ ps mem r, ps.length = n ∧ RelM K cl ρ H mem ∧ RepL K ρ H ps vs ∧ F ps mem = some r ∧ KE K cl ρ H r Q
/-- .. an __init__ -/
def SpI (n : Nat) (F : Fn) : Sp := fun vs H Q _ => ∃ ρ ps mem r, ps.length = n ∧ RelM K cl ρ H mem ∧ RepL K ρ H ps vs ∧ F ps mem = some r ∧ KE K cl ρ H r Q
/-- operations by values -/
def G2 (g : PV → PV → Mem → Option (PV × Mem)) : R2 := fun x y H Q => ∃ ρ p q mem r, RelM K cl ρ H mem ∧ Rep K ρ H p x ∧ Rep K ρ H q y ∧ g p q mem = some r ∧ KE K cl ρ H r Q
def G1 (g : PV → Mem → Option (PV × Mem)) : V → Hp → VK → Prop := fun x H Q => ∃ ρ p mem r, RelM K cl ρ H mem ∧ Rep K ρ H p x ∧ g p mem = some r ∧ KE K cl ρ H r Q
def GL (g : List PV → Mem → Option (PV × Mem)) : List V → Hp → VK → Prop := fun xs H Q => ∃ ρ ps mem r, RelM K cl ρ H mem ∧ RepL K ρ H ps xs ∧ g ps mem = some r ∧ KE K cl ρ H r Q
/-- a method's: the receiver and the arguments -/
def GM (g : PV → List PV → Mem → Option (PV × Mem)) : V → List V → Hp → VK → Prop := fun x xs H Q => ∃ ρ p ps mem r, RelM K cl ρ H mem ∧ Rep K ρ H p x ∧ RepL K ρ H ps xs ∧ g p ps mem = some r ∧ KE K cl ρ H r Q
end

section
variable {K : PySem.W.Frag} {cl : Nat → Addr} {ρ ρ' : List Addr} {H H' : Hp}
theorem KE.ext {r : PV × Mem} {Q : VK} (h : KE K cl ρ H r Q) (e : Ext K ρ H ρ' H') : KE K cl ρ' H' r Q := fun ρ2 v H2 e2 => h ρ2 v H2 (e.trans e2)
theorem KT.ext {r : Bool × Mem} {Q : Bool → Hp → Prop} (h : KT K cl ρ H r Q) (e : Ext K ρ H ρ' H') : KT K cl ρ' H' r Q := fun ρ2 H2 e2 => h ρ2 H2 (e.trans e2)
theorem KA.ext {r : List PV × Mem} {Q : List V → Hp → Prop} (h : KA K cl ρ H r Q) (e : Ext K ρ H ρ' H') : KA K cl ρ' H' r Q := fun ρ2 v H2 e2 => h ρ2 v H2 (e.trans e2)
theorem KS.ext {r : Fl × Env × Mem} {D : Ends} (h : KS K cl ρ H r D) (e : Ext K ρ H ρ' H') : KS K cl ρ' H' r D := fun ρ2 v H2 e2 => h ρ2 v H2 (e.trans e2)
end

section
variable {X : Cx} {cl : Nat → Addr}
theorem PE.imp {e : Expr} {t t' : TE} (h : PE X e t) (hi : ∀ σ H Q, t' σ H Q → t σ H Q) : PE X e t' := ⟨fun pins s σ H Q I q => h.run pins s σ H Q I (hi _ _ _ q)⟩
theorem PE.or {e : Expr} {t t' : TE} (h : PE X e t) (h' : PE X e t') : PE X e (fun σ H Q => t σ H Q ∨ t' σ H Q) := ⟨fun pins s σ H Q I q => q.elim (h.run pins s σ H Q I) (h'.run pins s σ H Q I)⟩
theorem PT.imp {e : Expr} {t t' : TT} (h : PT X e t) (hi : ∀ σ H Q, t' σ H Q → t σ H Q) : PT X e t' := ⟨fun pins s σ H Q I q => h.run pins s σ H Q I (hi _ _ _ q)⟩
theorem PW.imp {e : Expr} {t t' : TT} (h : PW X e t) (hi : ∀ σ H Q, t' σ H Q → t σ H Q) : PW X e t' := ⟨fun wh pins s σ H Q I q => h.run wh pins s σ H Q I (hi _ _ _ q)⟩
theorem PA.imp {e : List Expr} {t t' : TA} (h : PA X e t) (hi : ∀ σ H Q, t' σ H Q → t σ H Q) : PA X e t' := ⟨fun pos pins s σ H Q I q => h.run pos pins s σ H Q I (hi _ _ _ q)⟩
theorem PS.imp {e : Stmt} {t t' : TS} (h : PS X e t) (hi : ∀ D σ H, t' D σ H → t D σ H) : PS X e t' := ⟨fun pins s σ H D I q => h.run pins s σ H D I (hi _ _ _ q)⟩
theorem PSs.imp {e : List Stmt} {t t' : TS} (h : PSs X e t) (hi : ∀ D σ H, t' D σ H → t D σ H) : PSs X e t' := ⟨fun pins s σ H D I q => h.run pins s σ H D I (hi _ _ _ q)⟩
theorem OpR.imp {f : Value → Value → Sem Value} {r r' : R2} (h : OpR X f r) (hi : ∀ x y H Q, r' x y H Q → r x y H Q) : OpR X f r' := fun pins s σ H x y v u Q I a b q => h pins s σ H x y v u Q I a b (hi _ _ _ _ q)
theorem CallR.imp {f : Value} {r r' : List V → Hp → VK → Prop} (h : CallR X f r) (hi : ∀ xs H Q, r' xs H Q → r xs H Q) : CallR X f r' := fun pins s σ H xs us Q I a q => h pins s σ H xs us Q I a (hi _ _ _ q)
theorem MtR.imp {id : String} {r r' : V → List V → Hp → VK → Prop} (h : MtR X id r) (hi : ∀ x xs H Q, r' x xs H Q → r x xs H Q) : MtR X id r' := fun pins s σ H x xs v us Q I a b q => h pins s σ H x xs v us Q I a b (hi _ _ _ _ q)
theorem IxR.imp {r r' : R2} (h : IxR X r) (hi : ∀ x y H Q, r' x y H Q → r x y H Q) : IxR X r' := fun value slice pins s σ H x y v u Q I a b q => h value slice pins s σ H x y v u Q I a b (hi _ _ _ _ q)

abbrev RX (cl : Nat → Addr) (X : Cx) (e : Expr) (m : Ex) : Prop := PE X e (TX X.K cl m)
abbrev RT (cl : Nat → Addr) (X : Cx) (e : Expr) (m : Tx) : Prop := PT X e (TTX X.K cl m)
abbrev RW (cl : Nat → Addr) (X : Cx) (e : Expr) (m : Tx) : Prop := PW X e (TTX X.K cl m)
abbrev RA (cl : Nat → Addr) (X : Cx) (e : List Expr) (m : Ax) : Prop := PA X e (TAX X.K cl m)
abbrev RS (cl : Nat → Addr) (X : Cx) (e : Stmt) (m : Sx) : Prop := PS X e (TSX X.K cl m)
abbrev RSs (cl : Nat → Addr) (X : Cx) (e : List Stmt) (m : Sx) : Prop := PSs X e (TSX X.K cl m)

/-! ### names, constants -/
def xVar (i : Nat) : Ex := fun env m => match env[i]? with
  | some (some p) => some (p, m)
  | _ => none
def xC (p : PV) : Ex := fun _ m => some (p, m)
theorem rx_var {i : Nat} {x : Str} {pos : Pos} (hN : X.N[i]? = some x) (hv : Vis X.env.scope x) (hd : (x == ("__debug__" : Str)) = false := by decide) (hcd : (x == ("__classdict__" : Str)) = false := by decide) : RX cl X (.Name x pos) (xVar i) :=
  PE.imp (pe_var hN hv hd hcd) fun σ H Q ⟨ρ, env, mem, r, hm, he, h, q⟩ => by
    unfold xVar at h
    split at h
    · rename_i p hp
      cases h
      obtain ⟨v, h1, h2⟩ := he.ok i p hp
      exact ⟨v, h1, q ρ v H .refl hm h2⟩
    · cases h
theorem rx_c {e : Expr} {p : PV} {v : V} (h : PE X e (tC v)) (hr : ∀ ρ H, Rep X.K ρ H p v) : RX cl X e (xC p) :=
  PE.imp h fun σ H Q ⟨ρ, env, mem, r, hm, he, h, q⟩ => by
    cases h
    exact q ρ v H .refl hm (hr ρ H)
theorem rx_int {i j pos} : RX cl X (.Constant (.int i) j pos) (xC (.int i)) := rx_c pe_int fun _ _ => by rw [Rep]
theorem rx_bl {i j pos} : RX cl X (.Constant (.bool i) j pos) (xC (.bl i)) := rx_c pe_bl fun _ _ => by rw [Rep]
theorem rx_non {j pos} : RX cl X (.Constant .none j pos) (xC .non) := rx_c pe_non fun _ _ => by rw [Rep]
theorem rx_str {i j pos} : RX cl X (.Constant (.str i) j pos) (xC (.str i)) := rx_c pe_str fun _ _ => by rw [Rep]
/-- a module's constant int -/
theorem rx_gint {x : Str} {i : Int} {pos : Pos} (h : ∃ t, X.mg x = some (.int i t)) (hg : Gl X x) (hd : (x == ("__debug__" : Str)) = false := by decide) : RX cl X (.Name x pos) (xC (.int i)) := by
  obtain ⟨t, h⟩ := h
  exact rx_c (v := .int i) (pe_glob hg h ⟨t, rfl⟩ hd) fun _ _ => by rw [Rep]

/-! ### operators -/
def x1 (g : PV → Mem → Option (PV × Mem)) (a : Ex) : Ex := fun env m => (a env m).bind fun r => g r.1 r.2
def x2 (g : PV → PV → Mem → Option (PV × Mem)) (a b : Ex) : Ex := fun env m => (a env m).bind fun r => (b env r.2).bind fun s => g r.1 s.1 s.2
theorem t1_of {g : PV → Mem → Option (PV × Mem)} {a : Ex} {σ H Q} (h : TX X.K cl (x1 g a) σ H Q) : TX X.K cl a σ H fun x H1 => G1 X.K cl g x H1 Q := by
  obtain ⟨ρ, env, mem, r, hm, he, h, q⟩ := h
  unfold x1 at h
  obtain ⟨r1, h1, h2⟩ := Option.bind_eq_some_iff.mp h
  exact ⟨ρ, env, mem, r1, hm, he, h1, fun ρ1 v1 H1 e1 m1 p1 => ⟨ρ1, r1.1, r1.2, r, m1, p1, h2, q.ext e1⟩⟩
theorem t2_of {g : PV → PV → Mem → Option (PV × Mem)} {a b : Ex} {σ H Q} (h : TX X.K cl (x2 g a b) σ H Q) : TX X.K cl a σ H fun x H1 => TX X.K cl b σ H1 fun y H2 => G2 X.K cl g x y H2 Q := by
  obtain ⟨ρ, env, mem, r, hm, he, h, q⟩ := h
  unfold x2 at h
  obtain ⟨r1, h1, h⟩ := Option.bind_eq_some_iff.mp h
  obtain ⟨r2, h2, h3⟩ := Option.bind_eq_some_iff.mp h
  exact ⟨ρ, env, mem, r1, hm, he, h1, fun ρ1 v1 H1 e1 m1 p1 => ⟨ρ1, env, r1.2, r2, m1, he.ext e1, h2, fun ρ2 v2 H2 e2 m2 p2 => ⟨ρ2, r1.1, r2.1, r2.2, r, m2, e2.rep _ _ p1, p2, h3, q.ext (e1.trans e2)⟩⟩⟩
variable {a b c e o : Expr} {es : List Expr} {pos p apos : Pos} {ma mb mc me : Ex} {x : Str}
theorem rx_bin {op : Operator} {g : PV → PV → Mem → Option (PV × Mem)} (ho : OpR X (binaryOp op) (G2 X.K cl g)) (ha : RX cl X a ma) (hb : RX cl X b mb) : RX cl X (.BinOp a op b pos) (x2 g ma mb) := PE.imp (pe_op ho ha hb) fun _ _ _ h => t2_of h
theorem rx_un {op : UnaryOp} {g : PV → Mem → Option (PV × Mem)} (ho : UnR X (unaryOp op) (G1 X.K cl g)) (ha : RX cl X a ma) : RX cl X (.UnaryOp op a pos) (x1 g ma) := PE.imp (pe_un ho ha) fun _ _ _ h => t1_of h
theorem rx_cmp {op : CmpOp} {g : PV → PV → Mem → Option (PV × Mem)} (ho : OpR X (compareOp op) (G2 X.K cl g)) (ha : RX cl X a ma) (hb : RX cl X b mb) (hm : behindInMarks op b = false) : RX cl X (.Compare a [op] [b] pos) (x2 g ma mb) := PE.imp (pe_cmpR ho ha hb hm) fun _ _ _ h => t2_of h

/-! ### tests -/
/-- a value that is a bool, as a test -/
def tBl (a : Ex) : Tx := fun env m => (a env m).bind fun r => match r.1 with
  | .bl b => some (b, r.2)
  | _ => none
theorem tBl_of {ma : Ex} {σ H Q} (h : TTX X.K cl (tBl ma) σ H Q) : TX X.K cl ma σ H fun x H1 => ∃ k, x = .bl k ∧ Q k H1 := by
  obtain ⟨ρ, env, mem, r, hm, he, h, q⟩ := h
  unfold tBl at h
  obtain ⟨r1, h1, h2⟩ := Option.bind_eq_some_iff.mp h
  refine ⟨ρ, env, mem, r1, hm, he, h1, fun ρ1 v1 H1 e1 m1 p1 => ?_⟩
  split at h2
  · rename_i k hk
    cases h2
    rw [hk, rep_bl] at p1
    exact ⟨k, p1, q ρ1 H1 e1 m1⟩
  · cases h2
theorem rt_cmp {op : CmpOp} {g : PV → PV → Mem → Option (PV × Mem)} (ho : OpR X (compareOp op) (G2 X.K cl g)) (ha : RX cl X a ma) (hb : RX cl X b mb) (hm : behindInMarks op b = false) : RT cl X (.Compare a [op] [b] pos) (tBl (x2 g ma mb)) :=
  PT.imp (pt_cmpR ho ha hb hm) fun _ _ _ h => t2_of (tBl_of h)
def truG : PV → Mem → Option Bool
  | .non, _ => some false
  | .bl b, _ => some b
  | .int i, _ => some (decide (i ≠ 0))
  | .str s, _ => if s.length ≤ sizeLine then some (decide (s.length ≠ 0)) else none
  | .tup ps, _ => some (!ps.isEmpty)
  | .ref i, m => match m[i]? with
    | some (.lst ps) => some (!ps.isEmpty)
    | some (.rol ps) => some (!ps.isEmpty)
    | some (.dic ps) => some (!ps.isEmpty)
    | _ => none
def tTru (a : Ex) : Tx := fun env m => (a env m).bind fun r => (truG r.1 r.2).map fun k => (k, r.2)
theorem RepL.empty {K ρ H ps xs} (h : RepL K ρ H ps xs) : xs.isEmpty = ps.isEmpty := by
  cases ps with
  | nil => rw [h.inv0]; rfl
  | cons p ps => obtain ⟨x, r, rfl, _⟩ := h.inv; rfl
theorem truG_ok {ρ : List Addr} {H : Hp} {mem : Mem} {p : PV} {v : V} {k : Bool} (hm : RelM X.K cl ρ H mem) (hp : Rep X.K ρ H p v) (h : truG p mem = some k) : TruV X.K v H k := by
  cases p with
  | non => rw [rep_non] at hp; subst hp; cases h; rfl
  | bl b => rw [rep_bl] at hp; subst hp; cases h; rfl
  | int i =>
    rw [rep_int] at hp; subst hp; cases h
    show decide (i ≠ 0) = (i != 0)
    rw [bne, Bool.beq_eq_decide_eq]
    simp
  | str s =>
    rw [rep_str] at hp; subst hp
    simp only [truG] at h
    split at h
    · rename_i hl
      cases h
      refine ⟨hl, ?_⟩
      rw [bne, Bool.beq_eq_decide_eq]
      by_cases z : s.length = 0
      · simp [z]
      · have : ¬ ((s.length : Int) = 0) := by omega
        simp [z, this]
    · cases h
  | tup ps =>
    rw [rep_tup] at hp
    obtain ⟨a, xs, rfl, h1, h2⟩ := hp
    replace h1 := h1.t
    cases h
    exact .inr (.inl ⟨xs, h1, by rw [h2.empty]⟩)
  | ref i =>
    rw [rep_ref] at hp
    obtain ⟨a, h1, rfl⟩ := hp
    simp only [truG] at h
    split at h
    · rename_i ps e
      cases h
      obtain ⟨xs, q1, q2⟩ := hm.ok i a _ h1 e
      exact .inl ⟨xs, .inl (.inl q1), by rw [q2.empty]⟩
    · rename_i ps e
      cases h
      obtain ⟨xs, q1, q2⟩ := hm.ok i a _ h1 e
      refine .inl ⟨xs, ?_, by rw [q2.empty]⟩
      rcases q1 with ⟨ob, q1⟩ | q1
      · exact .inl (.inr ⟨ob, q1⟩)
      · exact q1 H
    · rename_i ps e
      cases h
      obtain ⟨xs, q1, q2⟩ := hm.ok i a _ h1 e
      refine .inr (.inr ⟨xs, q1, ?_⟩)
      cases q2 <;> rfl
    · cases h
theorem rt_tru (ha : RX cl X a ma) (he : ∀ whole, isTrue a X.env whole = (do let v ← whole; standAt a.pos; holding [v] (truthy v)) := by intro _; rfl) : RT cl X a (tTru ma) :=
  PT.imp (pt_truth ha he) fun σ H Q ⟨ρ, env, mem, r, hm, hE, h, q⟩ => by
    unfold tTru at h
    obtain ⟨r1, h1, h2⟩ := Option.bind_eq_some_iff.mp h
    obtain ⟨k, h4, h3⟩ := Option.map_eq_some_iff.mp h2
    subst h3
    exact ⟨ρ, env, mem, r1, hm, hE, h1, fun ρ1 v1 H1 e1 m1 p1 => ⟨k, truG_ok m1 p1 h4, q ρ1 H1 e1 m1⟩⟩
def tNt (a : Tx) : Tx := fun env m => (a env m).map fun r => (!r.1, r.2)
def tAn (a b : Tx) : Tx := fun env m => (a env m).bind fun r => if r.1 = true then b env r.2 else some (false, r.2)
def tOr' (a b : Tx) : Tx := fun env m => (a env m).bind fun r => if r.1 = true then some (true, r.2) else b env r.2
variable {ta tb : Tx} {rest : List Expr}
theorem rt_not (ha : RT cl X a ta) : RT cl X (.UnaryOp .Not a pos) (tNt ta) :=
  PT.imp (pt_not ha) fun σ H Q ⟨ρ, env, mem, r, hm, hE, h, q⟩ => by
    unfold tNt at h
    obtain ⟨r1, h1, h2⟩ := Option.map_eq_some_iff.mp h
    subst h2
    exact ⟨ρ, env, mem, r1, hm, hE, h1, fun ρ1 H1 e1 m1 => q ρ1 H1 e1 m1⟩
theorem rw_and1 (ha : RT cl X a ta) : RW cl X (.BoolOp .And [a] pos) ta := pw_and1 ha
theorem rw_or1 (ha : RT cl X a ta) : RW cl X (.BoolOp .Or [a] pos) ta := pw_or1 ha
theorem rw_and (ha : RT cl X a ta) (hb : RW cl X (.BoolOp .And (b :: rest) pos) tb) : RW cl X (.BoolOp .And (a :: b :: rest) pos) (tAn ta tb) :=
  PW.imp (pw_and ha hb) fun σ H Q ⟨ρ, env, mem, r, hm, hE, h, q⟩ => by
    unfold tAn at h
    obtain ⟨r1, h1, h2⟩ := Option.bind_eq_some_iff.mp h
    refine ⟨ρ, env, mem, r1, hm, hE, h1, fun ρ1 H1 e1 m1 => ?_⟩
    split at h2
    · rename_i k
      rw [if_pos k]
      exact ⟨ρ1, env, r1.2, r, m1, hE.ext e1, h2, q.ext e1⟩
    · rename_i k
      rw [if_neg k]
      cases h2
      exact q ρ1 H1 e1 m1
theorem rw_or (ha : RT cl X a ta) (hb : RW cl X (.BoolOp .Or (b :: rest) pos) tb) : RW cl X (.BoolOp .Or (a :: b :: rest) pos) (tOr' ta tb) :=
  PW.imp (pw_or ha hb) fun σ H Q ⟨ρ, env, mem, r, hm, hE, h, q⟩ => by
    unfold tOr' at h
    obtain ⟨r1, h1, h2⟩ := Option.bind_eq_some_iff.mp h
    refine ⟨ρ, env, mem, r1, hm, hE, h1, fun ρ1 H1 e1 m1 => ?_⟩
    split at h2
    · rename_i k
      rw [if_pos k]
      cases h2
      exact q ρ1 H1 e1 m1
    · rename_i k
      rw [if_neg k]
      exact ⟨ρ1, env, r1.2, r, m1, hE.ext e1, h2, q.ext e1⟩
theorem rt_w (h : RW cl X a ta) : RT cl X a ta := h.pt

/-! ### and, or, not as values; a if t else b -/
def xNt (a : Ex) : Ex := fun env m => (a env m).bind fun r => match r.1 with
  | .bl b => some (.bl (!b), r.2)
  | _ => none
def xAn (a b : Ex) : Ex := fun env m => (a env m).bind fun r => match r.1 with
  | .bl k => if k = true then b env r.2 else some (.bl false, r.2)
  | _ => none
def xOr (a b : Ex) : Ex := fun env m => (a env m).bind fun r => match r.1 with
  | .bl k => if k = true then some (.bl true, r.2) else b env r.2
  | _ => none
def xIf (t : Tx) (a b : Ex) : Ex := fun env m => (t env m).bind fun r => if r.1 = true then a env r.2 else b env r.2
theorem rx_not (ha : RX cl X a ma) : RX cl X (.UnaryOp .Not a pos) (xNt ma) :=
  PE.imp (pe_not ha) fun σ H Q ⟨ρ, env, mem, r, hm, hE, h, q⟩ => by
    unfold xNt at h
    obtain ⟨r1, h1, h2⟩ := Option.bind_eq_some_iff.mp h
    refine ⟨ρ, env, mem, r1, hm, hE, h1, fun ρ1 v1 H1 e1 m1 p1 => ?_⟩
    split at h2
    · rename_i k hk
      cases h2
      rw [hk, rep_bl] at p1
      exact ⟨k, p1, q ρ1 _ H1 e1 m1 (by rw [Rep])⟩
    · cases h2
theorem rx_one {op} (h : RX cl X a ma) : RX cl X (.BoolOp op [a] pos) ma := pe_one h
theorem rx_and (ha : RX cl X a ma) (hb : RX cl X (.BoolOp .And (b :: rest) pos) mb) : RX cl X (.BoolOp .And (a :: b :: rest) pos) (xAn ma mb) :=
  PE.imp (pe_and ha hb) fun σ H Q ⟨ρ, env, mem, r, hm, hE, h, q⟩ => by
    unfold xAn at h
    obtain ⟨r1, h1, h2⟩ := Option.bind_eq_some_iff.mp h
    refine ⟨ρ, env, mem, r1, hm, hE, h1, fun ρ1 v1 H1 e1 m1 p1 => ?_⟩
    split at h2
    · rename_i k hk
      rw [hk, rep_bl] at p1
      refine ⟨k, p1, ?_⟩
      split at h2
      · rename_i z
        rw [if_pos z]
        exact ⟨ρ1, env, r1.2, r, m1, hE.ext e1, h2, q.ext e1⟩
      · rename_i z
        rw [if_neg z]
        cases h2
        exact q ρ1 _ H1 e1 m1 (by rw [Rep])
    · cases h2
theorem rx_or (ha : RX cl X a ma) (hb : RX cl X (.BoolOp .Or (b :: rest) pos) mb) : RX cl X (.BoolOp .Or (a :: b :: rest) pos) (xOr ma mb) :=
  PE.imp (pe_or ha hb) fun σ H Q ⟨ρ, env, mem, r, hm, hE, h, q⟩ => by
    unfold xOr at h
    obtain ⟨r1, h1, h2⟩ := Option.bind_eq_some_iff.mp h
    refine ⟨ρ, env, mem, r1, hm, hE, h1, fun ρ1 v1 H1 e1 m1 p1 => ?_⟩
    split at h2
    · rename_i k hk
      rw [hk, rep_bl] at p1
      refine ⟨k, p1, ?_⟩
      split at h2
      · rename_i z
        rw [if_pos z]
        cases h2
        exact q ρ1 _ H1 e1 m1 (by rw [Rep])
      · rename_i z
        rw [if_neg z]
        exact ⟨ρ1, env, r1.2, r, m1, hE.ext e1, h2, q.ext e1⟩
    · cases h2
theorem rx_ife (hc : RT cl X c ta) (ha : RX cl X a ma) (hb : RX cl X b mb) : RX cl X (.IfExp c a b pos) (xIf ta ma mb) :=
  PE.imp (pe_ifExp hc ha hb) fun σ H Q ⟨ρ, env, mem, r, hm, hE, h, q⟩ => by
    unfold xIf at h
    obtain ⟨r1, h1, h2⟩ := Option.bind_eq_some_iff.mp h
    refine ⟨ρ, env, mem, r1, hm, hE, h1, fun ρ1 H1 e1 m1 => ?_⟩
    split at h2
    · rename_i z
      rw [if_pos z]
      exact ⟨ρ1, env, r1.2, r, m1, hE.ext e1, h2, q.ext e1⟩
    · rename_i z
      rw [if_neg z]
      exact ⟨ρ1, env, r1.2, r, m1, hE.ext e1, h2, q.ext e1⟩

/-! ### arguments, displays, calls -/
def aNil : Ax := fun _ m => some ([], m)
def aCons (a : Ex) (r : Ax) : Ax := fun env m => (a env m).bind fun x => (r env x.2).bind fun xs => some (x.1 :: xs.1, xs.2)
theorem ra_nil : RA cl X [] aNil := PA.imp pa_nil fun σ H Q ⟨ρ, env, mem, r, hm, hE, h, q⟩ => by
  cases h
  exact q ρ [] H .refl hm .nil
theorem ra_cons {ma : Ex} {mr : Ax} (ha : RX cl X e ma) (hr : RA cl X es mr) (hs : starEach (e :: es) X.env = (false, eval e X.env) :: starEach es X.env := by rfl) : RA cl X (e :: es) (aCons ma mr) :=
  PA.imp (pa_cons ha hr hs) fun σ H Q ⟨ρ, env, mem, r, hm, hE, h, q⟩ => by
    unfold aCons at h
    obtain ⟨r1, h1, h⟩ := Option.bind_eq_some_iff.mp h
    obtain ⟨r2, h2, h3⟩ := Option.bind_eq_some_iff.mp h
    cases h3
    exact ⟨ρ, env, mem, r1, hm, hE, h1, fun ρ1 v1 H1 e1 m1 p1 => ⟨ρ1, env, r1.2, r2, m1, hE.ext e1, h2, fun ρ2 vs H2 e2 m2 p2 => q ρ2 _ H2 (e1.trans e2) m2 (.cons (e2.rep _ _ p1) p2)⟩⟩
variable {mA : Ax}
def xA (g : List PV → Mem → Option (PV × Mem)) (a : Ax) : Ex := fun env m => (a env m).bind fun r => g r.1 r.2
theorem tA_of {g : List PV → Mem → Option (PV × Mem)} {a : Ax} {σ H Q} (h : TX X.K cl (xA g a) σ H Q) : TAX X.K cl a σ H fun x H1 => GL X.K cl g x H1 Q := by
  obtain ⟨ρ, env, mem, r, hm, he, h, q⟩ := h
  unfold xA at h
  obtain ⟨r1, h1, h2⟩ := Option.bind_eq_some_iff.mp h
  exact ⟨ρ, env, mem, r1, hm, he, h1, fun ρ1 v1 H1 e1 m1 p1 => ⟨ρ1, r1.1, r1.2, r, m1, p1, h2, q.ext e1⟩⟩
def tupG : List PV → Mem → Option (PV × Mem) := fun ps m => if ps.length ≤ sizeLine then some (.tup ps, m) else none
def lstG : List PV → Mem → Option (PV × Mem) := fun ps m => if ps.length ≤ sizeLine then some (.ref m.length, m ++ [.lst ps]) else none
/-- a tuple object has been made -/
theorem new_tup {ρ H mem xs ps p} {ob : Obj} (hd : ob.dict = none) (hm : RelM X.K cl ρ H mem) (h : RepL X.K ρ H ps xs) (hp : H p = none) : Ext X.K ρ H ρ (upd H p (.frz ob (.tup xs))) ∧ RelM X.K cl ρ (upd H p (.frz ob (.tup xs))) mem ∧ Rep X.K ρ (upd H p (.frz ob (.tup xs))) (.tup ps) (.ref p) := by
  have e : Ext X.K ρ H ρ (upd H p (.frz ob (.tup xs))) := by
    have := ext_new (K := X.K) (ρ := ρ) (o := .frz ob (.tup xs)) hp []
    rwa [List.append_nil] at this
  refine ⟨e, ⟨hm.len, hm.inj, fun i a o h1 h2 => (hm.ok i a o h1 h2).ext e fun u q => by rw [upd_ne (ne_of_none q hp)]; exact q⟩, ?_⟩
  rw [rep_tup]
  exact ⟨p, xs, rfl, .inl ⟨ob, upd_same, hd⟩, e.repL _ _ h⟩
theorem laid_tup {pins : List (Addr × Obj)} {σ : L2.St} {H : Hp} {s : Shared} {xs : List V} {us : List Value} {Q : VK} (I : Inv X pins σ H s) (hz : xs.length ≤ sizeLine) (r : Vals xs us)
    (q : ∀ (p : Addr) (ob : Obj), ob.dict = none → H p = none → Q (.ref p) (upd H p (.frz ob (.tup xs)))) : EP X pins σ Q (.ref s.heap.objs.size) { s with heap := s.heap.push { cls := .type "tuple", data := .seq us.toArray } } :=
  ⟨.ref s.heap.objs.size, upd H s.heap.objs.size (.frz { cls := .type "tuple", data := .seq us.toArray } (.tup xs)), I.laid (t' := s.toks) (fun b u e => Heap.get?_push_of_some _ e) (Nat.le_refl _)
    (show ObjOk X.prog X.w _ _ _ (.frz _ (.tup xs)) from ⟨Heap.get?_push_size _ rfl, hz, us, r, ⟨_, Heap.get?_push_size _ rfl, rfl, _, rfl⟩⟩), rfl, q _ _ rfl (I.hok.fresh (Nat.le_refl _))⟩
/-- a tuple of written items: its object has no dict -/
def tTupP (t : TA) : TE := fun σ H Q => t σ H fun xs H1 => xs.length ≤ sizeLine ∧ ∀ (p : Addr) (ob : Obj), ob.dict = none → H1 p = none → Q (.ref p) (upd H1 p (.frz ob (.tup xs)))
theorem pe_tupP {x1 : Nat} {t : TA} (h : PA X es t) : PE X (.Tuple es x1 pos) (tTupP t) := by
  refine ⟨fun pins s σ H Q I hq => ?_⟩
  refine PySem.wpAny_Tuple_spliced (thn (h.run pos pins s σ H _ I hq) fun us s1 ⟨xs, H1, I1, r, z, q⟩ => ⟨by rw [← r.length]; exact z, ?_⟩)
  exact laid_tup I1 z r q
/-- a list object has been made -/
theorem new_lst {ρ H mem xs ps p} (hm : RelM X.K cl ρ H mem) (h : RepL X.K ρ H ps xs) (hp : H p = none) : Ext X.K ρ H (ρ ++ [p]) (upd H p (.lst xs)) ∧ RelM X.K cl (ρ ++ [p]) (upd H p (.lst xs)) (mem ++ [.lst ps]) ∧ Rep X.K (ρ ++ [p]) (upd H p (.lst xs)) (.ref mem.length) (.ref p) := by
  have e : Ext X.K ρ H (ρ ++ [p]) (upd H p (.lst xs)) := ext_new hp _
  refine ⟨e, hm.alloc hp ⟨xs, upd_same, e.repL _ _ h⟩, ?_⟩
  rw [rep_ref]
  exact ⟨p, by rw [← hm.len]; simp, rfl⟩
theorem rx_tup {k : Nat} (h : RA cl X es mA) : RX cl X (.Tuple es k pos) (xA tupG mA) := PE.imp (pe_tupP h) fun σ H Q hw => by
  obtain ⟨ρ, env, mem, r, hm, hE, h1, q⟩ := tA_of hw
  refine ⟨ρ, env, mem, r, hm, hE, h1, fun ρ1 vs H1 e1 m1 p1 => ?_⟩
  obtain ⟨ρ2, ps, mem2, r2, n1, n2, n3, n4⟩ := q ρ1 vs H1 e1 m1 p1
  unfold tupG at n3
  split at n3
  · rename_i hz
    cases n3
    refine ⟨by rw [n2.length]; exact hz, fun p ob hob hp => ?_⟩
    obtain ⟨z1, z2, z3⟩ := new_tup hob n1 n2 hp
    exact n4 _ _ _ z1 z2 z3
  · cases n3
theorem rx_lst (h : RA cl X es mA) : RX cl X (.List es pos) (xA lstG mA) := PE.imp (pe_lst h) fun σ H Q hw => by
  obtain ⟨ρ, env, mem, r, hm, hE, h1, q⟩ := tA_of hw
  refine ⟨ρ, env, mem, r, hm, hE, h1, fun ρ1 vs H1 e1 m1 p1 => ?_⟩
  obtain ⟨ρ2, ps, mem2, r2, n1, n2, n3, n4⟩ := q ρ1 vs H1 e1 m1 p1
  unfold lstG at n3
  split at n3
  · rename_i hz
    cases n3
    refine ⟨by rw [n2.length]; exact hz, fun p hp => ?_⟩
    obtain ⟨z1, z2, z3⟩ := new_lst n1 n2 hp
    exact n4 _ _ _ z1 z2 z3
  · cases n3
/-- a call of a def by its name -/
def xCall (n : Nat) (F : Fn) (a : Ax) : Ex := fun env m => (a env m).bind fun r => if r.1.length = n then F r.1 r.2 else none
theorem tCall_of {n : Nat} {F : Fn} {σ H Q} (h : TX X.K cl (xCall n F mA) σ H Q) : TAX X.K cl mA σ H fun vs H1 => SpF X.K cl n F (vs ++ []) H1 Q E0 := by
  obtain ⟨ρ, env, mem, r, hm, hE, h, q⟩ := h
  unfold xCall at h
  obtain ⟨r1, h1, h2⟩ := Option.bind_eq_some_iff.mp h
  refine ⟨ρ, env, mem, r1, hm, hE, h1, fun ρ1 v1 H1 e1 m1 p1 => ?_⟩
  split at h2
  · rename_i hl
    refine ⟨ρ1, r1.1, r1.2, r, hl, m1, by rw [List.append_nil]; exact p1, h2, q.ext e1⟩
  · cases h2
section
variable {k j n : Nat} {F : Fn} {C : Nat} {m : Str}
theorem rx_call (c : C8.Cal X.prog X.w X.K X.mg X.base k x (SpF X.K cl n F) []) (hr : Room j X.A) (hk : k ≤ j) (hg : Gl X x) (ha : RA cl X (e :: es) mA)
    (hdb : (x == ("__debug__" : Str)) = false := by decide) (he : starEach (e :: es) X.env = (false, eval e X.env) :: starEach es X.env := by rfl) (hpl : (backTo pos (starEach es X.env)).any (·.1) = false := by rfl) : RX cl X (.Call (.Name x p) (e :: es) [] pos) (xCall n F mA) :=
  PE.imp (C8.pe_c c hr hk hg ha hdb he hpl) fun _ _ _ h => tCall_of h
theorem rx_call0 (c : C8.Cal X.prog X.w X.K X.mg X.base k x (SpF X.K cl n F) []) (hr : Room j X.A) (hk : k ≤ j) (hg : Gl X x) (hdb : (x == ("__debug__" : Str)) = false := by decide) : RX cl X (.Call (.Name x p) [] [] pos) (xCall n F aNil) := by
  obtain ⟨f, fd, ps, ds, F', hm, kp, b, d⟩ := c.ex
  refine PE.imp (pe_call0 F' (hr.mono hk) hg hm kp b d pass0 hdb) fun σ H Q h => ?_
  obtain ⟨ρ, env, mem, r, hm, hE, h, q⟩ := h
  unfold xCall aNil at h
  rw [Option.bind_some] at h
  split at h
  · rename_i hl
    exact ⟨ρ, [], mem, r, hl, hm, RepL.nil, h, q⟩
  · cases h
/-- o.m(..), o an instance of the class C -/
def insG (C : Nat) (m : Str) (p : PV) (mem : Mem) : Bool := match p with
  | .ref i => match mem[i]? with
    | some (.ins c fs) => decide (c = C) && (fs.lookup m).isNone
    | _ => false
  | _ => false
def xMeth (C : Nat) (m : Str) (n : Nat) (F : Fn) (o : Ex) (a : Ax) : Ex := fun env mem => (o env mem).bind fun r => if insG C m r.1 r.2 = true then (a env r.2).bind fun s => if s.1.length = n then F (r.1 :: s.1) s.2 else none else none
theorem repF_lookup {K ρ H} : ∀ {fs : List (Str × PV)} {gs : List (Str × V)} (f : Str), RepF K ρ H fs gs → match fs.lookup f with
    | some p => ∃ v, gs.lookup f = some v ∧ Rep K ρ H p v
    | none => gs.lookup f = none
  | _, _, f, .nil => rfl
  | (a, p) :: fs, (b, v) :: gs, f, .cons h t => by
    obtain ⟨h1, h2⟩ := h
    have h1 : a = b := h1
    subst h1
    rw [List.lookup_cons, List.lookup_cons]
    cases z : f == a with
    | true => exact ⟨v, rfl, h2⟩
    | false => exact repF_lookup f t
theorem insG_ok {ρ H mem C m p v} (hm : RelM X.K cl ρ H mem) (hp : Rep X.K ρ H p v) (h : insG C m p mem = true) : ∃ a dx gs, v = .ref a ∧ H a = some (.ins (cl C) dx gs) ∧ gs.lookup m = none := by
  unfold insG at h
  split at h
  · rename_i i
    rw [rep_ref] at hp
    obtain ⟨a, h1, rfl⟩ := hp
    split at h
    · rename_i c fs e
      rw [Bool.and_eq_true] at h
      have hc : c = C := of_decide_eq_true h.1
      subst hc
      obtain ⟨dx, gs, q1, q2⟩ := hm.ok i a _ h1 e
      refine ⟨a, dx, gs, rfl, q1, ?_⟩
      have := repF_lookup m q2
      cases z : fs.lookup m with
      | none => rw [z] at this; exact this
      | some _ => rw [z] at h; simp at h
    · cases h
  · cases h
theorem rx_meth {pl : Sem Bool} (c : C8.Met X.prog X.w X.K X.mg X.base k (cl C) m (SpF X.K cl (n + 1) F) []) (hr : Room j X.A) (hk : k ≤ j) (ho : RX cl X o ma) (ha : RA cl X (e :: es) mA)
    (hst : starEach (e :: es) X.env = (false, eval e X.env) :: starEach es X.env := by rfl) (hpl : (backTo pos (starEach es X.env)).any (·.1) = false := by rfl)
    (ht : eval (.Call (.Attribute o m apos) (e :: es) [] pos) X.env = (do
      let ov ← eval o X.env
      standAt apos.atName
      let (f, first) ← holding [ov] (getMethod ov m pl)
      callWith pos f first (backTo pos (starEach (e :: es) X.env)) (backToKw pos (keywordEach [] X.env))) := by rfl) : RX cl X (.Call (.Attribute o m apos) (e :: es) [] pos) (xMeth C m n F ma mA) :=
  PE.imp (C8.pe_mt (pl := pl) c hr hk ho ha hst hpl ht) fun σ H Q ⟨ρ, env, mem, r, hm, hE, h, q⟩ => by
    unfold xMeth at h
    obtain ⟨r1, h1, h⟩ := Option.bind_eq_some_iff.mp h
    split at h
    · rename_i hi
      obtain ⟨r2, h2, h3⟩ := Option.bind_eq_some_iff.mp h
      split at h3
      · rename_i hl
        refine ⟨ρ, env, mem, r1, hm, hE, h1, fun ρ1 v1 H1 e1 m1 p1 => ?_⟩
        obtain ⟨a, dx, gs, rfl, i1, i2⟩ := insG_ok m1 p1 hi
        exact ⟨a, dx, gs, rfl, i1, i2, ρ1, env, r1.2, r2, m1, hE.ext e1, h2, fun ρ2 vs H2 e2 m2 p2 => ⟨ρ2, r1.1 :: r2.1, r2.2, r, by rw [List.length_cons, hl], m2, by rw [List.append_nil]; exact .cons (e2.rep _ _ p1) p2, h3, q.ext (e1.trans e2)⟩⟩
      · cases h3
    · cases h
theorem rx_meth0 {pl : Sem Bool} (c : C8.Met X.prog X.w X.K X.mg X.base k (cl C) m (SpF X.K cl 1 F) []) (hr : Room j X.A) (hk : k ≤ j) (ho : RX cl X o ma)
    (ht : eval (.Call (.Attribute o m apos) [] [] pos) X.env = (do
      let ov ← eval o X.env
      standAt apos.atName
      let (f, first) ← holding [ov] (getMethod ov m pl)
      callWith pos f first (backTo pos (starEach [] X.env)) (backToKw pos (keywordEach [] X.env))) := by rfl) : RX cl X (.Call (.Attribute o m apos) [] [] pos) (xMeth C m 0 F ma aNil) :=
  PE.imp (C8.pe_mt0 (pl := pl) c hr hk ho ht) fun σ H Q ⟨ρ, env, mem, r, hm, hE, h, q⟩ => by
    unfold xMeth at h
    obtain ⟨r1, h1, h⟩ := Option.bind_eq_some_iff.mp h
    split at h
    · rename_i hi
      obtain ⟨r2, h2, h3⟩ := Option.bind_eq_some_iff.mp h
      cases h2
      split at h3
      · rename_i hl
        refine ⟨ρ, env, mem, r1, hm, hE, h1, fun ρ1 v1 H1 e1 m1 p1 => ?_⟩
        obtain ⟨a, dx, gs, rfl, i1, i2⟩ := insG_ok m1 p1 hi
        exact ⟨a, dx, gs, rfl, i1, i2, ρ1, [r1.1], r1.2, r, rfl, m1, .cons p1 .nil, h3, q.ext e1⟩
      · cases h3
    · cases h
/-- C(..): a new instance, then __init__ -/
def xMake (C n : Nat) (F : Fn) (a : Ax) : Ex := fun env m => (a env m).bind fun r => if r.1.length = n then (F (.ref r.2.length :: r.1) (r.2 ++ [.ins C []])).bind fun s => match s.1 with
  | .non => some (.ref r.2.length, s.2)
  | _ => none else none
theorem rx_make (c : C8.Mak X.prog X.w X.K X.mg X.base k x (cl C) (SpF X.K cl (n + 1) F) []) (hr : Room j X.A) (hk : k + 1 ≤ j) (hg : Gl X x) (ha : RA cl X (e :: es) mA)
    (hdb : (x == ("__debug__" : Str)) = false := by decide) (he : starEach (e :: es) X.env = (false, eval e X.env) :: starEach es X.env := by rfl) (hpl : (backTo pos (starEach es X.env)).any (·.1) = false := by rfl) :
    RX cl X (.Call (.Name x p) (e :: es) [] pos) (xMake C n F mA) :=
  PE.imp (C8.pe_mk c hr hk hg ha hdb he hpl) fun σ H Q ⟨ρ, env, mem, r, hm, hE, h, q⟩ => by
    unfold xMake at h
    obtain ⟨r1, h1, h⟩ := Option.bind_eq_some_iff.mp h
    split at h
    · rename_i hl
      obtain ⟨r2, h2, h3⟩ := Option.bind_eq_some_iff.mp h
      refine ⟨ρ, env, mem, r1, hm, hE, h1, fun ρ1 v1 H1 e1 m1 p1 y dx hy hdx hne => ?_⟩
      have ed : Ext X.K ρ1 H1 ρ1 (upd H1 dx (.own y)) := by
        have := ext_new (K := X.K) (ρ := ρ1) (o := .own y) hdx []
        rwa [List.append_nil] at this
      have md : RelM X.K cl ρ1 (upd H1 dx (.own y)) r1.2 := ⟨m1.len, m1.inj, fun i a o h1 h2 => (m1.ok i a o h1 h2).ext ed fun u q => by rw [upd_ne (ne_of_none q hdx)]; exact q⟩
      have hy' : upd H1 dx (.own y) y = none := by rw [upd_ne (Ne.symm hne)]; exact hy
      have e2 : Ext X.K ρ1 (upd H1 dx (.own y)) (ρ1 ++ [y]) (upd (upd H1 dx (.own y)) y (.ins (cl C) dx [])) := ext_new hy' _
      have m2 := md.alloc (u := .ins (cl C) dx []) (o := .ins C []) hy' ⟨dx, [], upd_same, .nil⟩
      have ry : Rep X.K (ρ1 ++ [y]) (upd (upd H1 dx (.own y)) y (.ins (cl C) dx [])) (.ref r1.2.length) (.ref y) := by
        rw [rep_ref]
        exact ⟨y, by rw [← m1.len]; simp, rfl⟩
      refine ⟨ρ1 ++ [y], .ref r1.2.length :: r1.1, r1.2 ++ [.ins C []], r2, by rw [List.length_cons, hl], m2, by rw [List.append_nil]; exact .cons ry ((ed.trans e2).repL _ _ p1), h2, fun ρ3 v3 H3 e3 m3 p3 => ?_⟩
      split at h3
      · rename_i hn
        cases h3
        rw [hn, rep_non] at p3
        exact ⟨p3, q ρ3 _ H3 (e1.trans (ed.trans (e2.trans e3))) m3 (e3.rep _ _ ry)⟩
      · cases h3
    · cases h
/-- a built-in, by its rule -/
theorem rx_callB {id : String} {g : List PV → Mem → Option (PV × Mem)} (hc : CallR X (.builtin id) (GL X.K cl g)) (hg : Gl X x) (hm : X.mg x = none) (hv : bootBuiltins x = some (.builtin id)) (ha : RA cl X (e :: es) mA) (hn : x ≠ "__name__" := by decide) (hdb : (x == ("__debug__" : Str)) = false := by decide)
    (he : starEach (e :: es) X.env = (false, eval e X.env) :: starEach es X.env := by rfl) (hpl : (backTo pos (starEach es X.env)).any (·.1) = false := by rfl) : RX cl X (.Call (.Name x p) (e :: es) [] pos) (xA g mA) :=
  PE.imp (pe_callB hc hg hm hv ha hn hdb he hpl) fun _ _ _ h => tA_of h
theorem rx_callTy {id : String} {g : List PV → Mem → Option (PV × Mem)} (hc : CallR X (.type id) (GL X.K cl g)) (hg : Gl X x) (hm : X.mg x = none) (hv : bootBuiltins x = some (.type id)) (ha : RA cl X (e :: es) mA) (hn : x ≠ "__name__" := by decide) (hdb : (x == ("__debug__" : Str)) = false := by decide)
    (he : starEach (e :: es) X.env = (false, eval e X.env) :: starEach es X.env := by rfl) (hpl : (backTo pos (starEach es X.env)).any (·.1) = false := by rfl) : RX cl X (.Call (.Name x p) (e :: es) [] pos) (xA g mA) :=
  PE.imp (pe_callTy hc hg hm hv ha hn hdb he hpl) fun _ _ _ h => tA_of h
end
end
end Rf
end

section
set_option Elab.async false
set_option linter.all false
set_option maxRecDepth 100000
set_option autoImplicit false
namespace Rf
open PySem PySem.Spec L2

/-! ### subscripts -/
theorem ixN_lt {n : Nat} {i : Int} {j : Nat} (h : ixN n i = some j) : j < n := (ixN_seq h).2.1
theorem RepL.atI {K ρ H} {ps : List PV} {xs : List V} {i : Int} {p : PV} (h : RepL K ρ H ps xs) (e : L2.atI ps i = some p) : ∃ x, L2.atI xs i = some x ∧ Rep K ρ H p x := by
  unfold L2.atI at e ⊢
  rw [h.length]
  cases z : ixN ps.length i with
  | none => rw [z] at e; cases e
  | some j =>
    rw [z] at e
    exact h.get e
def keyOf : PV → Option Key
  | .int i => some (.inl i)
  | .str s => some (.inr s)
  | _ => none
def valP {κ : Type} [DecidableEq κ] (kvs : List (κ × PV)) (k : κ) : Option PV := (kvs.find? fun kv => decide (kv.1 = k)).map (·.2)
def putP {κ : Type} [DecidableEq κ] (kvs : List (κ × PV)) (k : κ) (v : PV) : List (κ × PV) :=
  if (kvs.any fun kv => decide (kv.1 = k)) = true then kvs.map (fun kv => if kv.1 = k then (kv.1, v) else kv) else kvs ++ [(k, v)]
theorem keyOf_rep {K ρ H p v k} (h : Rep K ρ H p v) (e : keyOf p = some k) : v = kV k := by
  cases p with
  | int i => cases e; rw [rep_int] at h; exact h
  | str i => cases e; rw [rep_str] at h; exact h
  | _ => cases e
section
variable {κ : Type} [DecidableEq κ] {K : PySem.W.Frag} {ρ : List Addr} {H : Hp}
theorem valP_rep (k : κ) : ∀ {kvs : List (κ × PV)} {kws : List (κ × V)}, RepF K ρ H kvs kws → match valP kvs k with
    | some p => ∃ v, valV kws k = some v ∧ Rep K ρ H p v
    | none => valV kws k = none
  | _, _, .nil => rfl
  | (a, p) :: fs, (b, v) :: gs, .cons h t => by
    obtain ⟨h1, h2⟩ := h
    have h1 : a = b := h1
    subst h1
    unfold valP valV
    rw [List.find?_cons, List.find?_cons]
    by_cases z : a = k
    · simp only [z, decide_true]
      exact ⟨v, rfl, h2⟩
    · simp only [z, decide_false]
      exact valP_rep k t
theorem any_rep (k : κ) : ∀ {kvs : List (κ × PV)} {kws : List (κ × V)}, RepF K ρ H kvs kws → (kvs.any fun kv => decide (kv.1 = k)) = (kws.any fun kv => decide (kv.1 = k))
  | _, _, .nil => rfl
  | (a, p) :: fs, (b, v) :: gs, .cons h t => by
    obtain ⟨h1, h2⟩ := h
    have h1 : a = b := h1
    subst h1
    rw [List.any_cons, List.any_cons, any_rep k t]
theorem map_rep (k : κ) {p : PV} {v : V} (r : Rep K ρ H p v) : ∀ {kvs : List (κ × PV)} {kws : List (κ × V)}, RepF K ρ H kvs kws → RepF K ρ H (kvs.map fun kv => if kv.1 = k then (kv.1, p) else kv) (kws.map fun kv => if kv.1 = k then (kv.1, v) else kv)
  | _, _, .nil => .nil
  | (a, q) :: fs, (b, w) :: gs, .cons h t => by
    obtain ⟨h1, h2⟩ := h
    have h1 : a = b := h1
    subst h1
    rw [List.map_cons, List.map_cons]
    refine .cons ?_ (map_rep k r t)
    by_cases z : a = k
    · rw [if_pos z, if_pos z]; exact ⟨rfl, r⟩
    · rw [if_neg z, if_neg z]; exact ⟨rfl, h2⟩
theorem paired_append {α β : Type} {R : α → β → Prop} : ∀ {a : List α} {b : List β} {a' : List α} {b' : List β}, Paired R a b → Paired R a' b' → Paired R (a ++ a') (b ++ b')
  | _, _, _, _, .nil, h => h
  | _, _, _, _, .cons r t, h => .cons r (paired_append t h)
theorem putP_rep {kvs : List (κ × PV)} {kws : List (κ × V)} (h : RepF K ρ H kvs kws) (k : κ) {p : PV} {v : V} (r : Rep K ρ H p v) : RepF K ρ H (putP kvs k p) (putK kws k v) := by
  unfold putP putK
  rw [any_rep k h]
  split
  · exact map_rep k r h
  · exact paired_append h (.cons ⟨rfl, r⟩ .nil)
end
def seqAt (ps : List PV) (q : PV) (m : Mem) : Option (PV × Mem) := match q with
  | .int i => (atI ps i).map (·, m)
  | _ => none
def ixG : PV → PV → Mem → Option (PV × Mem)
  | .tup ps, q, m => seqAt ps q m
  | .str z, .int i, m => if z.length ≤ sizeLine then (atI z.cps.toList i).map fun c => (.str ⟨#[c]⟩, m) else none
  | .ref r, q, m => match m[r]? with
    | some (.lst ps) => seqAt ps q m
    | some (.rol ps) => seqAt ps q m
    | some (.dic kvs) => (keyOf q).bind fun k => (valP kvs k).map (·, m)
    | _ => none
  | _, _, _ => none
def isDic (p : PV) (m : Mem) : Bool := match p with
  | .ref r => match m[r]? with
    | some (.dic _) => true
    | _ => false
  | _ => false
section
variable {X : Cx} {cl : Nat → Addr}
theorem seqAt_rep {ρ H mem ps xs q y r} (h : RepL X.K ρ H ps xs) (hq : Rep X.K ρ H q y) (e : seqAt ps q mem = some r) : ∃ i x, y = .int i ∧ L2.atI xs i = some x ∧ Rep X.K ρ H r.1 x ∧ r.2 = mem := by
  unfold seqAt at e
  split at e
  · rename_i i
    rw [rep_int] at hq
    obtain ⟨p, e1, e2⟩ := Option.map_eq_some_iff.mp e
    subst e2
    obtain ⟨x, h1, h2⟩ := h.atI e1
    exact ⟨i, x, hq, h1, h2, rfl⟩
  · cases e
theorem sq_of {ρ : List Addr} {H : Hp} {mem : Mem} {i : Nat} {a : Addr} {ps : List PV} (hm : RelM X.K cl ρ H mem) (ha : ρ[i]? = some a) (h : mem[i]? = some (Ob.lst ps) ∨ mem[i]? = some (Ob.rol ps)) : ∃ xs, SqL X.K H a xs ∧ RepL X.K ρ H ps xs := by
  rcases h with h | h
  · obtain ⟨xs, q1, q2⟩ := hm.ok i a _ ha h
    exact ⟨xs, .inl (.inl q1), q2⟩
  · obtain ⟨xs, q1, q2⟩ := hm.ok i a _ ha h
    refine ⟨xs, ?_, q2⟩
    rcases q1 with ⟨ob, q1⟩ | q1
    · exact .inl (.inr ⟨ob, q1⟩)
    · exact q1 H
theorem ixG_seq {ρ H mem p q r x y Q} (hm : RelM X.K cl ρ H mem) (hp : Rep X.K ρ H p x) (hq : Rep X.K ρ H q y) (h : ixG p q mem = some r) (hd : isDic p mem = false) (k : KE X.K cl ρ H r Q) : rIx X.K x y H Q := by
  cases p with
  | tup ps =>
    rw [rep_tup] at hp
    obtain ⟨a, xs, rfl, h1, h2⟩ := hp
    replace h1 := h1.t
    obtain ⟨i, z, rfl, e1, e2, e3⟩ := seqAt_rep h2 hq h
    exact .inr (.inl ⟨a, xs, i, z, rfl, rfl, h1, e1, k ρ z H .refl (by rw [e3]; exact hm) e2⟩)
  | str z =>
    rw [rep_str] at hp
    subst hp
    cases q with
    | int i =>
      rw [rep_int] at hq
      subst hq
      simp only [ixG] at h
      split at h
      · rename_i hz
        obtain ⟨c, e1, e2⟩ := Option.map_eq_some_iff.mp h
        subst e2
        exact .inr (.inr ⟨z, i, c, rfl, rfl, hz, e1, k ρ _ H .refl hm (by rw [Rep])⟩)
      · cases h
    | _ => cases h
  | ref i =>
    rw [rep_ref] at hp
    obtain ⟨a, ha, rfl⟩ := hp
    simp only [ixG] at h
    simp only [isDic] at hd
    split at h
    · rename_i ps e
      obtain ⟨xs, s1, s2⟩ := sq_of hm ha (.inl e)
      obtain ⟨i, z, rfl, e1, e2, e3⟩ := seqAt_rep s2 hq h
      exact .inl ⟨a, xs, i, z, rfl, rfl, s1, e1, k ρ z H .refl (by rw [e3]; exact hm) e2⟩
    · rename_i ps e
      obtain ⟨xs, s1, s2⟩ := sq_of hm ha (.inr e)
      obtain ⟨i, z, rfl, e1, e2, e3⟩ := seqAt_rep s2 hq h
      exact .inl ⟨a, xs, i, z, rfl, rfl, s1, e1, k ρ z H .refl (by rw [e3]; exact hm) e2⟩
    · rename_i kvs e
      rw [e] at hd
      cases hd
    · cases h
  | _ => cases h
theorem ixG_dic {ρ H mem p q r x y Q} (hm : RelM X.K cl ρ H mem) (hp : Rep X.K ρ H p x) (hq : Rep X.K ρ H q y) (h : ixG p q mem = some r) (hd : isDic p mem = true) (k : KE X.K cl ρ H r Q) : ∃ a v, x = .ref a ∧ DGet H a y (some v) ∧ Q v H := by
  unfold isDic at hd
  split at hd
  · rename_i i
    rw [rep_ref] at hp
    obtain ⟨a, ha, rfl⟩ := hp
    split at hd
    · rename_i kvs e
      simp only [ixG, e] at h
      obtain ⟨k1, h1, h2⟩ := Option.bind_eq_some_iff.mp h
      obtain ⟨v1, h3, h4⟩ := Option.map_eq_some_iff.mp h2
      subst h4
      obtain ⟨kws, z1, z2⟩ := hm.ok i a _ ha e
      have z3 := valP_rep k1 z2
      rw [h3] at z3
      obtain ⟨w, z4, z5⟩ := z3
      have ey := keyOf_rep hq h1
      subst ey
      refine ⟨a, w, rfl, ?_, k ρ w H .refl hm z5⟩
      have := DGet.k (k := k1) z1
      rwa [z4] at this
    · cases hd
  · cases hd
variable {a b c e o : Expr} {es : List Expr} {pos p apos pos' : Pos} {ma mb mc me mo mi : Ex} {x f : Str}
theorem rx_ix (hu : X.A.units + 1 < cLine) (ha : RX cl X a ma) (hb : RX cl X b mb) (hs : PlainIx b) : RX cl X (.Subscript a b pos) (x2 ixG ma mb) :=
  PE.imp (PE.or (pe_ix ix_seq ha hb hs) (pe_dget hu ha hb hs)) fun σ H Q h => by
    obtain ⟨ρ, env, mem, r, hm, he, h, q⟩ := h
    unfold x2 at h
    obtain ⟨r1, h1, h⟩ := Option.bind_eq_some_iff.mp h
    obtain ⟨r2, h2, h3⟩ := Option.bind_eq_some_iff.mp h
    cases hd : isDic r1.1 r2.2 with
    | false => exact .inl ⟨ρ, env, mem, r1, hm, he, h1, fun ρ1 v1 H1 e1 m1 p1 => ⟨ρ1, env, r1.2, r2, m1, he.ext e1, h2, fun ρ2 v2 H2 e2 m2 p2 => ixG_seq m2 (e2.rep _ _ p1) p2 h3 hd (q.ext (e1.trans e2))⟩⟩
    | true => exact .inr ⟨ρ, env, mem, r1, hm, he, h1, fun ρ1 v1 H1 e1 m1 p1 => ⟨ρ1, env, r1.2, r2, m1, he.ext e1, h2, fun ρ2 v2 H2 e2 m2 p2 => ixG_dic m2 (e2.rep _ _ p1) p2 h3 hd (q.ext (e1.trans e2))⟩⟩

/-! ### slices -/
abbrev Ox := Env → Mem → Option (Option Int × Mem)
def TOX (K : PySem.W.Frag) (cl : Nat → Addr) (m : Ox) : TO := fun σ H Q => ∃ ρ env mem r, RelM K cl ρ H mem ∧ RelE K ρ H σ env ∧ m env mem = some r ∧ ∀ ρ' H', Ext K ρ H ρ' H' → RelM K cl ρ' H' r.2 → Q r.1 H'
abbrev RO (cl : Nat → Addr) (X : Cx) (e : Option Expr) (m : Ox) : Prop := PO X e (TOX X.K cl m)
theorem PO.imp {e : Option Expr} {t t' : TO} (h : PO X e t) (hi : ∀ σ H Q, t' σ H Q → t σ H Q) : PO X e t' := ⟨fun pins s σ H Q I q => h.run pins s σ H Q I (hi _ _ _ q)⟩
def oNone : Ox := fun _ m => some (none, m)
def oSome (a : Ex) : Ox := fun env m => (a env m).bind fun r => match r.1 with
  | .int i => some (some i, r.2)
  | _ => none
theorem ro_none : RO cl X none oNone := PO.imp po_none fun σ H Q ⟨ρ, env, mem, r, hm, hE, h, q⟩ => by
  cases h
  exact q ρ H .refl hm
theorem ro_some (h : RX cl X e me) : RO cl X (some e) (oSome me) := PO.imp (po_some h) fun σ H Q ⟨ρ, env, mem, r, hm, hE, h, q⟩ => by
  unfold oSome at h
  obtain ⟨r1, h1, h2⟩ := Option.bind_eq_some_iff.mp h
  refine ⟨ρ, env, mem, r1, hm, hE, h1, fun ρ1 v1 H1 e1 m1 p1 => ?_⟩
  split at h2
  · rename_i i hi
    cases h2
    rw [hi, rep_int] at p1
    exact ⟨i, p1, q ρ1 H1 e1 m1⟩
  · cases h2
def cutP (xs : List PV) (lo hi : Option Int) : List PV := (xs.drop (HT.sIx xs.length 0 lo)).take (HT.sIx xs.length xs.length hi - HT.sIx xs.length 0 lo)
theorem cutP_rep {ρ H} {ps : List PV} {xs : List V} (h : RepL X.K ρ H ps xs) (lo hi : Option Int) : RepL X.K ρ H (cutP ps lo hi) (cutV xs lo hi) := by
  unfold cutP cutV
  rw [h.length]
  exact (h.drop _).take _
def slG (p : PV) (lo hi : Option Int) (m : Mem) : Option (PV × Mem) := match p with
  | .tup ps => some (.tup (cutP ps lo hi), m)
  | .str z => if z.length ≤ sizeLine then some (.str (cutS z lo hi), m) else none
  | .ref r => match m[r]? with
    | some (.lst ps) => some (.ref m.length, m ++ [.lst (cutP ps lo hi)])
    | some (.rol ps) => some (.ref m.length, m ++ [.lst (cutP ps lo hi)])
    | _ => none
  | _ => none
/-- t[lo:hi], the new object without a dict -/
def rSlP (K : PySem.W.Frag) : V → Option Int → Option Int → Hp → VK → Prop := fun x lo hi H Q => ∃ a xs, x = .ref a ∧ SqT K H a xs ∧
  (HT.sIx xs.length 0 lo = 0 ∧ HT.sIx xs.length xs.length hi = xs.length → Q (.ref a) H) ∧ (¬ (HT.sIx xs.length 0 lo = 0 ∧ HT.sIx xs.length xs.length hi = xs.length) → ∀ (p : Addr) (ob : Obj), ob.dict = none → H p = none → Q (.ref p) (upd H p (.frz ob (.tup (cutV xs lo hi)))))
theorem sl_tupP : SlR X (rSlP X.K) := by
  intro pins s σ H x v vl vu lo hi sl Q I rx hs pl pu h
  obtain ⟨a, xs, rfl, hx, q1, q2⟩ := h
  by_cases hw : HT.sIx xs.length 0 lo = 0 ∧ HT.sIx xs.length xs.length hi = xs.length
  · exact sl_tupA pins s σ H _ v vl vu lo hi sl Q I rx hs pl pu ⟨a, xs, rfl, hx, q1, fun n => absurd hw n⟩
  · cases rx
    obtain ⟨its, r, ht, hz⟩ := I.tuple hx
    have hlen : its.toArray.size = xs.length := by rw [List.size_toArray]; exact r.length.symm
    refine ⟨"tuple", _, PyProof.Rows.slot_tuple_getitem.lookup, ht.typeIs, ?_⟩
    refine HT.getItem_tuple_cut ht hs pl pu (by rw [hlen]; exact hw) ?_ (by rw [hlen]; exact hz)
    rw [hlen]
    exact laid_tup I (Nat.le_trans (cutV_length xs lo hi) hz) ((r.drop (HT.sIx xs.length 0 lo)).take (HT.sIx xs.length xs.length hi - HT.sIx xs.length 0 lo)) (q2 hw)
def xSl (a : Ex) (lo hi : Ox) : Ex := fun env m => (a env m).bind fun r => (lo env r.2).bind fun s => (hi env s.2).bind fun t => slG r.1 s.1 t.1 t.2
theorem rx_sl {lo hi : Option Expr} {ol oh : Ox} {p2 : Pos} (ha : RX cl X a ma) (hl : RO cl X lo ol) (hh : RO cl X hi oh) : RX cl X (.Subscript a (.Slice lo hi none p2) pos) (xSl ma ol oh) :=
  PE.imp (pe_slice (sl_list.or (sl_tupP.or sl_str)) ha hl hh) fun σ H Q ⟨ρ, env, mem, r, hm, hE, h, q⟩ => by
    unfold xSl at h
    obtain ⟨r1, h1, h⟩ := Option.bind_eq_some_iff.mp h
    obtain ⟨r2, h2, h⟩ := Option.bind_eq_some_iff.mp h
    obtain ⟨r3, h3, h4⟩ := Option.bind_eq_some_iff.mp h
    refine ⟨ρ, env, mem, r1, hm, hE, h1, fun ρ1 v1 H1 e1 m1 p1 => ⟨ρ1, env, r1.2, r2, m1, hE.ext e1, h2, fun ρ2 H2 e2 m2 => ⟨ρ2, env, r2.2, r3, m2, (hE.ext e1).ext e2, h3, fun ρ3 H3 e3 m3 => ?_⟩⟩⟩
    have p3 := (e2.trans e3).rep _ _ p1
    have q3 := q.ext (e1.trans (e2.trans e3))
    generalize r1.1 = p at h4 p3
    cases p with
    | tup ps =>
      rw [rep_tup] at p3
      obtain ⟨a, xs, rfl, i1, i2⟩ := p3
      cases h4
      refine .inr (.inl ⟨a, xs, rfl, i1.t, fun hw => ?_, fun hw p ob hob hp => ?_⟩)
      · refine q3 ρ3 _ H3 .refl m3 ?_
        rw [rep_tup]
        refine ⟨a, xs, rfl, i1, ?_⟩
        have e : cutP ps r2.1 r3.1 = ps := by
          unfold cutP
          rw [i2.length] at hw
          rw [hw.1, hw.2]
          simp
        rw [e]
        exact i2
      · obtain ⟨z1, z2, z3⟩ := new_tup hob m3 (cutP_rep i2 r2.1 r3.1) hp
        exact q3 _ _ _ z1 z2 z3
    | str z =>
      rw [rep_str] at p3
      subst p3
      simp only [slG] at h4
      split at h4
      · rename_i hz
        cases h4
        exact .inr (.inr ⟨z, rfl, hz, q3 ρ3 _ H3 .refl m3 (by rw [Rep])⟩)
      · cases h4
    | ref i =>
      rw [rep_ref] at p3
      obtain ⟨a, ha, rfl⟩ := p3
      simp only [slG] at h4
      split at h4
      · rename_i ps e
        cases h4
        obtain ⟨xs, s1, s2⟩ := sq_of m3 ha (.inl e)
        refine .inl ⟨a, xs, rfl, s1, fun p hp => ?_⟩
        obtain ⟨z1, z2, z3⟩ := new_lst m3 (cutP_rep s2 r2.1 r3.1) hp
        exact q3 _ _ _ z1 z2 z3
      · rename_i ps e
        cases h4
        obtain ⟨xs, s1, s2⟩ := sq_of m3 ha (.inr e)
        refine .inl ⟨a, xs, rfl, s1, fun p hp => ?_⟩
        obtain ⟨z1, z2, z3⟩ := new_lst m3 (cutP_rep s2 r2.1 r3.1) hp
        exact q3 _ _ _ z1 z2 z3
      · cases h4
    | _ => cases h4

/-! ### fields -/
def fldG (C : Nat) (f : Str) (p : PV) (m : Mem) : Option (PV × Mem) := match p with
  | .ref r => match m[r]? with
    | some (.ins c fs) => if c = C then (fs.lookup f).map (·, m) else none
    | _ => none
  | _ => none
theorem rx_fld {C : Nat} (hc : Cls X.K (cl C)) (hn : NoAttr X.K (cl C) f) (he : RX cl X e me) (hb : attributeBase e f X.env (eval e X.env) = eval e X.env := by rfl) : RX cl X (.Attribute e f pos) (x1 (fldG C f) me) :=
  PE.imp (pe_fld he hb) fun σ H Q h => by
    obtain ⟨ρ, env, mem, r, hm, hE, h, q⟩ := t1_of h
    refine ⟨ρ, env, mem, r, hm, hE, h, fun ρ1 v1 H1 e1 m1 p1 => ?_⟩
    obtain ⟨ρ2, p2, mem2, r2, n1, n2, n3, n4⟩ := q ρ1 v1 H1 e1 m1 p1
    unfold fldG at n3
    split at n3
    · rename_i i
      rw [rep_ref] at n2
      obtain ⟨a, ha, rfl⟩ := n2
      split at n3
      · rename_i c fs e
        split at n3
        · rename_i hC
          subst hC
          obtain ⟨v, n5, n6⟩ := Option.map_eq_some_iff.mp n3
          subst n6
          obtain ⟨dx, gs, z1, z2⟩ := n1.ok i a _ ha e
          have z3 := repF_lookup f z2
          rw [n5] at z3
          obtain ⟨w, z4, z5⟩ := z3
          exact ⟨a, _, dx, gs, w, rfl, z1, hc, hn, z4, n4 ρ2 w H1 .refl n1 z5⟩
        · cases n3
      · cases n3
    · cases n3

/-! ### statements -/
def sNx : Sx := fun env m => some (.nx, env, m)
def sBk : Sx := fun env m => some (.bk, env, m)
def sCt : Sx := fun env m => some (.ct, env, m)
def sNo : Sx := fun _ _ => none
def sSq (a b : Sx) : Sx := fun env m => (a env m).bind fun r => match r.1 with
  | .nx => b r.2.1 r.2.2
  | _ => some r
variable {st : Stmt} {sts : List Stmt} {sa sb : Sx}
theorem rss_nil : RSs cl X [] sNx := PSs.imp pss_nil fun D σ H ⟨ρ, env, mem, r, hm, hE, h, q⟩ => by
  cases h
  exact q ρ σ H .refl hm hE
theorem rs_pass : RS cl X (.Pass pos) sNx := PS.imp ps_pass fun D σ H ⟨ρ, env, mem, r, hm, hE, h, q⟩ => by
  cases h
  exact q ρ σ H .refl hm hE
theorem rs_break : RS cl X (.Break pos) sBk := PS.imp ps_break fun D σ H ⟨ρ, env, mem, r, hm, hE, h, q⟩ => by
  cases h
  exact q ρ σ H .refl hm hE
theorem rs_continue : RS cl X (.Continue pos) sCt := PS.imp ps_continue fun D σ H ⟨ρ, env, mem, r, hm, hE, h, q⟩ => by
  cases h
  exact q ρ σ H .refl hm hE
theorem rs_never : RS cl X st sNo := PS.imp ps_never fun D σ H ⟨ρ, env, mem, r, hm, hE, h, q⟩ => by cases h
theorem rs_doc {x : Str} {j : Nat} {pos'} : RS cl X (.Expr (.Constant (.str x) j pos) pos') sNx := PS.imp ps_doc fun D σ H ⟨ρ, env, mem, r, hm, hE, h, q⟩ => by
  cases h
  exact q ρ σ H .refl hm hE
theorem rss_cons (h1 : RS cl X st sa) (h2 : RSs cl X sts sb) : RSs cl X (st :: sts) (sSq sa sb) := PSs.imp (pss_cons h1 h2) fun D σ H ⟨ρ, env, mem, r, hm, hE, h, q⟩ => by
  unfold sSq at h
  obtain ⟨r1, e1, h⟩ := Option.bind_eq_some_iff.mp h
  refine ⟨ρ, env, mem, r1, hm, hE, e1, fun ρ1 σ1 H1 x1 m1 E1 => ?_⟩
  obtain ⟨f, env1, mem1⟩ := r1
  cases f with
  | nx => exact ⟨ρ1, env1, mem1, r, m1, E1, h, q.ext x1⟩
  | rt v => cases h; exact q ρ1 σ1 H1 x1 m1 E1
  | bk => cases h; exact q ρ1 σ1 H1 x1 m1 E1
  | ct => cases h; exact q ρ1 σ1 H1 x1 m1 E1
theorem rss_one (h1 : RS cl X st sa) : RSs cl X [st] sa := pss_one h1
def sEx (a : Ex) : Sx := fun env m => (a env m).bind fun r => some (.nx, env, r.2)
def sRt (a : Ex) : Sx := fun env m => (a env m).bind fun r => some (.rt r.1, env, r.2)
def sRn : Sx := fun env m => some (.rt .non, env, m)
def sIf (t : Tx) (a b : Sx) : Sx := fun env m => (t env m).bind fun r => if r.1 = true then a env r.2 else b env r.2
theorem rs_expr (he : RX cl X e me) (hs : swapsWith e none pos.line X.env = pure false := by rfl) : RS cl X (.Expr e pos) (sEx me) := PS.imp (ps_expr he hs) fun D σ H ⟨ρ, env, mem, r, hm, hE, h, q⟩ => by
  unfold sEx at h
  obtain ⟨r1, e1, h⟩ := Option.bind_eq_some_iff.mp h
  cases h
  exact ⟨ρ, env, mem, r1, hm, hE, e1, fun ρ1 v1 H1 x1 m1 p1 => q ρ1 σ H1 x1 m1 (hE.ext x1)⟩
theorem rs_ret (he : RX cl X e me) : RS cl X (.Return (some e) pos) (sRt me) := PS.imp (ps_ret he) fun D σ H ⟨ρ, env, mem, r, hm, hE, h, q⟩ => by
  unfold sRt at h
  obtain ⟨r1, e1, h⟩ := Option.bind_eq_some_iff.mp h
  cases h
  exact ⟨ρ, env, mem, r1, hm, hE, e1, fun ρ1 v1 H1 x1 m1 p1 => q ρ1 σ H1 x1 m1 (hE.ext x1) v1 p1⟩
theorem rs_retN : RS cl X (.Return none pos) sRn := PS.imp ps_retN fun D σ H ⟨ρ, env, mem, r, hm, hE, h, q⟩ => by
  cases h
  exact q ρ σ H .refl hm hE _ (by rw [Rep])
theorem rs_if {tc : Tx} {xs ys : List Stmt} (hc : RT cl X c tc) (ha : RSs cl X xs sa) (hb : RSs cl X ys sb) : RS cl X (.If c xs ys pos) (sIf tc sa sb) := PS.imp (ps_if hc ha hb) fun D σ H ⟨ρ, env, mem, r, hm, hE, h, q⟩ => by
  unfold sIf at h
  obtain ⟨r1, e1, h⟩ := Option.bind_eq_some_iff.mp h
  refine ⟨ρ, env, mem, r1, hm, hE, e1, fun ρ1 H1 x1 m1 => ?_⟩
  split at h
  · rename_i z
    rw [if_pos z]
    exact ⟨ρ1, env, r1.2, r, m1, hE.ext x1, h, q.ext x1⟩
  · rename_i z
    rw [if_neg z]
    exact ⟨ρ1, env, r1.2, r, m1, hE.ext x1, h, q.ext x1⟩

/-! ### targets -/
abbrev Gx := PV → Env → Mem → Option (Env × Mem)
abbrev Gxs := List PV → Env → Mem → Option (Env × Mem)
def KG (K : PySem.W.Frag) (cl : Nat → Addr) (ρ : List Addr) (H : Hp) (r : Env × Mem) (Q : L2.St → Hp → Prop) : Prop := ∀ ρ' σ' H', Ext K ρ H ρ' H' → RelM K cl ρ' H' r.2 → RelE K ρ' H' σ' r.1 → Q σ' H'
theorem KG.ext {K cl ρ H ρ' H'} {r : Env × Mem} {Q} (h : KG K cl ρ H r Q) (e : Ext K ρ H ρ' H') : KG K cl ρ' H' r Q := fun ρ2 v H2 e2 => h ρ2 v H2 (e.trans e2)
def TGX (K : PySem.W.Frag) (cl : Nat → Addr) (g : Gx) : TG := fun v σ H Q => ∃ ρ p env mem r, RelM K cl ρ H mem ∧ RelE K ρ H σ env ∧ Rep K ρ H p v ∧ g p env mem = some r ∧ KG K cl ρ H r Q
def TGsX (K : PySem.W.Frag) (cl : Nat → Addr) (g : Gxs) : TGs := fun vs σ H Q => ∃ ρ ps env mem r, RelM K cl ρ H mem ∧ RelE K ρ H σ env ∧ RepL K ρ H ps vs ∧ g ps env mem = some r ∧ KG K cl ρ H r Q
abbrev RG (cl : Nat → Addr) (X : Cx) (e : Expr) (g : Gx) : Prop := PG X e (TGX X.K cl g)
abbrev RGs (cl : Nat → Addr) (X : Cx) (e : List Expr) (g : Gxs) : Prop := PGs X e (TGsX X.K cl g)
theorem PG.imp {e : Expr} {t t' : TG} (h : PG X e t) (hi : ∀ v σ H Q, t' v σ H Q → t v σ H Q) : PG X e t' := ⟨fun pins s σ H v u Q I r q => h.run pins s σ H v u Q I r (hi _ _ _ _ q)⟩
theorem PGs.imp {e : List Expr} {t t' : TGs} (h : PGs X e t) (hi : ∀ v σ H Q, t' v σ H Q → t v σ H Q) : PGs X e t' := ⟨fun pins s σ H v u Q I r q => h.run pins s σ H v u Q I r (hi _ _ _ _ q)⟩
def gNm (i : Nat) : Gx := fun p env m => some (env.set i (some p), m)
theorem rg_name {i : Nat} (hN : X.N.Nodup) (hi : X.N[i]? = some x) (hx : Loc X.env.scope x) (hf : X.fn x = true ∨ X.env.scope.names.lookup x = some .local := by first | exact .inl rfl | exact .inr rfl | assumption) : RG cl X (.Name x pos) (gNm i) :=
  PG.imp (pg_name hN hi hx hf) fun v σ H Q ⟨ρ, p, env, mem, r, hm, hE, hp, h, q⟩ => by
    cases h
    exact q ρ _ H .refl hm (hE.set i hp)
def gsNil : Gxs := fun ps env m => match ps with
  | [] => some (env, m)
  | _ => none
def gsCons (g : Gx) (r : Gxs) : Gxs := fun ps env m => match ps with
  | p :: qs => (g p env m).bind fun s => r qs s.1 s.2
  | [] => none
theorem rgs_nil : RGs cl X [] gsNil := PGs.imp pgs_nil fun v σ H Q ⟨ρ, p, env, mem, r, hm, hE, hp, h, q⟩ => by
  unfold gsNil at h
  split at h
  · cases h
    exact ⟨hp.inv0, q ρ _ H .refl hm hE⟩
  · cases h
theorem rgs_cons {g : Gx} {gs : Gxs} (h1 : RG cl X e g) (h2 : RGs cl X es gs) (hs : (assignEach (e :: es) X.env).map (·.2) = assign e X.env :: (assignEach es X.env).map (·.2) := by rfl) : RGs cl X (e :: es) (gsCons g gs) :=
  PGs.imp (pgs_cons h1 h2 hs) fun v σ H Q ⟨ρ, p, env, mem, r, hm, hE, hp, h, q⟩ => by
    unfold gsCons at h
    split at h
    · obtain ⟨x, xs, rfl, i1, i2⟩ := hp.inv
      obtain ⟨r1, e1, e2⟩ := Option.bind_eq_some_iff.mp h
      exact ⟨x, xs, rfl, ρ, _, env, mem, r1, hm, hE, i1, e1, fun ρ1 σ1 H1 x1 m1 E1 => ⟨ρ1, _, r1.1, r1.2, r, m1, E1, x1.repL _ _ i2, e2, q.ext x1⟩⟩
    · cases h
/-- a, b = e: e a tuple -/
def gTu (n : Nat) (g : Gxs) : Gx := fun p env m => match p with
  | .tup ps => if ps.length = n then g ps env m else none
  | _ => none
theorem rg_tup {k n : Nat} {gs : Gxs} (hc : X.calm = true) (h : RGs cl X es gs) (hn : (assignEach es X.env).length = n := by rfl) (hst : (assignEach es X.env).findIdx? (·.1) = none := by rfl) : RG cl X (.Tuple es k pos) (gTu n gs) :=
  PG.imp (pg_tup hc h hn hst) fun v σ H Q ⟨ρ, p, env, mem, r, hm, hE, hp, h, q⟩ => by
    unfold gTu at h
    split at h
    · rw [rep_tup] at hp
      obtain ⟨a, xs, rfl, h1, h2⟩ := hp
      replace h1 := h1.t
      split at h
      · rename_i hl
        exact ⟨a, xs, rfl, h1, by rw [h2.length, hl], ρ, _, env, mem, r, hm, hE, h2, h, q⟩
      · cases h
    · cases h
/-- name = e, any target = e -/
def sAs (a : Ex) (g : Gx) : Sx := fun env m => (a env m).bind fun r => (g r.1 env r.2).bind fun s => some (.nx, s.1, s.2)
theorem tAs_of {ma : Ex} {g : Gx} {D σ H} (h : TSX X.K cl (sAs ma g) D σ H) : TX X.K cl ma σ H fun x H1 => TGX X.K cl g x σ H1 D.nx := by
  obtain ⟨ρ, env, mem, r, hm, hE, h, q⟩ := h
  unfold sAs at h
  obtain ⟨r1, e1, h⟩ := Option.bind_eq_some_iff.mp h
  obtain ⟨r2, e2, h⟩ := Option.bind_eq_some_iff.mp h
  cases h
  exact ⟨ρ, env, mem, r1, hm, hE, e1, fun ρ1 v1 H1 x1 m1 p1 => ⟨ρ1, r1.1, env, r1.2, r2, m1, hE.ext x1, p1, e2, fun ρ2 σ2 H2 x2 m2 E2 => q ρ2 σ2 H2 (x1.trans x2) m2 E2⟩⟩
theorem rs_asg {tg : Expr} {g : Gx} (he : RX cl X e me) (hg : RG cl X tg g) (hs : swapsWithSole [tg] e pos.line X.env = pure false := by rfl) (hw : swappedStores [tg] e X.env = pure none := by rfl)
    (h1 : (assignEach [tg] X.env).map (·.2) = [assign tg X.env] := by rfl) : RS cl X (.Assign [tg] e pos) (sAs me g) := PS.imp (ps_asg he hg hs hw h1) fun D σ H h => tAs_of h
theorem rs_set {i : Nat} (hN : X.N.Nodup) (hi : X.N[i]? = some x) (hx : Loc X.env.scope x) (he : RX cl X e me) (hs : swapsWith e (some (.Name x pos')) pos.line X.env = pure false := by rfl) (hf : X.fn x = true ∨ X.env.scope.names.lookup x = some .local := by first | exact .inl rfl | exact .inr rfl | assumption) :
    RS cl X (.Assign [.Name x pos'] e pos) (sAs me (gNm i)) := PS.imp (ps_set hN hi hx he hs hf) fun D σ H h => by
  obtain ⟨ρ, env, mem, r, hm, hE, h, q⟩ := tAs_of h
  refine ⟨ρ, env, mem, r, hm, hE, h, fun ρ1 v1 H1 x1 m1 p1 => ?_⟩
  obtain ⟨ρ2, p, env2, mem2, r2, n1, n2, n3, n4, n5⟩ := q ρ1 v1 H1 x1 m1 p1
  cases n4
  exact n5 ρ2 _ H1 .refl n1 (n2.set i n3)
/-- o[i] = e -/
def setG (p q v : PV) (m : Mem) : Option Mem := match p with
  | .ref r => match m[r]? with
    | some (.lst ps) => match q with
      | .int i => (ixN ps.length i).map fun j => m.set r (.lst (ps.set j v))
      | _ => none
    | some (.dic kvs) => if kvs.length < sizeLine then (keyOf q).map fun k => m.set r (.dic (putP kvs k v)) else none
    | _ => none
  | _ => none
def gIx (o i : Ex) : Gx := fun p env m => (o env m).bind fun r => (i env r.2).bind fun s => (setG r.1 s.1 p s.2).map fun m' => (env, m')
theorem PSet.or {t t' : TSet} (h : PSet X t) (h' : PSet X t') : PSet X (fun o i v H Q => t o i v H Q ∨ t' o i v H Q) := fun pins s σ H o i v ov iv u Q I a b c q => q.elim (h pins s σ H o i v ov iv u Q I a b c) (h' pins s σ H o i v ov iv u Q I a b c)
theorem rg_ix (hu : X.A.units + 1 < cLine) (ho : RX cl X o mo) (hi : RX cl X e mi) (ha : ∀ v, assign (.Subscript o e pos) X.env v = (do
      let ov ← holding [v] (eval o X.env)
      let iv ← holding [v, ov] (eval e X.env)
      standAt pos
      holding [v, ov, iv] (setItem ov iv v)
      release [v, ov, iv] []) := by intro _; rfl) : RG cl X (.Subscript o e pos) (gIx mo mi) :=
  PG.imp (pg_sub ho hi (PSet.or set_list (set_dict hu)) ha) fun v σ H Q ⟨ρ, p, env, mem, r, hm, hE, hp, h, q⟩ => by
    unfold gIx at h
    obtain ⟨r1, e1, h⟩ := Option.bind_eq_some_iff.mp h
    obtain ⟨r2, e2, h⟩ := Option.bind_eq_some_iff.mp h
    obtain ⟨m', e3, h⟩ := Option.map_eq_some_iff.mp h
    subst h
    refine ⟨ρ, env, mem, r1, hm, hE, e1, fun ρ1 v1 H1 x1 m1 p1 => ⟨ρ1, env, r1.2, r2, m1, hE.ext x1, e2, fun ρ2 v2 H2 x2 m2 p2 => ?_⟩⟩
    have q1 := x2.rep _ _ p1
    have q0 := (x1.trans x2).rep _ _ hp
    have qE := hE.ext (x1.trans x2)
    unfold setG at e3
    split at e3
    · rename_i i hr
      rw [hr, rep_ref] at q1
      obtain ⟨a, ha, rfl⟩ := q1
      split at e3
      · rename_i ps hi
        split at e3
        · rename_i k hk
          obtain ⟨j, e4, e5⟩ := Option.map_eq_some_iff.mp e3
          subst e5
          rw [hk, rep_int] at p2
          subst p2
          obtain ⟨xs, z1, z2⟩ := m2.ok i a _ ha hi
          refine .inl ⟨a, xs, k, j, rfl, rfl, z1, by rw [z2.length]; exact e4, ?_⟩
          have x3 : Ext X.K ρ2 H2 ρ2 (upd H2 a (.lst (xs.set j v))) := ext_set m2 ha hi rfl
          exact q ρ2 σ _ ((x1.trans x2).trans x3) (m2.set ha hi rfl rfl ⟨_, upd_same, x3.repL _ _ (z2.set j q0)⟩) (qE.ext x3)
        · cases e3
      · rename_i kvs hi
        split at e3
        · rename_i hl
          obtain ⟨k, e4, e5⟩ := Option.map_eq_some_iff.mp e3
          subst e5
          have ek := keyOf_rep p2 e4
          subst ek
          obtain ⟨kws, z1, z2⟩ := m2.ok i a _ ha hi
          have x3 : Ext X.K ρ2 H2 ρ2 (upd H2 a (.dK (putK kws k v))) := ext_set m2 ha hi rfl
          refine .inr ⟨a, _, rfl, DPut.k z1 (by rw [← Paired.length z2]; exact hl), ?_⟩
          exact q ρ2 σ _ ((x1.trans x2).trans x3) (m2.set ha hi rfl rfl ⟨_, upd_same, putP_rep (x3.repF z2) k (x3.rep _ _ q0)⟩) (qE.ext x3)
        · cases e3
      · cases e3
    · cases e3
/-- o.f = e -/
def putFP (f : Str) (v : PV) : List (Str × PV) → List (Str × PV)
  | [] => [(f, v)]
  | (g, u) :: r => if g = f then (g, v) :: r else (g, u) :: putFP f v r
def sFd (C : Nat) (f : Str) (o v : Ex) : Sx := fun env m => (v env m).bind fun r => (o env r.2).bind fun s => match s.1 with
  | .ref i => match s.2[i]? with
    | some (.ins c fs) => if c = C ∧ fs.length < 1000 then some (.nx, env, s.2.set i (.ins c (putFP f r.1 fs))) else none
    | _ => none
  | _ => none
theorem putFP_rep {K ρ H} (f : Str) {p : PV} {v : V} (r : Rep K ρ H p v) : ∀ {fs : List (Str × PV)} {gs : List (Str × V)}, RepF K ρ H fs gs → RepF K ρ H (putFP f p fs) (putF f v gs)
  | _, _, .nil => .cons ⟨rfl, r⟩ .nil
  | (a, q) :: fs, (b, w) :: gs, .cons h t => by
    obtain ⟨h1, h2⟩ := h
    have h1 : a = b := h1
    subst h1
    unfold putFP putF
    split
    · exact .cons ⟨rfl, r⟩ t
    · exact .cons ⟨rfl, h2⟩ (putFP_rep f r t)
end
end Rf
end

section
set_option Elab.async false
set_option linter.all false
set_option maxRecDepth 100000
set_option autoImplicit false
namespace Rf
open PySem PySem.Spec L2
section
variable {X : Cx} {cl : Nat → Addr}
variable {a b c e o : Expr} {es : List Expr} {pos p apos pos' : Pos} {ma mb mc me mo mi : Ex} {x f : Str} {mA : Ax}
variable {st : Stmt} {sts : List Stmt} {sa sb : Sx}
theorem rs_fld {C : Nat} {value : Expr} (hc : Cls X.K (cl C)) (hn : NoAttr X.K (cl C) f) (ho : RX cl X o mo) (hv : RX cl X value me) (hs : swapsWith value (some (.Attribute o f pos')) pos.line X.env = pure false := by rfl) : RS cl X (.Assign [.Attribute o f pos'] value pos) (sFd C f mo me) :=
  PS.imp (ps_fld ho hv hs) fun D σ H ⟨ρ, env, mem, r, hm, hE, h, q⟩ => by
    unfold sFd at h
    obtain ⟨r1, e1, h⟩ := Option.bind_eq_some_iff.mp h
    obtain ⟨r2, e2, h⟩ := Option.bind_eq_some_iff.mp h
    refine ⟨ρ, env, mem, r1, hm, hE, e1, fun ρ1 v1 H1 x1 m1 p1 => ⟨ρ1, env, r1.2, r2, m1, hE.ext x1, e2, fun ρ2 v2 H2 x2 m2 p2 => ?_⟩⟩
    split at h
    · rename_i i hi
      rw [hi, rep_ref] at p2
      obtain ⟨a, ha, rfl⟩ := p2
      split at h
      · rename_i c fs hf
        split at h
        · rename_i hC
          obtain ⟨hC, hl⟩ := hC
          obtain rfl := Option.some.inj h
          subst hC
          obtain ⟨dx, gs, z1, z2⟩ := m2.ok i a _ ha hf
          refine ⟨a, _, dx, gs, rfl, z1, hc, hn, by rw [← Paired.length z2]; exact hl, ?_⟩
          have x3 : Ext X.K ρ2 H2 ρ2 (upd H2 a (.ins (cl c) dx (putF f v1 gs))) := ext_set m2 ha hf rfl
          exact q ρ2 σ _ ((x1.trans x2).trans x3) (m2.set ha hf rfl rfl ⟨dx, _, upd_same, putFP_rep f ((x2.trans x3).rep _ _ p1) (x3.repF z2)⟩) ((hE.ext (x1.trans x2)).ext x3)
        · cases h
      · cases h
    · cases h
/-- name op= e -/
def sAu (i : Nat) (g : PV → PV → Mem → Option (PV × Mem)) (a : Ex) : Sx := fun env m => match env[i]? with
  | some (some p) => (a env m).bind fun r => (g p r.1 r.2).bind fun s => some (.nx, env.set i (some s.1), s.2)
  | _ => none
theorem rs_aug {i : Nat} {op : Operator} {g : PV → PV → Mem → Option (PV × Mem)} (hN : X.N.Nodup) (hi : X.N[i]? = some x) (hx : Loc X.env.scope x) (he : RX cl X e me) (ho : PIp X op (G2 X.K cl g)) (hf : X.fn x = true ∨ X.env.scope.names.lookup x = some .local := by first | exact .inl rfl | exact .inr rfl | assumption) :
    RS cl X (.AugAssign (.Name x pos') op e pos) (sAu i g me) := PS.imp (ps_aug hN hi hx he ho hf) fun D σ H ⟨ρ, env, mem, r, hm, hE, h, q⟩ => by
  unfold sAu at h
  split at h
  · rename_i p0 hp
    obtain ⟨r1, e1, h⟩ := Option.bind_eq_some_iff.mp h
    obtain ⟨r2, e2, h⟩ := Option.bind_eq_some_iff.mp h
    cases h
    obtain ⟨v, h1, h2⟩ := hE.ok i p0 hp
    refine ⟨v, h1, ρ, env, mem, r1, hm, hE, e1, fun ρ1 v1 H1 x1 m1 p1 => ⟨ρ1, p0, r1.1, r1.2, r2, m1, x1.rep _ _ h2, p1, e2, fun ρ2 v2 H2 x2 m2 p2 => ?_⟩⟩
    exact q ρ2 _ H2 (x1.trans x2) m2 ((hE.ext (x1.trans x2)).set i p2)
  · cases h

/-! ### what is walked -/
structure Sq where
  items : List PV
  guard : List (Nat × Ob)
def okG (g : List (Nat × Ob)) (m : Mem) : Bool := g.all fun q => decide (m[q.1]? = some q.2)
theorem okG_nil {m : Mem} : okG [] m = true := rfl
theorem okG_cons {q : Nat × Ob} {g : List (Nat × Ob)} {m : Mem} : okG (q :: g) m = true ↔ m[q.1]? = some q.2 ∧ okG g m = true := by
  unfold okG
  rw [List.all_cons, Bool.and_eq_true, decide_eq_true_eq]
structure ItX (K : PySem.W.Frag) (cl : Nat → Addr) (J : It) (s : Sq) (ρ : List Addr) (H : Hp) : Prop where
  go : ∀ (ρ' : List Addr) (H' : Hp) (m : Mem) (i : Nat) (p : PV), Ext K ρ H ρ' H' → RelM K cl ρ' H' m → okG s.guard m = true → s.items[i]? = some p → J.go i H' ∧ ∀ x H'', J.yld i H' x H'' → Ext K ρ' H' ρ' H'' ∧ RelM K cl ρ' H'' m ∧ Rep K ρ' H'' p x
  stop : ∀ (ρ' : List Addr) (H' : Hp) (m : Mem), Ext K ρ H ρ' H' → RelM K cl ρ' H' m → okG s.guard m = true → J.stop s.items.length H'
theorem ItX.ext {K cl J s ρ H ρ' H'} (h : ItX K cl J s ρ H) (e : Ext K ρ H ρ' H') : ItX K cl J s ρ' H' := ⟨fun ρ2 H2 m i p e2 => h.go ρ2 H2 m i p (e.trans e2), fun ρ2 H2 m e2 => h.stop ρ2 H2 m (e.trans e2)⟩
abbrev Ix := Env → Mem → Option (Sq × Mem)
def TIX (K : PySem.W.Frag) (cl : Nat → Addr) (m : Ix) : TI := fun σ H R => ∃ ρ env mem r, RelM K cl ρ H mem ∧ RelE K ρ H σ env ∧ m env mem = some r ∧ ∀ ρ' H' J, Ext K ρ H ρ' H' → RelM K cl ρ' H' r.2 → okG r.1.guard r.2 = true → ItX K cl J r.1 ρ' H' → R J H'
abbrev RI (cl : Nat → Addr) (X : Cx) (tg e : Expr) (m : Ix) : Prop := PI X tg e (TIX X.K cl m)
theorem PI.imp {tg e : Expr} {t t' : TI} (h : PI X tg e t) (hi : ∀ σ H R, t' σ H R → t σ H R) : PI X tg e t' := ⟨fun pins s σ H R I q => h.run pins s σ H R I (hi _ _ _ q)⟩
/-- a list by itself; a tuple -/
def sqOf (p : PV) (m : Mem) : Option Sq := match p with
  | .ref r => match m[r]? with
    | some (.lst ps) => some ⟨ps, [(r, .lst ps)]⟩
    | some (.rol ps) => some ⟨ps, [(r, .rol ps)]⟩
    | _ => none
  | _ => none
def tqOf (p : PV) : Option Sq := match p with
  | .tup ps => some ⟨ps, []⟩
  | _ => none
def iSq (a : Ex) : Ix := fun env m => (a env m).bind fun r => (sqOf r.1 r.2).map (·, r.2)
def iTp (a : Ex) : Ix := fun env m => (a env m).bind fun r => (tqOf r.1).map (·, r.2)
theorem sqOf_ok {ρ : List Addr} {H : Hp} {m : Mem} {p : PV} {v : V} {s : Sq} (hm : RelM X.K cl ρ H m) (hp : Rep X.K ρ H p v) (h : sqOf p m = some s) : ∃ a, v = .ref a ∧ okG s.guard m = true ∧ (∃ xs, SqL X.K H a xs) ∧
    ∀ (ρ' : List Addr) (H' : Hp) (m' : Mem), Ext X.K ρ H ρ' H' → RelM X.K cl ρ' H' m' → okG s.guard m' = true → ∃ xs, SqL X.K H' a xs ∧ RepL X.K ρ' H' s.items xs := by
  unfold sqOf at h
  split at h
  · rename_i i
    rw [rep_ref] at hp
    obtain ⟨a, ha, rfl⟩ := hp
    split at h
    · rename_i ps e
      cases h
      obtain ⟨xs, s1, s2⟩ := sq_of hm ha (.inl e)
      exact ⟨a, rfl, okG_cons.mpr ⟨e, rfl⟩, ⟨xs, s1⟩, fun ρ' H' m' x1 m1 k => sq_of m1 (x1.at ha) (.inl (okG_cons.mp k).1)⟩
    · rename_i ps e
      cases h
      obtain ⟨xs, s1, s2⟩ := sq_of hm ha (.inr e)
      exact ⟨a, rfl, okG_cons.mpr ⟨e, rfl⟩, ⟨xs, s1⟩, fun ρ' H' m' x1 m1 k => sq_of m1 (x1.at ha) (.inr (okG_cons.mp k).1)⟩
    · cases h
  · cases h
theorem ri_list {tg : Expr} (ha : RX cl X a ma) : RI cl X tg a (iSq ma) := PI.imp (pi_list ha) fun σ H R ⟨ρ, env, mem, r, hm, hE, h, q⟩ => by
  unfold iSq at h
  obtain ⟨r1, e1, h⟩ := Option.bind_eq_some_iff.mp h
  obtain ⟨s, e2, h⟩ := Option.map_eq_some_iff.mp h
  subst h
  refine ⟨ρ, env, mem, r1, hm, hE, e1, fun ρ1 v1 H1 x1 m1 p1 => ?_⟩
  obtain ⟨a, rfl, k, z1, z2⟩ := sqOf_ok m1 p1 e2
  refine ⟨a, rfl, z1, q ρ1 H1 _ x1 m1 k ⟨fun ρ' H' m i p x2 m2 k2 hi => ?_, fun ρ' H' m x2 m2 k2 => ?_⟩⟩
  · obtain ⟨xs, y1, y2⟩ := z2 ρ' H' m x2 m2 k2
    obtain ⟨x, y3, y4⟩ := y2.get hi
    refine ⟨⟨xs, x, y1, y3⟩, fun x' H'' ⟨e, y⟩ => ?_⟩
    subst e
    have := (y xs y1).symm.trans y3
    cases this
    exact ⟨.refl, m2, y4⟩
  · obtain ⟨xs, y1, y2⟩ := z2 ρ' H' m x2 m2 k2
    exact ⟨xs, y1, by rw [y2.length]; exact Nat.le_refl _⟩
theorem ri_tup {tg : Expr} (ha : RX cl X a ma) : RI cl X tg a (iTp ma) := PI.imp (pi_tup ha) fun σ H R ⟨ρ, env, mem, r, hm, hE, h, q⟩ => by
  unfold iTp at h
  obtain ⟨r1, e1, h⟩ := Option.bind_eq_some_iff.mp h
  obtain ⟨s, e2, h⟩ := Option.map_eq_some_iff.mp h
  subst h
  refine ⟨ρ, env, mem, r1, hm, hE, e1, fun ρ1 v1 H1 x1 m1 p1 => ?_⟩
  unfold tqOf at e2
  split at e2
  · rename_i ps hps
    cases e2
    rw [hps, rep_tup] at p1
    obtain ⟨a, xs, rfl, i1, i2⟩ := p1
    replace i1 := i1.t
    refine ⟨a, rfl, ⟨xs, i1⟩, q ρ1 H1 _ x1 m1 rfl ⟨fun ρ' H' m i p x2 m2 k2 hi => ?_, fun ρ' H' m x2 m2 k2 => ?_⟩⟩
    · obtain ⟨x, y3, y4⟩ := (x2.repL _ _ i2).get hi
      refine ⟨⟨xs, x, x2.tup _ _ i1, y3⟩, fun x' H'' ⟨e, y⟩ => ?_⟩
      subst e
      have := (y xs (x2.tup _ _ i1)).symm.trans y3
      cases this
      exact ⟨.refl, m2, y4⟩
    · exact ⟨xs, x2.tup _ _ i1, by rw [i2.length]; exact Nat.le_refl _⟩
  · cases e2
/-- range(n), range(lo, hi) -/
def rangeP (lo : Int) (n : Nat) : List PV := (List.range n).map fun (i : Nat) => PV.int (lo + i)
def rngG : List PV → Option Sq
  | [.int j] => if -(2 ^ 62) ≤ j ∧ j < 2 ^ 62 then some ⟨rangeP 0 j.toNat, []⟩ else none
  | [.int i, .int j] => if -(2 ^ 62) ≤ i ∧ i < 2 ^ 62 ∧ -(2 ^ 62) ≤ j ∧ j < 2 ^ 62 then some ⟨rangeP i (j - i).toNat, []⟩ else none
  | _ => none
def iRg (a : Ax) : Ix := fun env m => (a env m).bind fun r => (rngG r.1).map (·, r.2)
theorem itr_ok {ρ : List Addr} {H : Hp} {lo : Int} {n : Nat} : ItX X.K cl (Itr lo n) ⟨rangeP lo n, []⟩ ρ H := by
  refine ⟨fun ρ' H' m i p x2 m2 k2 hi => ?_, fun ρ' H' m x2 m2 k2 => ?_⟩
  · unfold rangeP at hi
    simp only [List.getElem?_map, Option.map_eq_some_iff] at hi
    obtain ⟨j, h1, h2⟩ := hi
    obtain ⟨h3, h4⟩ := List.getElem?_eq_some_iff.mp h1
    have h5 : j = i := by rw [← h4]; simp
    have h6 : i < n := by simpa using h3
    subst h5
    refine ⟨h6, fun x H'' ⟨e1, e2⟩ => ?_⟩
    subst e1 e2 h2
    exact ⟨.refl, m2, by rw [Rep]⟩
  · show n ≤ (rangeP lo n).length
    unfold rangeP
    simp
theorem ri_range1 {tg : Expr} (hg : Gl X "range") (hm : X.mg "range" = none) (ha : RX cl X a ma) (hs : starEach [a] X.env = [(false, eval a X.env)] := by rfl) (hs2 : starEach [a] X.env = (false, eval a X.env) :: starEach [] X.env := by rfl) : RI cl X tg (.Call (.Name "range" p) [a] [] pos) (iRg (aCons ma aNil)) :=
  PI.imp (pi_range1 hg hm (ra_cons ha ra_nil hs2) hs) fun σ H R ⟨ρ, env, mem, r, hm, hE, h, q⟩ => by
    unfold iRg at h
    obtain ⟨r1, e1, h⟩ := Option.bind_eq_some_iff.mp h
    obtain ⟨s, e2, h⟩ := Option.map_eq_some_iff.mp h
    subst h
    refine ⟨ρ, env, mem, r1, hm, hE, e1, fun ρ1 vs H1 x1 m1 p1 => ?_⟩
    unfold aCons aNil at e1
    obtain ⟨r2, e3, e1⟩ := Option.bind_eq_some_iff.mp e1
    simp only [Option.bind_some] at e1
    obtain rfl := Option.some.inj e1
    obtain ⟨x, xs, rfl, i1, i2⟩ := p1.inv
    obtain rfl := i2.inv0
    simp only [rngG] at e2
    split at e2
    · rename_i j hj
      obtain ⟨hj, -⟩ := List.cons.inj hj
      rw [hj, rep_int] at i1
      subst i1
      split at e2
      · rename_i hb
        obtain rfl := Option.some.inj e2
        exact ⟨j, rfl, hb.1, hb.2, q ρ1 H1 _ x1 m1 rfl itr_ok⟩
      · cases e2
    · rename_i hj
      cases (List.cons.inj hj).2
    · cases e2
theorem ri_range2 {tg : Expr} (hg : Gl X "range") (hm : X.mg "range" = none) (ha : RX cl X a ma) (hb : RX cl X b mb) (hs : starEach [a, b] X.env = [(false, eval a X.env), (false, eval b X.env)] := by rfl) (hs2 : starEach [b] X.env = [(false, eval b X.env)] := by rfl)
    (hs3 : starEach [a, b] X.env = (false, eval a X.env) :: starEach [b] X.env := by rfl) (hs4 : starEach [b] X.env = (false, eval b X.env) :: starEach [] X.env := by rfl) : RI cl X tg (.Call (.Name "range" p) [a, b] [] pos) (iRg (aCons ma (aCons mb aNil))) :=
  PI.imp (pi_range2 hg hm (ra_cons ha (ra_cons hb ra_nil hs4) hs3) hs hs2) fun σ H R ⟨ρ, env, mem, r, hm, hE, h, q⟩ => by
    unfold iRg at h
    obtain ⟨r1, e1, h⟩ := Option.bind_eq_some_iff.mp h
    obtain ⟨s, e2, h⟩ := Option.map_eq_some_iff.mp h
    subst h
    refine ⟨ρ, env, mem, r1, hm, hE, e1, fun ρ1 vs H1 x1 m1 p1 => ?_⟩
    unfold aCons aNil at e1
    obtain ⟨r2, e3, e1⟩ := Option.bind_eq_some_iff.mp e1
    obtain ⟨r3, e4, e1⟩ := Option.bind_eq_some_iff.mp e1
    obtain ⟨r4, e5, e4⟩ := Option.bind_eq_some_iff.mp e4
    simp only [Option.bind_some] at e4
    obtain rfl := Option.some.inj e4
    obtain rfl := Option.some.inj e1
    obtain ⟨x, xs, rfl, i1, i2⟩ := p1.inv
    obtain ⟨y, ys, rfl, i3, i4⟩ := i2.inv
    obtain rfl := i4.inv0
    simp only [rngG] at e2
    split at e2
    · rename_i hj
      cases (List.cons.inj hj).2
    · rename_i i j hj
      obtain ⟨hj1, hj⟩ := List.cons.inj hj
      obtain ⟨hj2, -⟩ := List.cons.inj hj
      rw [hj1, rep_int] at i1
      rw [hj2, rep_int] at i3
      subst i1 i3
      split at e2
      · rename_i hb
        obtain rfl := Option.some.inj e2
        exact ⟨i, j, rfl, hb, q ρ1 H1 _ x1 m1 rfl itr_ok⟩
      · cases e2
    · cases e2
/-- a text, sign by sign -/
def signsP (z : Str) : List PV := z.cps.toList.map fun c => PV.str ⟨#[c]⟩
def iSt (a : Ex) : Ix := fun env m => (a env m).bind fun r => match r.1 with
  | .str z => some (⟨signsP z, []⟩, r.2)
  | _ => none
theorem ri_str {tg : Expr} (ha : RX cl X a ma) : RI cl X tg a (iSt ma) := PI.imp (pi_str ha) fun σ H R ⟨ρ, env, mem, r, hm, hE, h, q⟩ => by
  unfold iSt at h
  obtain ⟨r1, e1, h⟩ := Option.bind_eq_some_iff.mp h
  refine ⟨ρ, env, mem, r1, hm, hE, e1, fun ρ1 v1 H1 x1 m1 p1 => ?_⟩
  split at h
  · rename_i z hz
    obtain rfl := Option.some.inj h
    rw [hz, rep_str] at p1
    refine ⟨z, p1, q ρ1 H1 _ x1 m1 rfl ⟨fun ρ' H' m i p x2 m2 k2 hi => ?_, fun ρ' H' m x2 m2 k2 => ?_⟩⟩
    · unfold signsP at hi
      simp only [List.getElem?_map, Option.map_eq_some_iff] at hi
      obtain ⟨c, h1, h2⟩ := hi
      have h1' : z.cps[i]? = some c := by rw [← Array.getElem?_toList]; exact h1
      refine ⟨(Array.getElem?_eq_some_iff.mp h1').1, fun x H'' ⟨e, c', y1, y2⟩ => ?_⟩
      subst e
      rw [h1'] at y1
      cases y1
      subst y2 h2
      exact ⟨.refl, m2, by rw [Rep]⟩
    · show z.cps.size ≤ (signsP z).length
      unfold signsP
      simp
  · cases h
/-- zip(xs, ys) of two lists; enumerate(xs) -/
def zipG : List PV → Mem → Option Sq
  | [p, q], m => (sqOf p m).bind fun s => (sqOf q m).map fun t => ⟨(s.items.zip t.items).map fun z => .tup [z.1, z.2], s.guard ++ t.guard⟩
  | _, _ => none
def iZp (a : Ax) : Ix := fun env m => (a env m).bind fun r => (zipG r.1 r.2).map (·, r.2)
theorem okG_append {g h : List (Nat × Ob)} {m : Mem} : okG (g ++ h) m = true ↔ okG g m = true ∧ okG h m = true := by
  unfold okG
  rw [List.all_append, Bool.and_eq_true]
def enP : Nat → List PV → List PV
  | _, [] => []
  | i, p :: ps => .tup [.int i, p] :: enP (i + 1) ps
def enG : List PV → Mem → Option Sq
  | [p], m => (sqOf p m).map fun s => ⟨enP 0 s.items, s.guard⟩
  | _, _ => none
def iEn (a : Ax) : Ix := fun env m => (a env m).bind fun r => (enG r.1 r.2).map (·, r.2)
theorem enP_get : ∀ (ps : List PV) (k i : Nat) (p : PV), (enP k ps)[i]? = some p → ∃ q, ps[i]? = some q ∧ p = .tup [.int ((k + i : Nat) : Int), q]
  | [], _, _, _, h => by simp [enP] at h
  | a :: ps, k, 0, p, h => by
    simp only [enP, List.getElem?_cons_zero, Option.some.injEq] at h
    exact ⟨a, rfl, h.symm⟩
  | a :: ps, k, i + 1, p, h => by
    simp only [enP, List.getElem?_cons_succ] at h
    obtain ⟨q, h1, h2⟩ := enP_get ps (k + 1) i p h
    refine ⟨q, by simpa using h1, ?_⟩
    rw [h2]
    congr 4
    omega
theorem enP_len : ∀ (ps : List PV) (k : Nat), (enP k ps).length = ps.length
  | [], _ => rfl
  | a :: ps, k => by simp [enP, enP_len ps]
/-! ### for -/
def forL (g : Gx) (body : Sx) (gd : List (Nat × Ob)) : List PV → Env → Mem → Option (Fl × Env × Mem)
  | [], env, m => some (.nx, env, m)
  | p :: ps, env, m => (g p env m).bind fun r => (body r.1 r.2).bind fun s => match s.1 with
    | .nx => if okG gd s.2.2 = true then forL g body gd ps s.2.1 s.2.2 else none
    | .ct => if okG gd s.2.2 = true then forL g body gd ps s.2.1 s.2.2 else none
    | .bk => some (.nx, s.2)
    | .rt _ => some s
def sFor (it : Ix) (g : Gx) (body : Sx) : Sx := fun env m => (it env m).bind fun r => if okG r.1.guard r.2 = true then forL g body r.1.guard r.1.items env r.2 else none
theorem rs_for {tg iter : Expr} {mi : Ix} {g : Gx} (hp : PassesOwn (model X.prog X.w) X.A X.env X.xe) (hc : X.calm = true) (hi : RI cl X tg iter mi) (hg : RG cl X tg g) (hb : RSs cl X sts sb)
    (hs : ∀ x, foldedSetIterable iter X.env x = pure x := by intro _; rfl) : RS cl X (.For tg iter sts [] pos) (sFor mi g sb) := PS.imp (ps_for hp hc hi hg hb hs) fun D σ H ⟨ρ, env, mem, r, hm, hE, h, q⟩ => by
  unfold sFor at h
  obtain ⟨r1, e1, h⟩ := Option.bind_eq_some_iff.mp h
  split at h
  · refine ⟨ρ, env, mem, r1, hm, hE, e1, fun ρ1 H1 J x1 m1 k1 IJ => ?_⟩
    have q1 := q.ext x1
    refine ⟨fun i n σ' H' => n = r1.1.items.length - i ∧ i ≤ r1.1.items.length ∧ ∃ ρ' env' m', Ext X.K ρ1 H1 ρ' H' ∧ RelM X.K cl ρ' H' m' ∧ RelE X.K ρ' H' σ' env' ∧ okG r1.1.guard m' = true ∧ forL g sb r1.1.guard (r1.1.items.drop i) env' m' = some r,
      ⟨_, rfl, Nat.zero_le _, ρ1, env, r1.2, .refl, m1, hE.ext x1, k1, h⟩, ?_⟩
    rintro i n σ' H' ⟨rfl, hi, ρ', env', m', x2, m2, E2, k2, hf⟩
    by_cases hlt : i < r1.1.items.length
    · have hd : r1.1.items.drop i = r1.1.items[i] :: r1.1.items.drop (i + 1) := List.drop_eq_getElem_cons hlt
      rw [hd] at hf
      unfold forL at hf
      obtain ⟨r2, e2, hf⟩ := Option.bind_eq_some_iff.mp hf
      obtain ⟨r3, e3, hf⟩ := Option.bind_eq_some_iff.mp hf
      obtain ⟨g1, g2⟩ := IJ.go ρ' H' m' i r1.1.items[i] x2 m2 k2 (List.getElem?_eq_getElem hlt)
      refine .inr ⟨g1, fun σ'' H'' => i + 1 ≤ r1.1.items.length ∧ ∃ ρ' env' m', Ext X.K ρ1 H1 ρ' H'' ∧ RelM X.K cl ρ' H'' m' ∧ RelE X.K ρ' H'' σ'' env' ∧ okG r1.1.guard m' = true ∧ forL g sb r1.1.guard (r1.1.items.drop (i + 1)) env' m' = some r,
        fun σ'' H'' hN => ⟨_, by omega, rfl, hN⟩, fun x H'' hy => ?_⟩
      obtain ⟨y1, y2, y3⟩ := g2 x H'' hy
      refine ⟨ρ', _, env', m', r2, y2, E2.ext y1, y3, e2, fun ρ3 σ3 H3 x3 m3 E3 => ⟨ρ3, r2.1, r2.2, r3, m3, E3, e3, fun ρ4 σ4 H4 x4 m4 E4 => ?_⟩⟩
      have xx := x2.trans (y1.trans (x3.trans x4))
      obtain ⟨f, env4, mem4⟩ := r3
      cases f with
      | nx =>
        simp only at hf
        split at hf
        · rename_i k4
          exact ⟨hlt, ρ4, env4, mem4, xx, m4, E4, k4, hf⟩
        · cases hf
      | ct =>
        simp only at hf
        split at hf
        · rename_i k4
          exact ⟨hlt, ρ4, env4, mem4, xx, m4, E4, k4, hf⟩
        · cases hf
      | bk =>
        obtain rfl := Option.some.inj hf
        exact q1 ρ4 σ4 H4 xx m4 E4
      | rt v =>
        obtain rfl := Option.some.inj hf
        exact q1 ρ4 σ4 H4 xx m4 E4
    · have e : i = r1.1.items.length := by omega
      subst e
      rw [List.drop_length] at hf
      obtain rfl := Option.some.inj hf
      exact .inl ⟨IJ.stop ρ' H' m' x2 m2 k2, q1 ρ' σ' H' x2 m2 E2⟩
  · cases h
/-! ### while -/
def whl (t : Tx) (body : Sx) : Nat → Env → Mem → Option (Fl × Env × Mem)
  | 0, _, _ => none
  | n + 1, env, m => (t env m).bind fun r => if r.1 = true then (body env r.2).bind fun s => match s.1 with
    | .nx => whl t body n s.2.1 s.2.2
    | .ct => whl t body n s.2.1 s.2.2
    | .bk => some (.nx, s.2)
    | .rt _ => some s
    else some (.nx, env, r.2)
def sWh (n : Nat) (t : Tx) (body : Sx) : Sx := fun env m => whl t body n env m
theorem rs_while {n : Nat} {tc : Tx} (hp : PassesOwn (model X.prog X.w) X.A X.env X.xe) (hc : RT cl X c tc) (hb : RSs cl X sts sb) : RS cl X (.While c sts [] pos) (sWh n tc sb) := PS.imp (ps_while hp hc hb) fun D σ H ⟨ρ, env, mem, r, hm, hE, h, q⟩ => by
  refine ⟨fun n σ' H' => ∃ ρ' env' m', Ext X.K ρ H ρ' H' ∧ RelM X.K cl ρ' H' m' ∧ RelE X.K ρ' H' σ' env' ∧ whl tc sb n env' m' = some r, ⟨n, ρ, env, mem, .refl, hm, hE, h⟩, ?_⟩
  rintro n σ' H' ⟨ρ', env', m', x2, m2, E2, hf⟩
  cases n with
  | zero => cases hf
  | succ n =>
    unfold whl at hf
    obtain ⟨r1, e1, hf⟩ := Option.bind_eq_some_iff.mp hf
    refine ⟨ρ', env', m', r1, m2, E2, e1, fun ρ1 H1 x1 m1 => ?_⟩
    split at hf
    · rename_i z
      rw [if_pos z]
      obtain ⟨r3, e3, hf⟩ := Option.bind_eq_some_iff.mp hf
      refine ⟨fun σ'' H'' => ∃ ρ' env' m', Ext X.K ρ H ρ' H'' ∧ RelM X.K cl ρ' H'' m' ∧ RelE X.K ρ' H'' σ'' env' ∧ whl tc sb n env' m' = some r, fun σ'' H'' hN => ⟨n, by omega, hN⟩, ρ1, env', r1.2, r3, m1, E2.ext x1, e3, fun ρ4 σ4 H4 x4 m4 E4 => ?_⟩
      have xx := x2.trans (x1.trans x4)
      obtain ⟨f, env4, mem4⟩ := r3
      cases f with
      | nx => exact ⟨ρ4, env4, mem4, xx, m4, E4, hf⟩
      | ct => exact ⟨ρ4, env4, mem4, xx, m4, E4, hf⟩
      | bk =>
        obtain rfl := Option.some.inj hf
        exact (q.ext xx) ρ4 σ4 H4 .refl m4 E4
      | rt v =>
        obtain rfl := Option.some.inj hf
        exact (q.ext xx) ρ4 σ4 H4 .refl m4 E4
    · rename_i z
      rw [if_neg z]
      obtain rfl := Option.some.inj hf
      exact (q.ext x2) ρ1 σ' H1 x1 m1 (E2.ext x1)
end
end Rf
end

section
set_option Elab.async false
set_option linter.all false
set_option maxRecDepth 100000
set_option autoImplicit false
namespace Rf
open PySem PySem.Spec L2
section
variable {X : Cx} {cl : Nat → Addr}
variable {a b c e o : Expr} {es : List Expr} {pos p apos pos' cpos : Pos} {ma mb mc me mo mi : Ex} {x f : Str} {mA : Ax}
variable {st : Stmt} {sts : List Stmt} {sa sb : Sx}

/-! ### a list unpacked -/
def gUl (n : Nat) (g : Gxs) : Gx := fun p env m => match p with
  | .ref r => match m[r]? with
    | some (.lst ps) => if ps.length = n then g ps env m else none
    | _ => none
  | _ => none
theorem rg_unl {k n : Nat} {gs : Gxs} (hc : X.calm = true) (h : RGs cl X es gs) (hn : (assignEach es X.env).length = n := by rfl) (hst : (assignEach es X.env).findIdx? (·.1) = none := by rfl) : RG cl X (.Tuple es k pos) (gUl n gs) :=
  PG.imp (pg_unl hc h hn hst) fun v σ H Q ⟨ρ, p, env, mem, r, hm, hE, hp, h, q⟩ => by
    unfold gUl at h
    split at h
    · rename_i i
      rw [rep_ref] at hp
      obtain ⟨a, ha, rfl⟩ := hp
      split at h
      · rename_i ps e
        split at h
        · rename_i hl
          obtain ⟨xs, s1, s2⟩ := sq_of hm ha (.inl e)
          exact ⟨a, xs, rfl, s1, by rw [s2.length, hl], ρ, _, env, mem, r, hm, hE, s2, h, q⟩
        · cases h
      · cases h
    · cases h

/-! ### comprehensions: one name, one clause -/
def wipeE (env : Env) : List Nat → Env
  | [] => env
  | v :: vs => (wipeE env vs).set v none
theorem RelE.wipe {K ρ H σ env} (h : RelE K ρ H σ env) : ∀ vs : List Nat, RelE K ρ H (wipe σ vs) (wipeE env vs)
  | [] => h
  | v :: vs => (h.wipe vs).wipe1 v
theorem wipe_at (σ : L2.St) : ∀ (vs : List Nat) (i : Nat), i ∈ vs → i < σ.length → (wipe σ vs)[i]? = some none
  | [], i, h, _ => by cases h
  | v :: vs, i, h, hl => by
    unfold wipe
    by_cases e : i = v
    · subst e
      rw [List.getElem?_set_self (by rw [wipe_length]; exact hl)]
    · rw [List.getElem?_set_ne (Ne.symm e)]
      exact wipe_at σ vs i ((List.mem_cons.mp h).resolve_left e) hl
theorem wipe_idem (σ : L2.St) : ∀ vs ws : List Nat, (∀ v ∈ vs, v ∈ ws) → wipe (wipe σ ws) vs = wipe σ ws
  | [], _, _ => rfl
  | v :: vs, ws, h => by
    show (wipe (wipe σ ws) vs).set v none = wipe σ ws
    rw [wipe_idem σ vs ws fun u hu => h u (List.mem_cons_of_mem _ hu)]
    apply List.ext_getElem?
    intro i
    by_cases e : i = v
    · subst e
      by_cases hl : i < σ.length
      · rw [List.getElem?_set_self (by rw [wipe_length]; exact hl), wipe_at σ ws i (h i List.mem_cons_self) hl]
      · rw [List.getElem?_eq_none (by rw [List.length_set, wipe_length]; omega), List.getElem?_eq_none (by rw [wipe_length]; omega)]
    · rw [List.getElem?_set_ne (Ne.symm e)]
theorem set_wipe (σ : L2.St) (y : Option V) : ∀ (vs : List Nat) (i : Nat), i ∈ vs → wipe (σ.set i y) vs = wipe σ vs
  | [], i, h => by cases h
  | v :: vs, i, h => by
    unfold wipe
    by_cases hi : i ∈ vs
    · rw [set_wipe σ y vs i hi]
    · have e : i = v := (List.mem_cons.mp h).resolve_right hi
      subst e
      have : wipe (σ.set i y) vs = (wipe σ vs).set i y := by
        clear h
        induction vs with
        | nil => rfl
        | cons w ws ih =>
          have hne : i ≠ w := fun z => hi (z ▸ List.mem_cons_self)
          have := ih fun z => hi (List.mem_cons_of_mem _ z)
          show (wipe (σ.set i y) ws).set w none = ((wipe σ ws).set w none).set i y
          rw [this, List.set_comm _ _ hne]
      rw [this, List.set_set]
def lcL (i : Nat) (tt : Tx) (te : Ex) (gd : List (Nat × Ob)) (D : Nat) (env : Env) : List PV → Mem → List PV → Option (List PV × Mem)
  | [], m, acc => some (acc, m)
  | p :: ps, m, acc => (tt (env.set i (some p)) m).bind fun r => if r.1 = true then (te (env.set i (some p)) r.2).bind fun s =>
      if okG gd s.2 = true ∧ s.2[D]? = some (.lst acc) ∧ acc.length < sizeLine then lcL i tt te gd D env ps (s.2.set D (.lst (acc ++ [s.1]))) (acc ++ [s.1]) else none
    else if okG gd r.2 = true ∧ r.2[D]? = some (.lst acc) then lcL i tt te gd D env ps r.2 acc else none
def xLc (vs : List Nat) (it : Ix) (i : Nat) (tt : Tx) (te : Ex) : Ex := fun env m => (it env m).bind fun r => if okG r.1.guard r.2 = true ∧ (∀ g ∈ r.1.guard, g.1 < r.2.length) then
    (lcL i tt te r.1.guard r.2.length (wipeE env vs) r.1.items (r.2 ++ [.lst []]) []).bind fun s => some (.ref r.2.length, s.2) else none
def tYs : Tx := fun _ m => some (true, m)
theorem okG_app {gd : List (Nat × Ob)} {m : Mem} {o : Ob} (h : okG gd m = true) : okG gd (m ++ [o]) = true := by
  unfold okG at h ⊢
  rw [List.all_eq_true] at h ⊢
  intro q hq
  have := of_decide_eq_true (h q hq)
  refine decide_eq_true ?_
  rw [List.getElem?_append_left (List.getElem?_eq_some_iff.mp this).1]
  exact this
theorem okG_set {gd : List (Nat × Ob)} {m : Mem} {o : Ob} {D : Nat} (h : okG gd m = true) (hD : ∀ g ∈ gd, g.1 < D) : okG gd (m.set D o) = true := by
  unfold okG at h ⊢
  rw [List.all_eq_true] at h ⊢
  intro q hq
  have := of_decide_eq_true (h q hq)
  refine decide_eq_true ?_
  rw [List.getElem?_set_ne (Nat.ne_of_gt (hD q hq))]
  exact this
/-- the reading of a comprehension -/
theorem tLc_of {vs : List Nat} {i : Nat} {mi : Ix} {tt : Tx} {te : Ex} {σ H Q} (hi : i ∈ vs) (h : TX X.K cl (xLc vs mi i tt te) σ H Q) : tLc (TIX X.K cl mi) (gName i) (TTX X.K cl tt) (TX X.K cl te) vs σ H Q := by
  obtain ⟨ρ, env, mem, r, hm, hE, h, q⟩ := h
  unfold xLc at h
  obtain ⟨r1, e1, h⟩ := Option.bind_eq_some_iff.mp h
  split at h
  · rename_i hk
    obtain ⟨hk, hlow⟩ := hk
    obtain ⟨r2, e2, h⟩ := Option.bind_eq_some_iff.mp h
    obtain rfl := Option.some.inj h
    refine ⟨ρ, env, mem, r1, hm, hE, e1, fun ρ1 H1 J x1 m1 k1 IJ D hD => ?_⟩
    obtain ⟨z1, z2, z3⟩ := new_lst m1 RepL.nil hD
    have q1 := q.ext (x1.trans z1)
    have ED : (ρ1 ++ [D])[r1.2.length]? = some D := by rw [← m1.len]; simp
    refine ⟨fun j n H' => n = r1.1.items.length - j ∧ j ≤ r1.1.items.length ∧ ∃ ρ' m' acc, Ext X.K (ρ1 ++ [D]) (upd H1 D (.lst [])) ρ' H' ∧ RelM X.K cl ρ' H' m' ∧ okG r1.1.guard m' = true ∧ m'[r1.2.length]? = some (.lst acc) ∧ lcL i tt te r1.1.guard r1.2.length (wipeE env vs) (r1.1.items.drop j) m' acc = some r2,
      ⟨_, rfl, Nat.zero_le _, ρ1 ++ [D], r1.2 ++ [.lst []], [], .refl, z2, okG_app hk, by simp, by rw [List.drop_zero]; exact e2⟩, ?_⟩
    rintro j n H' ⟨rfl, hj, ρ', m', acc, x2, m2, k2, hacc, hf⟩
    by_cases hlt : j < r1.1.items.length
    · have hd : r1.1.items.drop j = r1.1.items[j] :: r1.1.items.drop (j + 1) := List.drop_eq_getElem_cons hlt
      rw [hd] at hf
      unfold lcL at hf
      obtain ⟨r3, e3, hf⟩ := Option.bind_eq_some_iff.mp hf
      obtain ⟨g1, g2⟩ := (IJ.ext z1).go ρ' H' m' j r1.1.items[j] x2 m2 k2 (List.getElem?_eq_getElem hlt)
      refine .inr ⟨g1, fun H'' => j + 1 ≤ r1.1.items.length ∧ ∃ ρ' m' acc, Ext X.K (ρ1 ++ [D]) (upd H1 D (.lst [])) ρ' H'' ∧ RelM X.K cl ρ' H'' m' ∧ okG r1.1.guard m' = true ∧ m'[r1.2.length]? = some (.lst acc) ∧ lcL i tt te r1.1.guard r1.2.length (wipeE env vs) (r1.1.items.drop (j + 1)) m' acc = some r2,
        fun H'' hN => ⟨_, by omega, rfl, hN⟩, fun y H'' hy => ?_⟩
      obtain ⟨y1, y2, y3⟩ := g2 y H'' hy
      have xy := (x1.trans z1).trans (x2.trans y1)
      refine ⟨by rw [set_wipe _ _ _ _ hi, wipe_idem σ vs vs fun _ h => h], ρ', (wipeE env vs).set i (some r1.1.items[j]), m', r3, y2, ((hE.wipe vs).ext xy).set i y3, e3, fun ρ3 H3 x3 m3 => ?_⟩
      split at hf
      · rename_i hb
        rw [if_pos hb]
        obtain ⟨r4, e4, hf⟩ := Option.bind_eq_some_iff.mp hf
        refine ⟨ρ3, _, r3.2, r4, m3, (((hE.wipe vs).ext xy).set i y3).ext x3, e4, fun ρ4 v4 H4 x4 m4 p4 => ?_⟩
        split at hf
        · rename_i hg
          obtain ⟨k4, a4, l4⟩ := hg
          have xx := (x2.trans y1).trans (x3.trans x4)
          have ha := xx.at ED
          obtain ⟨as, s1, s2⟩ := m4.ok _ _ _ ha a4
          have x5 : Ext X.K ρ4 H4 ρ4 (upd H4 D (.lst (as ++ [v4]))) := ext_set m4 ha a4 rfl
          refine ⟨as, s1, by rw [s2.length]; exact l4, hlt, ρ4, _, _, xx.trans x5, m4.set (o' := .lst (acc ++ [r4.1])) ha a4 rfl rfl ⟨_, upd_same, (x5.repL _ _ s2).append (.one (x5.rep _ _ p4))⟩, okG_set k4 hlow, ?_, hf⟩
          rw [List.getElem?_set_self (List.getElem?_eq_some_iff.mp a4).1]
        · cases hf
      · rename_i hb
        rw [if_neg hb]
        split at hf
        · rename_i hg
          exact ⟨hlt, ρ3, r3.2, acc, (x2.trans y1).trans x3, m3, hg.1, hg.2, hf⟩
        · cases hf
    · have e : j = r1.1.items.length := by omega
      subst e
      rw [List.drop_length] at hf
      obtain rfl := Option.some.inj hf
      refine .inl ⟨(IJ.ext z1).stop ρ' H' m' x2 m2 k2, q1 ρ' _ H' x2 m2 ?_⟩
      rw [rep_ref]
      exact ⟨D, x2.at ED, rfl⟩
  · cases h
abbrev RTs (cl : Nat → Addr) (X : Cx) (e : List Expr) (m : Tx) : Prop := PTs X e (TTX X.K cl m)
theorem PTs.imp {X : Cx} {e : List Expr} {t t' : TT} (h : PTs X e t) (hi : ∀ σ H Q, t' σ H Q → t σ H Q) : PTs X e t' := ⟨fun pins s σ H Q I q => h.run pins s σ H Q I (hi _ _ _ q)⟩
theorem rts_nil {X : Cx} : RTs cl X [] tYs := PTs.imp pts_nil fun σ H Q ⟨ρ, env, mem, r, hm, hE, h, q⟩ => by
  obtain rfl := Option.some.inj h
  exact q ρ H .refl hm
theorem rts_one {X : Cx} {tc : Tx} (h : RT cl X c tc) : RTs cl X [c] tc := pts_one h
theorem rx_lc {elt iter : Expr} {ifs : List Expr} {scope : Scope} {own : List (Str × Nat)} {i : Nat} {tg : Expr} {mi : Ix} {tt : Tx} {te : Ex} (hc : X.calm = true) (hN : X.N.Nodup) (hi : RI cl X tg iter mi) (ok : BlkOk X.N X.env.scope scope own) (hin : i ∈ own.map (·.2))
    (hg : ∀ (s : Shared) (H : Hp) (C : Addr) (cl : List (Str × Addr)) (fp : List Addr), PG (X.blk s H scope (compEnvC scope cl C X.env) fp) tg (gName i)) (ht : ∀ (s : Shared) (H : Hp) (C : Addr) (cl' : List (Str × Addr)) (fp : List Addr), RTs cl (X.blk s H scope (compEnvC scope cl' C X.env) fp) ifs tt)
    (he : ∀ (s : Shared) (H : Hp) (C : Addr) (cl' : List (Str × Addr)) (fp : List Addr), RX cl (X.blk s H scope (compEnvC scope cl' C X.env) fp) elt te) (hs : ∀ x, foldedSetIterable iter X.env x = pure x := by intro _; rfl) :
    RX cl X (.ListComp elt [⟨tg, iter, ifs, 0⟩] scope pos) (xLc (own.map (·.2)) mi i tt te) := PE.imp (pe_lc hc hN hi ok hg ht he hs) fun _ _ _ h => tLc_of hin h
theorem rs_setLc {j : Nat} {y : Str} {py spos : Pos} {elt iter : Expr} {ifs : List Expr} {scope : Scope} {own : List (Str × Nat)} {i : Nat} {tg : Expr} {mi : Ix} {tt : Tx} {te : Ex} (hc : X.calm = true) (hN : X.N.Nodup) (hy : X.N[j]? = some y) (hyl : X.env.scope.names.lookup y = some .local)
    (hsw : swapsWith (.ListComp elt [⟨tg, iter, ifs, 0⟩] scope pos) (some (.Name y py)) spos.line X.env = pure true) (hi : RI cl X tg iter mi) (ok : BlkOk X.N X.env.scope scope own) (hin : i ∈ own.map (·.2))
    (hg : ∀ (s : Shared) (H : Hp) (C : Addr) (cl : List (Str × Addr)) (fp : List Addr), PG (X.blk s H scope (compEnvC scope cl C X.env) fp) tg (gName i)) (ht : ∀ (s : Shared) (H : Hp) (C : Addr) (cl' : List (Str × Addr)) (fp : List Addr), RTs cl (X.blk s H scope (compEnvC scope cl' C X.env) fp) ifs tt)
    (he : ∀ (s : Shared) (H : Hp) (C : Addr) (cl' : List (Str × Addr)) (fp : List Addr), RX cl (X.blk s H scope (compEnvC scope cl' C X.env) fp) elt te) (hs : ∀ x, foldedSetIterable iter X.env x = pure x := by intro _; rfl) :
    RS cl X (.Assign [.Name y py] (.ListComp elt [⟨tg, iter, ifs, 0⟩] scope pos) spos) (sAs (xLc (own.map (·.2)) mi i tt te) (gNm j)) := PS.imp (ps_setLc hc hN hy hyl hsw hi ok hg ht he hs) fun D σ H h => by
  obtain ⟨ρ, env, mem, r, hm, hE, h, q⟩ := tAs_of h
  refine tLc_of hin ⟨ρ, env, mem, r, hm, hE, h, fun ρ1 v1 H1 x1 m1 p1 => ?_⟩
  obtain ⟨ρ2, p, env2, mem2, r2, n1, n2, n3, n4, n5⟩ := q ρ1 v1 H1 x1 m1 p1
  obtain rfl := Option.some.inj n4
  exact n5 ρ2 _ H1 .refl n1 (n2.set j n3)
end
end Rf
end

section
set_option Elab.async false
set_option linter.all false
set_option maxRecDepth 100000
set_option autoImplicit false
namespace Rf
open PySem PySem.Spec L2
section
variable {X : Cx} {cl : Nat → Addr}

/-! ### operators by values -/
def addG : PV → PV → Mem → Option (PV × Mem)
  | .int i, .int j, m => some (.int (i + j), m)
  | .str s, .str t, m => if s.length + t.length ≤ sizeLine then some (.str (s ++ t), m) else none
  | .tup s, .tup t, m => if s.length + t.length ≤ sizeLine then some (.tup (s ++ t), m) else none
  | .ref i, .ref j, m => match m[i]?, m[j]? with
    | some (.lst s), some (.lst t) => if s.length + t.length ≤ sizeLine then some (.ref m.length, m ++ [.lst (s ++ t)]) else none
    | _, _ => none
  | _, _, _ => none
def rCatP (K : PySem.W.Frag) : R2 := fun x y H Q => ∃ a b xs ys, x = .ref a ∧ y = .ref b ∧ SqT K H a xs ∧ SqT K H b ys ∧ xs.length + ys.length ≤ sizeLine ∧
  (xs = [] → Q (.ref b) H) ∧ (xs ≠ [] → ys = [] → Q (.ref a) H) ∧ (xs ≠ [] → ys ≠ [] → ∀ (p : Addr) (ob : Obj), ob.dict = none → H p = none → Q (.ref p) (upd H p (.frz ob (.tup (xs ++ ys)))))
theorem op_catP : OpR X (binaryOp .Add) (rCatP X.K) := by
  intro pins s σ H x y v u Q I rx ry h
  obtain ⟨a, b, xs, ys, rfl, rfl, ha, hb, hz, q0, q1, q2⟩ := h
  by_cases hx : xs = []
  · exact op_catA pins s σ H _ _ v u Q I rx ry ⟨a, b, xs, ys, rfl, rfl, ha, hb, hz, q0, q1, fun n => absurd hx n⟩
  · cases rx
    cases ry
    obtain ⟨its, r1, p1, _⟩ := I.tuple ha
    obtain ⟨its2, r2, p2, _⟩ := I.tuple hb
    refine HT.cat_tup p1 p2 (fun z => hx (r1.nil_iff.mp z)) (fun z => ⟨.ref a, H, I, rfl, q1 hx (r2.nil_iff.mp z)⟩) (fun z => ?_) (by rw [← r1.length, ← r2.length]; exact hz)
    exact laid_tup I (by rw [List.length_append]; exact hz) (r1.append r2) (q2 hx (fun w => z (r2.nil_iff.mpr w)))
theorem ox_add : OpR X (binaryOp .Add) (G2 X.K cl addG) := by
  intro pins s σ H x y v u Q I rx ry ⟨ρ, p, q, mem, r, hm, hp, hq, h, k⟩
  cases p with
  | int i =>
    cases q with
    | int j =>
      obtain rfl := Option.some.inj h
      rw [rep_int] at hp hq
      exact op_add pins s σ H x y v u Q I rx ry ⟨i, j, hp, hq, k ρ _ H .refl hm (by rw [Rep])⟩
    | _ => cases h
  | str i =>
    cases q with
    | str j =>
      rw [rep_str] at hp hq
      simp only [addG] at h
      split at h
      · rename_i hz
        obtain rfl := Option.some.inj h
        exact op_add_str pins s σ H x y v u Q I rx ry ⟨i, j, hp, hq, hz, k ρ _ H .refl hm (by rw [Rep])⟩
      · cases h
    | _ => cases h
  | tup i =>
    cases q with
    | tup j =>
      rw [rep_tup] at hp hq
      obtain ⟨a, xs, rfl, h1, h2⟩ := hp
      obtain ⟨b, ys, rfl, h3, h4⟩ := hq
      simp only [addG] at h
      split at h
      · rename_i hz
        obtain rfl := Option.some.inj h
        refine op_catP pins s σ H _ _ v u Q I rx ry ⟨a, b, xs, ys, rfl, rfl, h1.t, h3.t, by rw [h2.length, h4.length]; exact hz, fun e => ?_, fun _ e => ?_, fun _ _ p ob hob hp => ?_⟩
        · subst e
          have : i = [] := by have := h2.length; cases i with | nil => rfl | cons _ _ => cases this
          subst this
          exact k ρ _ H .refl hm (by rw [rep_tup]; exact ⟨b, ys, rfl, h3, h4⟩)
        · subst e
          have : j = [] := by have := h4.length; cases j with | nil => rfl | cons _ _ => cases this
          subst this
          rw [List.append_nil] at k
          exact k ρ _ H .refl hm (by rw [rep_tup]; exact ⟨a, xs, rfl, h1, h2⟩)
        · obtain ⟨z1, z2, z3⟩ := new_tup hob hm (h2.append h4) hp
          exact k _ _ _ z1 z2 z3
      · cases h
    | _ => cases h
  | ref i =>
    cases q with
    | ref j =>
      rw [rep_ref] at hp hq
      obtain ⟨a, ha, rfl⟩ := hp
      obtain ⟨b, hb, rfl⟩ := hq
      simp only [addG] at h
      split at h
      · rename_i ss ts e1 e2
        split at h
        · rename_i hz
          obtain rfl := Option.some.inj h
          obtain ⟨xs, z1, z2⟩ := hm.ok i a _ ha e1
          obtain ⟨ys, z3, z4⟩ := hm.ok j b _ hb e2
          refine op_cat pins s σ H _ _ v u Q I rx ry ⟨a, b, xs, ys, rfl, rfl, z1, z3, by rw [z2.length, z4.length]; exact hz, fun p hp => ?_⟩
          obtain ⟨y1, y2, y3⟩ := new_lst hm (z2.append z4) hp
          exact k _ _ _ y1 y2 y3
        · cases h
      · cases h
    | _ => cases h
  | _ => cases h
def subG : PV → PV → Mem → Option (PV × Mem)
  | .int i, .int j, m => some (.int (i - j), m)
  | _, _, _ => none
def mulG : PV → PV → Mem → Option (PV × Mem)
  | .int i, .int j, m => if (-(2 ^ 64) < i ∧ i < 2 ^ 64) ∨ (-(2 ^ 64) < j ∧ j < 2 ^ 64) then some (.int (i * j), m) else none
  | .ref i, .int k, m => match m[i]? with
    | some (.lst s) => if -(2 ^ 63) ≤ k ∧ k < 2 ^ 63 ∧ s.length * k.toNat ≤ sizeLine then some (.ref m.length, m ++ [.lst (List.replicate k.toNat s).flatten]) else none
    | _ => none
  | _, _, _ => none
def divG : PV → PV → Mem → Option (PV × Mem)
  | .int i, .int j, m => if 0 < j ∧ j < 18446744073709551616 then some (.int (i / j), m) else none
  | _, _, _ => none
def modG : PV → PV → Mem → Option (PV × Mem)
  | .int i, .int j, m => if 0 < j then some (.int (i % j), m) else none
  | _, _, _ => none
def powG : PV → PV → Mem → Option (PV × Mem)
  | .int i, .int j, m => if 0 ≤ j ∧ j ≤ 1000 ∧ i.natAbs < 2 ^ 64 then some (.int (i ^ j.toNat), m) else none
  | _, _, _ => none
def andG : PV → PV → Mem → Option (PV × Mem)
  | .int i, .int j, m => some (.int (Builtin.bitAnd i j), m)
  | _, _, _ => none
theorem ox_sub : OpR X (binaryOp .Sub) (G2 X.K cl subG) := by
  intro pins s σ H x y v u Q I rx ry ⟨ρ, p, q, mem, r, hm, hp, hq, h, k⟩
  unfold subG at h
  split at h
  · obtain rfl := Option.some.inj h
    rw [rep_int] at hp hq
    exact op_sub pins s σ H x y v u Q I rx ry ⟨_, _, hp, hq, k ρ _ H .refl hm (by rw [Rep])⟩
  · cases h
theorem RepL.rep {K ρ H ps xs} (h : RepL K ρ H ps xs) : ∀ k : Nat, RepL K ρ H (List.replicate k ps).flatten (List.replicate k xs).flatten
  | 0 => .nil
  | k + 1 => by
    rw [List.replicate_succ, List.replicate_succ, List.flatten_cons, List.flatten_cons]
    exact h.append (RepL.rep h k)
theorem ox_mul : OpR X (binaryOp .Mult) (G2 X.K cl mulG) := by
  intro pins s σ H x y v u Q I rx ry ⟨ρ, p, q, mem, r, hm, hp, hq, h, k⟩
  cases p with
  | int i =>
    cases q with
    | int j =>
      rw [rep_int] at hp hq
      simp only [mulG] at h
      split at h
      · rename_i hz
        obtain rfl := Option.some.inj h
        exact op_mul pins s σ H x y v u Q I rx ry ⟨_, _, hp, hq, hz, k ρ _ H .refl hm (by rw [Rep])⟩
      · cases h
    | _ => cases h
  | ref i =>
    cases q with
    | int j =>
      rw [rep_ref] at hp
      rw [rep_int] at hq
      obtain ⟨a, ha, rfl⟩ := hp
      simp only [mulG] at h
      split at h
      · rename_i ss e1
        split at h
        · rename_i hz
          obtain rfl := Option.some.inj h
          obtain ⟨xs, z1, z2⟩ := hm.ok i a _ ha e1
          refine op_rep pins s σ H _ _ v u Q I rx ry ⟨a, j, xs, rfl, hq, z1, hz.1, hz.2.1, by rw [z2.length]; exact hz.2.2, fun p hp => ?_⟩
          obtain ⟨y1, y2, y3⟩ := new_lst hm (z2.rep j.toNat) hp
          exact k _ _ _ y1 y2 y3
        · cases h
      · cases h
    | _ => cases h
  | _ => cases h
theorem ox_div : OpR X (binaryOp .FloorDiv) (G2 X.K cl divG) := by
  intro pins s σ H x y v u Q I rx ry ⟨ρ, p, q, mem, r, hm, hp, hq, h, k⟩
  unfold divG at h
  split at h
  · rename_i i j
    split at h
    · rename_i hz
      obtain rfl := Option.some.inj h
      rw [rep_int] at hp hq
      exact op_fdivW pins s σ H x y v u Q I rx ry ⟨_, _, hp, hq, wide_div (b := 64) hz.1 (by have := hz.2; omega) (by decide) (by decide), k ρ _ H .refl hm (by rw [Rep])⟩
    · cases h
  · cases h
theorem ox_mod : OpR X (binaryOp .Mod) (G2 X.K cl modG) := by
  intro pins s σ H x y v u Q I rx ry ⟨ρ, p, q, mem, r, hm, hp, hq, h, k⟩
  unfold modG at h
  split at h
  · split at h
    · rename_i hz
      obtain rfl := Option.some.inj h
      rw [rep_int] at hp hq
      exact op_mod pins s σ H x y v u Q I rx ry ⟨_, _, hp, hq, hz, k ρ _ H .refl hm (by rw [Rep])⟩
    · cases h
  · cases h
theorem ox_pow : OpR X (binaryOp .Pow) (G2 X.K cl powG) := by
  intro pins s σ H x y v u Q I rx ry ⟨ρ, p, q, mem, r, hm, hp, hq, h, k⟩
  unfold powG at h
  split at h
  · split at h
    · rename_i hz
      obtain rfl := Option.some.inj h
      rw [rep_int] at hp hq
      exact op_pow pins s σ H x y v u Q I rx ry ⟨_, _, hp, hq, ⟨hz.1, by have := hz.2.1; omega, hz.2.2⟩, k ρ _ H .refl hm (by rw [Rep])⟩
    · cases h
  · cases h
theorem ox_and : OpR X (binaryOp .BitAnd) (G2 X.K cl andG) := by
  intro pins s σ H x y v u Q I rx ry ⟨ρ, p, q, mem, r, hm, hp, hq, h, k⟩
  unfold andG at h
  split at h
  · obtain rfl := Option.some.inj h
    rw [rep_int] at hp hq
    exact op_and pins s σ H x y v u Q I rx ry ⟨_, _, hp, hq, k ρ _ H .refl hm (by rw [Rep])⟩
  · cases h
def negG : PV → Mem → Option (PV × Mem)
  | .int i, m => some (.int (-i), m)
  | _, _ => none
theorem ox_neg : UnR X (unaryOp .USub) (G1 X.K cl negG) := by
  intro pins s σ H x v Q I rx ⟨ρ, p, mem, r, hm, hp, h, k⟩
  unfold negG at h
  split at h
  · obtain rfl := Option.some.inj h
    rw [rep_int] at hp
    exact un_neg pins s σ H x v Q I rx ⟨_, hp, k ρ _ H .refl hm (by rw [Rep])⟩
  · cases h
/-! comparisons -/
def cmpG (f : Int → Int → Bool) : PV → PV → Mem → Option (PV × Mem)
  | .int i, .int j, m => some (.bl (f i j), m)
  | _, _, _ => none
theorem ox_cmp {op : CmpOp} {f : Int → Int → Bool} (ho : OpR X (compareOp op) (rI0 fun i j => .bl (f i j))) : OpR X (compareOp op) (G2 X.K cl (cmpG f)) := by
  intro pins s σ H x y v u Q I rx ry ⟨ρ, p, q, mem, r, hm, hp, hq, h, k⟩
  unfold cmpG at h
  split at h
  · obtain rfl := Option.some.inj h
    rw [rep_int] at hp hq
    exact ho pins s σ H x y v u Q I rx ry ⟨_, _, hp, hq, k ρ _ H .refl hm (by rw [Rep])⟩
  · cases h
abbrev ltG := cmpG fun i j => decide (i < j)
abbrev leG := cmpG fun i j => decide (i ≤ j)
abbrev gtG := cmpG fun i j => decide (j < i)
abbrev geG := cmpG fun i j => decide (j ≤ i)
theorem ox_lt : OpR X (compareOp .Lt) (G2 X.K cl ltG) := ox_cmp op_lt
theorem ox_le : OpR X (compareOp .LtE) (G2 X.K cl leG) := ox_cmp op_le
theorem ox_gt : OpR X (compareOp .Gt) (G2 X.K cl gtG) := ox_cmp op_gt
theorem ox_ge : OpR X (compareOp .GtE) (G2 X.K cl geG) := ox_cmp op_ge
/-! data without numbers of objects -/
mutual
def toD : PV → Option PyData
  | .non => some .none
  | .bl b => some (.bool b)
  | .int i => some (.int i)
  | .str s => some (.str s)
  | .tup ps => (toDs ps).map PyData.tuple
  | .ref _ => none
def toDs : List PV → Option (List PyData)
  | [] => some []
  | p :: ps => (toD p).bind fun d => (toDs ps).map fun ds => d :: ds
end
/-- .. of a list at the top -/
def toDm (p : PV) (m : Mem) : Option PyData := match p with
  | .ref i => match m[i]? with
    | some (.lst ps) => (toDs ps).map PyData.list
    | some (.rol ps) => (toDs ps).map PyData.list
    | _ => none
  | p => toD p
mutual
theorem toD_rep {K : PySem.W.Frag} {ρ : List Addr} {H : Hp} : ∀ (p : PV) (v : V) (d : PyData), Rep K ρ H p v → toD p = some d → Dp K H v d
  | .non, v, d, h, e => by rw [rep_non] at h; rw [toD] at e; cases e; subst h; exact .non
  | .bl b, v, d, h, e => by rw [rep_bl] at h; rw [toD] at e; cases e; subst h; exact .bl b
  | .int b, v, d, h, e => by rw [rep_int] at h; rw [toD] at e; cases e; subst h; exact .int b
  | .str b, v, d, h, e => by rw [rep_str] at h; rw [toD] at e; cases e; subst h; exact .str b
  | .tup ps, v, d, h, e => by
    rw [rep_tup] at h
    obtain ⟨a, xs, rfl, h1, h2⟩ := h
    rw [toD] at e
    obtain ⟨ds, e1, rfl⟩ := Option.map_eq_some_iff.mp e
    exact .tup h1.t (toDs_rep ps xs ds h2 e1)
  | .ref i, v, d, h, e => by rw [toD] at e; cases e
theorem toDs_rep {K : PySem.W.Frag} {ρ : List Addr} {H : Hp} : ∀ (ps : List PV) (xs : List V) (ds : List PyData), RepL K ρ H ps xs → toDs ps = some ds → DpAll K H xs ds
  | [], xs, ds, h, e => by rw [toDs] at e; cases e; rw [h.inv0]; exact .nil
  | p :: ps, xs, ds, h, e => by
    obtain ⟨x, r, rfl, h1, h2⟩ := h.inv
    rw [toDs] at e
    obtain ⟨d, e1, e⟩ := Option.bind_eq_some_iff.mp e
    obtain ⟨ds, e2, rfl⟩ := Option.map_eq_some_iff.mp e
    exact .cons (toD_rep p x d h1 e1) (toDs_rep ps r ds h2 e2)
end
theorem toDm_rep {ρ : List Addr} {H : Hp} {m : Mem} {p : PV} {v : V} {d : PyData} (hm : RelM X.K cl ρ H m) (h : Rep X.K ρ H p v) (e : toDm p m = some d) : Dp X.K H v d := by
  cases p with
  | ref i =>
    rw [rep_ref] at h
    obtain ⟨a, ha, rfl⟩ := h
    simp only [toDm] at e
    split at e
    · rename_i ps z
      obtain ⟨ds, e1, rfl⟩ := Option.map_eq_some_iff.mp e
      obtain ⟨xs, s1, s2⟩ := sq_of hm ha (.inl z)
      exact .lst s1 (toDs_rep ps xs ds s2 e1)
    · rename_i ps z
      obtain ⟨ds, e1, rfl⟩ := Option.map_eq_some_iff.mp e
      obtain ⟨xs, s1, s2⟩ := sq_of hm ha (.inr z)
      exact .lst s1 (toDs_rep ps xs ds s2 e1)
    · cases e
  | _ => exact toD_rep _ v d h e
def eqB (p q : PV) (m : Mem) : Option Bool := match p, q with
  | .int i, .int j => some (decide (i = j))
  | .str i, .str j => some (decide (i = j))
  | .bl i, .bl j => some (decide (i = j))
  | p, q => (toDm p m).bind fun d => (toDm q m).bind fun e => if SeqAt.shaped d = true ∧ SeqAt.shaped e = true then some (PyData.eqv d e) else none
def eqG (p q : PV) (m : Mem) : Option (PV × Mem) := (eqB p q m).map fun k => (.bl k, m)
def neG (p q : PV) (m : Mem) : Option (PV × Mem) := (eqB p q m).map fun k => (.bl (!k), m)
theorem eqB_ok {ρ : List Addr} {H : Hp} {m : Mem} {p q : PV} {x y : V} {k : Bool} (hm : RelM X.K cl ρ H m) (hp : Rep X.K ρ H p x) (hq : Rep X.K ρ H q y) (h : eqB p q m = some k) :
    (scal x y = true ∧ k = decide (x = y)) ∨ ∃ d e, Dp X.K H x d ∧ Dp X.K H y e ∧ SeqAt.shaped d = true ∧ SeqAt.shaped e = true ∧ k = PyData.eqv d e := by
  unfold eqB at h
  split at h
  · obtain rfl := Option.some.inj h
    rw [rep_int] at hp hq
    subst hp hq
    exact .inl ⟨rfl, by simp⟩
  · obtain rfl := Option.some.inj h
    rw [rep_str] at hp hq
    subst hp hq
    exact .inl ⟨rfl, by simp⟩
  · obtain rfl := Option.some.inj h
    rw [rep_bl] at hp hq
    subst hp hq
    exact .inl ⟨rfl, by simp⟩
  · obtain ⟨d, e1, h⟩ := Option.bind_eq_some_iff.mp h
    obtain ⟨e, e2, h⟩ := Option.bind_eq_some_iff.mp h
    split at h
    · rename_i hs
      obtain rfl := Option.some.inj h
      exact .inr ⟨d, e, toDm_rep hm hp e1, toDm_rep hm hq e2, hs.1, hs.2, rfl⟩
    · cases h
theorem ox_eq (hu : X.A.units + 64 < cLine) : OpR X (compareOp .Eq) (G2 X.K cl eqG) := by
  intro pins s σ H x y v u Q I rx ry ⟨ρ, p, q, mem, r, hm, hp, hq, h, k⟩
  obtain ⟨b, h1, rfl⟩ := Option.map_eq_some_iff.mp h
  have kk := k ρ (.bl b) H .refl hm (by rw [Rep])
  rcases eqB_ok hm hp hq h1 with ⟨z1, rfl⟩ | ⟨d, e, z1, z2, z3, z4, rfl⟩
  · exact op_eq pins s σ H x y v u Q I rx ry ⟨z1, kk⟩
  · exact op_eqD hu pins s σ H x y v u Q I rx ry ⟨d, e, z1, z2, z3, z4, kk⟩
theorem ox_ne (hu : X.A.units + 64 < cLine) : OpR X (compareOp .NotEq) (G2 X.K cl neG) := by
  intro pins s σ H x y v u Q I rx ry ⟨ρ, p, q, mem, r, hm, hp, hq, h, k⟩
  obtain ⟨b, h1, rfl⟩ := Option.map_eq_some_iff.mp h
  have kk := k ρ (.bl (!b)) H .refl hm (by rw [Rep])
  rcases eqB_ok hm hp hq h1 with ⟨z1, rfl⟩ | ⟨d, e, z1, z2, z3, z4, rfl⟩
  · exact op_ne pins s σ H x y v u Q I rx ry ⟨z1, kk⟩
  · exact op_neD hu pins s σ H x y v u Q I rx ry ⟨d, e, z1, z2, z3, z4, kk⟩
def isNG (p q : PV) (m : Mem) : Option (PV × Mem) := match q with
  | .non => some (.bl (decide (p = .non)), m)
  | _ => none
def notNG (p q : PV) (m : Mem) : Option (PV × Mem) := match q with
  | .non => some (.bl (!decide (p = .non)), m)
  | _ => none
theorem rep_isn {K ρ H p x} (h : Rep K ρ H p x) : decide (x = V.non) = decide (p = PV.non) := by
  cases p with
  | non => rw [rep_non] at h; subst h; rfl
  | bl b => rw [rep_bl] at h; subst h; rfl
  | int b => rw [rep_int] at h; subst h; rfl
  | str b => rw [rep_str] at h; subst h; rfl
  | tup b => rw [rep_tup] at h; obtain ⟨a, xs, rfl, _⟩ := h; rfl
  | ref b => rw [rep_ref] at h; obtain ⟨a, _, rfl⟩ := h; rfl
theorem ox_isn : OpR X (compareOp .Is) (G2 X.K cl isNG) := by
  intro pins s σ H x y v u Q I rx ry ⟨ρ, p, q, mem, r, hm, hp, hq, h, k⟩
  unfold isNG at h
  split at h
  · obtain rfl := Option.some.inj h
    rw [rep_non] at hq
    exact op_isN pins s σ H x y v u Q I rx ry ⟨hq, k ρ _ H .refl hm (by rw [rep_bl, rep_isn hp])⟩
  · cases h
theorem ox_notn : OpR X (compareOp .IsNot) (G2 X.K cl notNG) := by
  intro pins s σ H x y v u Q I rx ry ⟨ρ, p, q, mem, r, hm, hp, hq, h, k⟩
  unfold notNG at h
  split at h
  · obtain rfl := Option.some.inj h
    rw [rep_non] at hq
    exact op_notN pins s σ H x y v u Q I rx ry ⟨hq, k ρ _ H .refl hm (by rw [rep_bl, rep_isn hp])⟩
  · cases h
/-- x in a list or tuple of flat things -/
def flP : PV → Option V
  | .non => some .non
  | .bl b => some (.bl b)
  | .int i => some (.int i)
  | .str s => some (.str s)
  | _ => none
def flPs : List PV → Option (List V)
  | [] => some []
  | p :: ps => (flP p).bind fun v => (flPs ps).map fun vs => v :: vs
theorem flP_rep {K ρ H p v w} (h : Rep K ρ H p v) (e : flP p = some w) : v = w ∧ flatV w = true := by
  cases p with
  | non => cases e; rw [rep_non] at h; exact ⟨h, rfl⟩
  | bl b => cases e; rw [rep_bl] at h; exact ⟨h, rfl⟩
  | int b => cases e; rw [rep_int] at h; exact ⟨h, rfl⟩
  | str b => cases e; rw [rep_str] at h; exact ⟨h, rfl⟩
  | _ => cases e
theorem flPs_rep {K ρ H} : ∀ {ps : List PV} {xs ws : List V}, RepL K ρ H ps xs → flPs ps = some ws → xs = ws ∧ ws.all flatV = true
  | [], xs, ws, h, e => by cases e; exact ⟨h.inv0, rfl⟩
  | p :: ps, xs, ws, h, e => by
    obtain ⟨x, r, rfl, h1, h2⟩ := h.inv
    unfold flPs at e
    obtain ⟨d, e1, e⟩ := Option.bind_eq_some_iff.mp e
    obtain ⟨ds, e2, rfl⟩ := Option.map_eq_some_iff.mp e
    obtain ⟨rfl, h3⟩ := flP_rep h1 e1
    obtain ⟨rfl, h4⟩ := flPs_rep h2 e2
    exact ⟨rfl, by rw [List.all_cons, h3, h4]; rfl⟩
def inB (p q : PV) (m : Mem) : Option Bool := match q with
  | .tup ps => (flP p).bind fun v => (flPs ps).map fun vs => inV v vs
  | .ref i => match m[i]? with
    | some (.lst ps) => (flP p).bind fun v => (flPs ps).map fun vs => inV v vs
    | _ => none
  | .str z => match p with
    | .str y => some (!(Builtin.Str.occurrences z y 0 z.length 1).isEmpty)
    | _ => none
  | _ => none
def inG (p q : PV) (m : Mem) : Option (PV × Mem) := (inB p q m).map fun k => (.bl k, m)
def ninG (p q : PV) (m : Mem) : Option (PV × Mem) := (inB p q m).map fun k => (.bl (!k), m)
theorem inB_ok {ρ : List Addr} {H : Hp} {m : Mem} {p q : PV} {x y : V} {k : Bool} (hm : RelM X.K cl ρ H m) (hp : Rep X.K ρ H p x) (hq : Rep X.K ρ H q y) (h : inB p q m = some k) :
    (∃ a xs, y = .ref a ∧ (SqL X.K H a xs ∨ SqT X.K H a xs) ∧ flatV x = true ∧ xs.all flatV = true ∧ k = inV x xs) ∨ ∃ i j, x = .str i ∧ y = .str j ∧ k = !(Builtin.Str.occurrences j i 0 j.length 1).isEmpty := by
  unfold inB at h
  split at h
  · rename_i ps
    rw [rep_tup] at hq
    obtain ⟨a, xs, rfl, h1, h2⟩ := hq
    obtain ⟨d, e1, e⟩ := Option.bind_eq_some_iff.mp h
    obtain ⟨ds, e2, rfl⟩ := Option.map_eq_some_iff.mp e
    obtain ⟨rfl, h3⟩ := flP_rep hp e1
    obtain ⟨rfl, h4⟩ := flPs_rep h2 e2
    exact .inl ⟨a, _, rfl, .inr h1.t, h3, h4, rfl⟩
  · rename_i i
    rw [rep_ref] at hq
    obtain ⟨a, ha, rfl⟩ := hq
    split at h
    · rename_i ps z
      obtain ⟨xs, s1, s2⟩ := sq_of hm ha (.inl z)
      obtain ⟨d, e1, e⟩ := Option.bind_eq_some_iff.mp h
      obtain ⟨ds, e2, rfl⟩ := Option.map_eq_some_iff.mp e
      obtain ⟨rfl, h3⟩ := flP_rep hp e1
      obtain ⟨rfl, h4⟩ := flPs_rep s2 e2
      exact .inl ⟨a, _, rfl, .inl s1, h3, h4, rfl⟩
    · cases h
  · split at h
    · obtain rfl := Option.some.inj h
      rw [rep_str] at hp hq
      exact .inr ⟨_, _, hp, hq, rfl⟩
    · cases h
  · cases h
theorem ox_in : OpR X (compareOp .In) (G2 X.K cl inG) := by
  intro pins s σ H x y v u Q I rx ry ⟨ρ, p, q, mem, r, hm, hp, hq, h, k⟩
  obtain ⟨b, h1, rfl⟩ := Option.map_eq_some_iff.mp h
  have kk := k ρ (.bl b) H .refl hm (by rw [Rep])
  rcases inB_ok hm hp hq h1 with ⟨a, xs, z1, z2, z3, z4, rfl⟩ | ⟨i, j, z1, z2, rfl⟩
  · exact op_in_seq pins s σ H x y v u Q I rx ry ⟨a, xs, z1, z2, z3, z4, kk⟩
  · exact op_in_str pins s σ H x y v u Q I rx ry ⟨i, j, z1, z2, kk⟩
theorem ox_nin : OpR X (compareOp .NotIn) (G2 X.K cl ninG) := by
  intro pins s σ H x y v u Q I rx ry ⟨ρ, p, q, mem, r, hm, hp, hq, h, k⟩
  obtain ⟨b, h1, rfl⟩ := Option.map_eq_some_iff.mp h
  have kk := k ρ (.bl (!b)) H .refl hm (by rw [Rep])
  rcases inB_ok hm hp hq h1 with ⟨a, xs, z1, z2, z3, z4, rfl⟩ | ⟨i, j, z1, z2, rfl⟩
  · exact op_notIn_seq pins s σ H x y v u Q I rx ry ⟨a, xs, z1, z2, z3, z4, kk⟩
  · exact op_notin_str pins s σ H x y v u Q I rx ry ⟨i, j, z1, z2, kk⟩

/-! ### built-ins -/
def intG : List PV → Mem → Option (PV × Mem)
  | [.int i], m => some (.int i, m)
  | [.bl k], m => some (.int (if k = true then 1 else 0), m)
  | [.str s], m => match PySem.intText? s with
    | some n => if s.length ≤ 640 then some (.int n, m) else none
    | none => none
  | _, _ => none
theorem cx_int : CallR X (.type "int") (GL X.K cl intG) := by
  intro pins s σ H xs us Q I rs ⟨ρ, ps, mem, r, hm, hp, h, k⟩
  unfold intG at h
  split at h
  · obtain rfl := Option.some.inj h
    obtain ⟨x, xs, rfl, h1, h2⟩ := hp.inv
    obtain rfl := h2.inv0
    rw [rep_int] at h1; subst h1
    exact call_int1 pins s σ H _ us Q I rs (.inl ⟨_, rfl, k ρ _ H .refl hm (by rw [Rep])⟩)
  · obtain rfl := Option.some.inj h
    obtain ⟨x, xs, rfl, h1, h2⟩ := hp.inv
    obtain rfl := h2.inv0
    rw [rep_bl] at h1; subst h1
    exact call_int1 pins s σ H _ us Q I rs (.inr ⟨_, rfl, k ρ _ H .refl hm (by rw [Rep])⟩)
  · split at h
    · rename_i n hn
      split at h
      · rename_i hl
        obtain rfl := Option.some.inj h
        obtain ⟨x, xs, rfl, h1, h2⟩ := hp.inv
        obtain rfl := h2.inv0
        rw [rep_str] at h1; subst h1
        exact call_int_str pins s σ H _ us Q I rs ⟨_, n, rfl, hn, hl, k ρ _ H .refl hm (by rw [Rep])⟩
      · cases h
    · cases h
  · cases h
def strG : List PV → Mem → Option (PV × Mem)
  | [.int i], m => if i.natAbs < 2 ^ 1900 then some (.str (toString i), m) else none
  | _, _ => none
theorem cx_str : CallR X (.type "str") (GL X.K cl strG) := by
  intro pins s σ H xs us Q I rs ⟨ρ, ps, mem, r, hm, hp, h, k⟩
  unfold strG at h
  split at h
  · split at h
    · rename_i hz
      obtain rfl := Option.some.inj h
      obtain ⟨x, xs, rfl, h1, h2⟩ := hp.inv
      obtain rfl := h2.inv0
      rw [rep_int] at h1; subst h1
      exact call_str_int pins s σ H _ us Q I rs ⟨_, rfl, Nat.lt_of_lt_of_le (PySem.Flt.log2_lt_of (by decide) hz) (by decide), k ρ _ H .refl hm (by rw [Rep])⟩
    · cases h
  · cases h
def lenB (p : PV) (m : Mem) : Option Nat := match p with
  | .tup ps => some ps.length
  | .str s => if s.length ≤ sizeLine then some s.length else none
  | .ref i => match m[i]? with
    | some (.lst ps) => some ps.length
    | some (.rol ps) => some ps.length
    | _ => none
  | _ => none
def lenG : List PV → Mem → Option (PV × Mem)
  | [p], m => (lenB p m).map fun n => (.int (n : Nat), m)
  | _, _ => none
theorem seq_of {ρ : List Addr} {H : Hp} {m : Mem} {p : PV} {x : V} {ps : List PV} (hm : RelM X.K cl ρ H m) (hp : Rep X.K ρ H p x) (h : p = .tup ps ∨ ∃ i, p = .ref i ∧ (m[i]? = some (.lst ps) ∨ m[i]? = some (.rol ps))) : ∃ a xs, x = .ref a ∧ (SqL X.K H a xs ∨ SqT X.K H a xs) ∧ RepL X.K ρ H ps xs := by
  rcases h with rfl | ⟨i, rfl, h⟩
  · rw [rep_tup] at hp
    obtain ⟨a, xs, rfl, h1, h2⟩ := hp
    exact ⟨a, xs, rfl, .inr h1.t, h2⟩
  · rw [rep_ref] at hp
    obtain ⟨a, ha, rfl⟩ := hp
    obtain ⟨xs, s1, s2⟩ := sq_of hm ha h
    exact ⟨a, xs, rfl, .inl s1, s2⟩
theorem cx_len : CallR X (.builtin "len") (GL X.K cl lenG) := by
  intro pins s σ H xs us Q I rs ⟨ρ, ps, mem, r, hm, hp, h, k⟩
  unfold lenG at h
  split at h
  · rename_i p
    obtain ⟨n, h1, rfl⟩ := Option.map_eq_some_iff.mp h
    obtain ⟨x, xs, rfl, i1, i2⟩ := hp.inv
    obtain rfl := i2.inv0
    have seq : ∀ qs : List PV, (p = .tup qs ∨ ∃ i, p = .ref i ∧ (mem[i]? = some (.lst qs) ∨ mem[i]? = some (.rol qs))) → n = qs.length → wpAny (model X.prog X.w) X.A (call (.builtin "len") us) (EP X pins σ Q) X.xe s := fun qs hs e => by
      obtain ⟨a, ys, rfl, z1, z2⟩ := seq_of hm i1 hs
      exact call_len_seq pins s σ H _ us Q I rs ⟨a, ys, rfl, z1, k ρ _ H .refl hm (by rw [rep_int, z2.length, e])⟩
    unfold lenB at h1
    split at h1
    · exact seq _ (.inl rfl) (Option.some.inj h1).symm
    · split at h1
      · rename_i hz
        obtain rfl := Option.some.inj h1
        rw [rep_str] at i1; subst i1
        exact call_len_str pins s σ H _ us Q I rs ⟨_, rfl, hz, k ρ _ H .refl hm (by rw [Rep])⟩
      · cases h1
    · split at h1
      · rename_i e
        exact seq _ (.inr ⟨_, rfl, .inl e⟩) (Option.some.inj h1).symm
      · rename_i e
        exact seq _ (.inr ⟨_, rfl, .inr e⟩) (Option.some.inj h1).symm
      · cases h1
    · cases h1
  · cases h
def itemsB (p : PV) (m : Mem) : Option (List PV) := match p with
  | .tup ps => some ps
  | .ref i => match m[i]? with
    | some (.lst ps) => some ps
    | some (.rol ps) => some ps
    | _ => none
  | _ => none
theorem itemsB_seq {p : PV} {m : Mem} {ps : List PV} (h : itemsB p m = some ps) : p = .tup ps ∨ ∃ i, p = .ref i ∧ (m[i]? = some (.lst ps) ∨ m[i]? = some (.rol ps)) := by
  unfold itemsB at h
  split at h
  · cases h; exact .inl rfl
  · split at h
    · rename_i e; cases h; exact .inr ⟨_, rfl, .inl e⟩
    · rename_i e; cases h; exact .inr ⟨_, rfl, .inr e⟩
    · cases h
  · cases h
def listG : List PV → Mem → Option (PV × Mem)
  | [p], m => (itemsB p m).map fun ps => (.ref m.length, m ++ [.lst ps])
  | _, _ => none
def tupleG : List PV → Mem → Option (PV × Mem)
  | [p], m => (itemsB p m).map fun ps => (.tup ps, m)
  | _, _ => none
theorem cx_list : CallR X (.type "list") (GL X.K cl listG) := by
  intro pins s σ H xs us Q I rs ⟨ρ, ps, mem, r, hm, hp, h, k⟩
  unfold listG at h
  split at h
  · obtain ⟨qs, h1, rfl⟩ := Option.map_eq_some_iff.mp h
    obtain ⟨x, xs, rfl, i1, i2⟩ := hp.inv
    obtain rfl := i2.inv0
    obtain ⟨a, ys, rfl, z1, z2⟩ := seq_of hm i1 (itemsB_seq h1)
    refine call_list_of pins s σ H _ us Q I rs ⟨a, ys, rfl, z1, fun p hp => ?_⟩
    obtain ⟨y1, y2, y3⟩ := new_lst hm z2 hp
    exact k _ _ _ y1 y2 y3
  · cases h
/-- tuple(l): the new object without a dict -/
theorem call_tuple_ofP : CallR X (.type "tuple") (fun xs H Q => ∃ p ys, xs = [.ref p] ∧ SqL X.K H p ys ∧ ∀ (l : Addr) (ob : Obj), ob.dict = none → H l = none → Q (.ref l) (upd H l (.frz ob (.tup ys)))) := by
  intro pins s σ H xs us Q I r h
  obtain ⟨p, ys, rfl, hq, q⟩ := h
  obtain ⟨u, rfl, rx⟩ := vals1 r
  cases rx
  obtain ⟨its, rv, pl, hz⟩ := I.list hq
  refine call_tuple_list pl.isList (fun h' hk => ?_) (by rw [List.size_toArray, ← rv.length]; exact hz)
  have I1 : Inv X pins σ H { s with heap := h' } := I.kept (t' := s.toks) hk
  exact laid_tup I1 hz rv q
theorem cx_tuple : CallR X (.type "tuple") (GL X.K cl tupleG) := by
  intro pins s σ H xs us Q I rs ⟨ρ, ps, mem, r, hm, hp, h, k⟩
  unfold tupleG at h
  split at h
  · obtain ⟨qs, h1, rfl⟩ := Option.map_eq_some_iff.mp h
    obtain ⟨x, xs, rfl, i1, i2⟩ := hp.inv
    obtain rfl := i2.inv0
    rename_i p0
    have lst : ∀ (i : Nat) (w : p0 = PV.ref i), mem[i]? = some (.lst qs) ∨ mem[i]? = some (.rol qs) → wpAny (model X.prog X.w) X.A (call (.type "tuple") us) (EP X pins σ Q) X.xe s := fun i w hi => by
      subst w
      rw [rep_ref] at i1
      obtain ⟨a, ha, rfl⟩ := i1
      obtain ⟨ys, z1, z2⟩ := sq_of hm ha hi
      refine call_tuple_ofP pins s σ H _ us Q I rs ⟨a, ys, rfl, z1, fun p ob hob hp => ?_⟩
      obtain ⟨y1, y2, y3⟩ := new_tup hob hm z2 hp
      exact k _ _ _ y1 y2 y3
    unfold itemsB at h1
    split at h1
    · obtain rfl := Option.some.inj h1
      have i1' := i1
      rw [rep_tup] at i1
      obtain ⟨a, ys, rfl, z1, z2⟩ := i1
      exact call_tuple_of pins s σ H _ us Q I rs ⟨a, ys, rfl, .inr ⟨z1.t, k ρ _ H .refl hm i1'⟩⟩
    · split at h1
      · rename_i e
        obtain rfl := Option.some.inj h1
        exact lst _ rfl (.inl e)
      · rename_i e
        obtain rfl := Option.some.inj h1
        exact lst _ rfl (.inr e)
      · cases h1
    · cases h1
  · cases h
def minG : List PV → Mem → Option (PV × Mem)
  | [.int i, .int j], m => some (.int (if j < i then j else i), m)
  | _, _ => none
def maxG : List PV → Mem → Option (PV × Mem)
  | [.int i, .int j], m => some (.int (if j > i then j else i), m)
  | _, _ => none
theorem cx_min (hc : X.calm = true) : CallR X (.builtin "min") (GL X.K cl minG) := by
  intro pins s σ H xs us Q I rs ⟨ρ, ps, mem, r, hm, hp, h, k⟩
  unfold minG at h
  split at h
  · obtain rfl := Option.some.inj h
    obtain ⟨x, xs, rfl, i1, i2⟩ := hp.inv
    obtain ⟨y, ys, rfl, i3, i4⟩ := i2.inv
    obtain rfl := i4.inv0
    rw [rep_int] at i1 i3
    subst i1 i3
    exact call_min2 hc pins s σ H _ us Q I rs ⟨_, _, rfl, k ρ _ H .refl hm (by rw [Rep])⟩
  · cases h
theorem cx_max (hc : X.calm = true) : CallR X (.builtin "max") (GL X.K cl maxG) := by
  intro pins s σ H xs us Q I rs ⟨ρ, ps, mem, r, hm, hp, h, k⟩
  unfold maxG at h
  split at h
  · obtain rfl := Option.some.inj h
    obtain ⟨x, xs, rfl, i1, i2⟩ := hp.inv
    obtain ⟨y, ys, rfl, i3, i4⟩ := i2.inv
    obtain rfl := i4.inv0
    rw [rep_int] at i1 i3
    subst i1 i3
    exact call_max2 hc pins s σ H _ us Q I rs ⟨_, _, rfl, k ρ _ H .refl hm (by rw [Rep])⟩
  · cases h
def blsP : List PV → Option (List Bool)
  | [] => some []
  | .bl b :: ps => (blsP ps).map fun bs => b :: bs
  | _ => none
theorem blsP_rep {K ρ H} : ∀ {ps : List PV} {xs : List V} {bs : List Bool}, RepL K ρ H ps xs → blsP ps = some bs → xs = bs.map V.bl
  | [], xs, bs, h, e => by cases e; exact h.inv0
  | p :: ps, xs, bs, h, e => by
    obtain ⟨x, r, rfl, h1, h2⟩ := h.inv
    unfold blsP at e
    split at e
    · rename_i heq
      cases heq
    · rename_i b qs heq
      obtain ⟨rfl, rfl⟩ := List.cons.inj heq
      obtain ⟨ds, e2, rfl⟩ := Option.map_eq_some_iff.mp e
      rw [rep_bl] at h1
      rw [h1, blsP_rep h2 e2]
      rfl
    · cases e
def lstB (p : PV) (m : Mem) : Option (List PV) := match p with
  | .ref i => match m[i]? with
    | some (.lst ps) => some ps
    | _ => none
  | _ => none
theorem lstB_ok {ρ : List Addr} {H : Hp} {m : Mem} {p : PV} {x : V} {ps : List PV} (hm : RelM X.K cl ρ H m) (hp : Rep X.K ρ H p x) (h : lstB p m = some ps) : ∃ i a xs, p = .ref i ∧ m[i]? = some (.lst ps) ∧ ρ[i]? = some a ∧ x = .ref a ∧ H a = some (.lst xs) ∧ RepL X.K ρ H ps xs := by
  unfold lstB at h
  split at h
  · split at h
    · rename_i i ps z
      obtain rfl := Option.some.inj h
      rw [rep_ref] at hp
      obtain ⟨a, ha, rfl⟩ := hp
      obtain ⟨xs, z1, z2⟩ := hm.ok _ a _ ha z
      exact ⟨_, a, xs, rfl, z, ha, rfl, z1, z2⟩
    · cases h
  · cases h
def anyG : List PV → Mem → Option (PV × Mem)
  | [p], m => (lstB p m).bind fun ps => (blsP ps).map fun bs => (.bl (bs.any id), m)
  | _, _ => none
def allG : List PV → Mem → Option (PV × Mem)
  | [p], m => (lstB p m).bind fun ps => (blsP ps).map fun bs => (.bl (bs.all id), m)
  | _, _ => none
theorem cx_any (hc : X.calm = true) : CallR X (.builtin "any") (GL X.K cl anyG) := by
  intro pins s σ H xs us Q I rs ⟨ρ, ps, mem, r, hm, hp, h, k⟩
  unfold anyG at h
  split at h
  · obtain ⟨qs, h1, h⟩ := Option.bind_eq_some_iff.mp h
    obtain ⟨bs, h2, rfl⟩ := Option.map_eq_some_iff.mp h
    obtain ⟨x, xs, rfl, i1, i2⟩ := hp.inv
    obtain rfl := i2.inv0
    obtain ⟨i, a, ys, rfl, y1, y2, rfl, y3, y4⟩ := lstB_ok hm i1 h1
    have := blsP_rep y4 h2
    subst this
    exact cr_any hc pins s σ H _ us Q I rs ⟨a, bs, rfl, .inl (.inl y3), k ρ _ H .refl hm (by rw [Rep])⟩
  · cases h
theorem cx_all (hc : X.calm = true) : CallR X (.builtin "all") (GL X.K cl allG) := by
  intro pins s σ H xs us Q I rs ⟨ρ, ps, mem, r, hm, hp, h, k⟩
  unfold allG at h
  split at h
  · obtain ⟨qs, h1, h⟩ := Option.bind_eq_some_iff.mp h
    obtain ⟨bs, h2, rfl⟩ := Option.map_eq_some_iff.mp h
    obtain ⟨x, xs, rfl, i1, i2⟩ := hp.inv
    obtain rfl := i2.inv0
    obtain ⟨i, a, ys, rfl, y1, y2, rfl, y3, y4⟩ := lstB_ok hm i1 h1
    have := blsP_rep y4 h2
    subst this
    exact cr_all hc pins s σ H _ us Q I rs ⟨a, bs, rfl, .inl (.inl y3), k ρ _ H .refl hm (by rw [Rep])⟩
  · cases h
end
end Rf
end

section
set_option Elab.async false
set_option linter.all false
set_option maxRecDepth 100000
set_option autoImplicit false
namespace Rf
open PySem PySem.Spec L2
section
variable {X : Cx} {cl : Nat → Addr}
variable {a b c e o : Expr} {es : List Expr} {pos p apos pos' cpos : Pos} {ma mb mc me mo mi : Ex} {x f : Str} {mA : Ax}

/-! ### methods of built-in types -/
abbrev Mg := PV → List PV → Mem → Option (PV × Mem)
def xM (chk : PV → Mem → Bool) (g : Mg) (o : Ex) (a : Ax) : Ex := fun env m => (o env m).bind fun r => if chk r.1 r.2 = true then (a env r.2).bind fun s => g r.1 s.1 s.2 else none
def chkL (p : PV) (m : Mem) : Bool := (lstB p m).isSome
def chkS (p : PV) (_ : Mem) : Bool := match p with
  | .str _ => true
  | _ => false
theorem chkL_ok {ρ : List Addr} {H : Hp} {m : Mem} {p : PV} {v : V} (hm : RelM X.K cl ρ H m) (hp : Rep X.K ρ H p v) (h : chkL p m = true) : tyV X.K "list" v H := by
  unfold chkL at h
  cases e : lstB p m with
  | none => rw [e] at h; cases h
  | some ps =>
    obtain ⟨i, a, xs, rfl, _, _, rfl, z, _⟩ := lstB_ok hm hp e
    exact .inl ⟨rfl, xs, .inl (.inl z)⟩
theorem chkS_ok {ρ : List Addr} {H : Hp} {m : Mem} {p : PV} {v : V} (hm : RelM X.K cl ρ H m) (hp : Rep X.K ρ H p v) (h : chkS p m = true) : tyV X.K "str" v H := by
  unfold chkS at h
  split at h
  · rw [rep_str] at hp; subst hp; rfl
  · cases h
theorem rx_m {T id : String} {name : Str} {chk : PV → Mem → Bool} {g : Mg} (pa : PlainAttrs T) (slot : Slot T name id) (hty : typeOf (.builtin id) = pure (.type "method_descriptor")) (hm : MtR X id (GM X.K cl g))
    (hk : ∀ (ρ : List Addr) (H : Hp) (m : Mem) (p : PV) (v : V), RelM X.K cl ρ H m → Rep X.K ρ H p v → chk p m = true → tyV X.K T v H) (ho : RX cl X o mo) (ha : RA cl X (e :: es) mA)
    (hbase : attributeBase o name X.env (eval o X.env) = eval o X.env := by rfl)
    (hfew : ((backTo cpos (starEach (e :: es) X.env)).all (fun x => !x.1) && (backToKw cpos (keywordEach [] X.env)).all (fun x => x.1.isSome)
      && decide ((e :: es).length + ([] : List Keyword).length + (if ([] : List Keyword).isEmpty then 0 else 1) < 30)) = true := by rfl)
    (hline : (apos.endLine == cpos.line) = true := by rfl) (hs : starEach (e :: es) X.env = (false, eval e X.env) :: starEach es X.env := by rfl) (hplain : (backTo cpos (starEach es X.env)).any (·.1) = false := by rfl) :
    RX cl X (.Call (.Attribute o name apos) (e :: es) [] cpos) (xM chk g mo mA) := PE.imp (pe_bm pa slot hty hm ho ha hbase hfew hline hs hplain) fun σ H Q ⟨ρ, env, mem, r, hm, hE, h, q⟩ => by
  unfold xM at h
  obtain ⟨r1, e1, h⟩ := Option.bind_eq_some_iff.mp h
  split at h
  · rename_i hc
    obtain ⟨r2, e2, h⟩ := Option.bind_eq_some_iff.mp h
    exact ⟨ρ, env, mem, r1, hm, hE, e1, fun ρ1 v1 H1 x1 m1 p1 => ⟨hk _ _ _ _ _ m1 p1 hc, ρ1, env, r1.2, r2, m1, hE.ext x1, e2, fun ρ2 vs H2 x2 m2 p2 => ⟨ρ2, r1.1, r2.1, r2.2, r, m2, x2.rep _ _ p1, p2, h, q.ext (x1.trans x2)⟩⟩⟩
  · cases h
theorem rx_m0 {T id : String} {name : Str} {chk : PV → Mem → Bool} {g : Mg} (pa : PlainAttrs T) (slot : Slot T name id) (hty : typeOf (.builtin id) = pure (.type "method_descriptor")) (hm : MtR X id (GM X.K cl g))
    (hk : ∀ (ρ : List Addr) (H : Hp) (m : Mem) (p : PV) (v : V), RelM X.K cl ρ H m → Rep X.K ρ H p v → chk p m = true → tyV X.K T v H) (ho : RX cl X o mo)
    (hbase : attributeBase o name X.env (eval o X.env) = eval o X.env := by rfl) (hline : (apos.endLine == cpos.line) = true := by rfl) :
    RX cl X (.Call (.Attribute o name apos) [] [] cpos) (xM chk g mo aNil) := PE.imp (pe_bm0 pa slot hty hm ho hbase hline) fun σ H Q ⟨ρ, env, mem, r, hm, hE, h, q⟩ => by
  unfold xM aNil at h
  obtain ⟨r1, e1, h⟩ := Option.bind_eq_some_iff.mp h
  split at h
  · rename_i hc
    exact ⟨ρ, env, mem, r1, hm, hE, e1, fun ρ1 v1 H1 x1 m1 p1 => ⟨hk _ _ _ _ _ m1 p1 hc, ρ1, r1.1, [], r1.2, r, m1, p1, .nil, h, q.ext x1⟩⟩
  · cases h
def appG : Mg := fun p xs m => match p, xs with
  | .ref i, [y] => match m[i]? with
    | some (.lst ps) => if ps.length < sizeLine then some (.non, m.set i (.lst (ps ++ [y]))) else none
    | _ => none
  | _, _ => none
theorem mx_app : MtR X "list.append" (GM X.K cl appG) := by
  intro pins s σ H x xs v us Q I rx rs ⟨ρ, p, ps, mem, r, hm, hp, hps, h, k⟩
  unfold appG at h
  split at h
  · rename_i i y
    split at h
    · rename_i qs z
      split at h
      · rename_i hl
        obtain rfl := Option.some.inj h
        rw [rep_ref] at hp
        obtain ⟨a, ha, rfl⟩ := hp
        obtain ⟨w, ws, rfl, i1, i2⟩ := hps.inv
        obtain rfl := i2.inv0
        obtain ⟨ys, y1, y2⟩ := hm.ok i a _ ha z
        have x3 : Ext X.K ρ H ρ (upd H a (.lst (ys ++ [w]))) := ext_set hm ha z rfl
        exact mt_append pins s σ H _ _ v us Q I rx rs ⟨a, ys, w, rfl, rfl, y1, by rw [y2.length]; exact hl, k ρ _ _ x3 (hm.set ha z rfl rfl ⟨_, upd_same, (x3.repL _ _ y2).append (.one (x3.rep _ _ i1))⟩) (by rw [Rep])⟩
      · cases h
    · cases h
  · cases h
theorem rx_append (ho : RX cl X o mo) (ha : RX cl X e me)
    (hbase : attributeBase o "append" X.env (eval o X.env) = eval o X.env := by rfl)
    (hfew : ((backTo cpos (starEach [e] X.env)).all (fun x => !x.1) && (backToKw cpos (keywordEach [] X.env)).all (fun x => x.1.isSome)
      && decide (([e] : List Expr).length + ([] : List Keyword).length + (if ([] : List Keyword).isEmpty then 0 else 1) < 30)) = true := by rfl)
    (hline : (apos.endLine == cpos.line) = true := by rfl) (hs : starEach [e] X.env = (false, eval e X.env) :: starEach [] X.env := by rfl) (hplain : (backTo cpos (starEach [] X.env)).any (·.1) = false := by rfl) :
    RX cl X (.Call (.Attribute o "append" apos) [e] [] cpos) (xM chkL appG mo (aCons me aNil)) :=
  rx_m PySem.F.plainAttrs_list PySem.F.slot_list_append PySem.F.type_list_append mx_app (fun _ _ _ _ _ => chkL_ok) ho (ra_cons ha ra_nil hs) hbase hfew hline hs hplain
/-- d.get(k, x) -/
def dicB (p : PV) (m : Mem) : Option (List (Key × PV)) := match p with
  | .ref i => match m[i]? with
    | some (.dic kvs) => some kvs
    | _ => none
  | _ => none
theorem dicB_ok {ρ : List Addr} {H : Hp} {m : Mem} {p : PV} {x : V} {kvs : List (Key × PV)} (hm : RelM X.K cl ρ H m) (hp : Rep X.K ρ H p x) (h : dicB p m = some kvs) : ∃ i a kws, p = .ref i ∧ m[i]? = some (.dic kvs) ∧ ρ[i]? = some a ∧ x = .ref a ∧ H a = some (.dK kws) ∧ RepF X.K ρ H kvs kws := by
  unfold dicB at h
  split at h
  · split at h
    · rename_i i ps z
      obtain rfl := Option.some.inj h
      rw [rep_ref] at hp
      obtain ⟨a, ha, rfl⟩ := hp
      obtain ⟨xs, z1, z2⟩ := hm.ok _ a _ ha z
      exact ⟨_, a, xs, rfl, z, ha, rfl, z1, z2⟩
    · cases h
  · cases h
def xGet (d k v : Ex) : Ex := fun env m => (d env m).bind fun r => if (dicB r.1 r.2).isSome = true then (k env r.2).bind fun s => (v env s.2).bind fun t => (dicB r.1 t.2).bind fun kvs => (keyOf s.1).map fun kk => ((valP kvs kk).getD t.1, t.2) else none
theorem rx_get {mk mv : Ex} {k v : Expr} (hu : X.A.units + 1 < cLine) (ho : RX cl X o mo) (hk : RX cl X k mk) (hv : RX cl X v mv) (m : M2 X o "get" apos k v cpos) : RX cl X (.Call (.Attribute o "get" apos) [k, v] [] cpos) (xGet mo mk mv) :=
  PE.imp (pe_dget2 hu ho hk hv m) fun σ H Q ⟨ρ, env, mem, r, hm, hE, h, q⟩ => by
    unfold xGet at h
    obtain ⟨r1, e1, h⟩ := Option.bind_eq_some_iff.mp h
    split at h
    · rename_i hc
      obtain ⟨r2, e2, h⟩ := Option.bind_eq_some_iff.mp h
      obtain ⟨r3, e3, h⟩ := Option.bind_eq_some_iff.mp h
      obtain ⟨kvs, e4, h⟩ := Option.bind_eq_some_iff.mp h
      obtain ⟨kk, e5, rfl⟩ := Option.map_eq_some_iff.mp h
      obtain ⟨kvs0, hc⟩ := Option.isSome_iff_exists.mp hc
      refine ⟨ρ, env, mem, r1, hm, hE, e1, fun ρ1 v1 H1 x1 m1 p1 => ?_⟩
      obtain ⟨i, a, kws0, hi, _, ha, rfl, z1, _⟩ := dicB_ok m1 p1 hc
      refine ⟨a, rfl, .inl ⟨kws0, .inl z1⟩, ρ1, env, r1.2, r2, m1, hE.ext x1, e2, fun ρ2 v2 H2 x2 m2 p2 => ⟨ρ2, env, r2.2, r3, m2, (hE.ext x1).ext x2, e3, fun ρ3 v3 H3 x3 m3 p3 => ?_⟩⟩
      obtain ⟨i', a', kws, hi', _, ha', ea, z3, z4⟩ := dicB_ok m3 ((x2.trans x3).rep _ _ p1) e4
      cases ea
      have ek := keyOf_rep (x3.rep _ _ p2) e5
      subst ek
      have z5 := valP_rep kk z4
      refine ⟨_, DGet.k z3, q ρ3 _ H3 (x1.trans (x2.trans x3)) m3 ?_⟩
      cases zz : valP kvs kk with
      | none =>
        rw [zz] at z5
        rw [z5]
        exact p3
      | some pp =>
        rw [zz] at z5
        obtain ⟨w, z6, z7⟩ := z5
        rw [z6]
        exact z7
    · cases h

/-! ### isinstance -/
def tyN (p : PV) (m : Mem) : Option String := match p with
  | .non => some "NoneType"
  | .bl _ => some "bool"
  | .int _ => some "int"
  | .str _ => some "str"
  | .tup _ => some "tuple"
  | .ref i => match m[i]? with
    | some (.lst _) => some "list"
    | some (.rol _) => some "list"
    | some (.dic _) => some "dict"
    | _ => none
def isG (T : String) (p : PV) (m : Mem) : Option (PV × Mem) := (tyN p m).bind fun n => (kitB n T).map fun b => (.bl b, m)
theorem sqT_ty {K : PySem.W.Frag} {H : Hp} {a : Addr} {xs : List V} (h : SqT K H a xs) : TyX K H (.ref a) (.type "tuple") := by
  rcases h with (h | ⟨o, h⟩) | ⟨o, its, n, h, hc, _⟩
  · exact .base (.tup h)
  · exact .fTuple h
  · exact .kTuple h hc
theorem tyN_ok {ρ : List Addr} {H : Hp} {m : Mem} {p : PV} {x : V} {n : String} (hm : RelM X.K cl ρ H m) (hp : Rep X.K ρ H p x) (h : tyN p m = some n) : TyX X.K H x (.type n) := by
  cases p with
  | non => rw [rep_non] at hp; subst hp; cases h; exact .base .non
  | bl b => rw [rep_bl] at hp; subst hp; cases h; exact .base (.bl b)
  | int b => rw [rep_int] at hp; subst hp; cases h; exact .base (.int b)
  | str b => rw [rep_str] at hp; subst hp; cases h; exact .base (.str b)
  | tup b => rw [rep_tup] at hp; obtain ⟨a, xs, rfl, h1, _⟩ := hp; cases h; exact sqT_ty h1.t
  | ref i =>
    rw [rep_ref] at hp
    obtain ⟨a, ha, rfl⟩ := hp
    simp only [tyN] at h
    split at h
    · rename_i e
      obtain rfl := Option.some.inj h
      obtain ⟨xs, z, _⟩ := hm.ok i a _ ha e
      exact .base (.lst z)
    · rename_i e
      obtain rfl := Option.some.inj h
      obtain ⟨xs, z, _⟩ := hm.ok i a _ ha e
      rcases z with ⟨o, z⟩ | z
      · exact .base (.frz z)
      · rcases z (fun _ => none) with (z | ⟨o, z⟩) | ⟨o, its, n, z, hc, _⟩
        · cases z
        · cases z
        · exact .kList z hc
    · rename_i e
      obtain rfl := Option.some.inj h
      obtain ⟨xs, z, _⟩ := hm.ok i a _ ha e
      exact .base (.dK z)
    · cases h
theorem rx_isinst {T : String} {y : Str} {py : Pos} (hg : Gl X "isinstance") (hm : X.mg "isinstance" = none) (hgT : Gl X y) (hmT : X.mg y = none) (hvT : bootBuiltins y = some (.type T)) (ha : RX cl X a ma) (hn : y ≠ "__name__" := by decide) (hd : (y == ("__debug__" : Str)) = false := by decide)
    (he : starEach [a, .Name y py] X.env = (false, eval a X.env) :: starEach [.Name y py] X.env := by rfl) (he2 : starEach [.Name y py] X.env = (false, eval (.Name y py) X.env) :: starEach [] X.env := by rfl) (hpl : (backTo pos (starEach [.Name y py] X.env)).any (·.1) = false := by rfl) :
    RX cl X (.Call (.Name "isinstance" p) [a, .Name y py] [] pos) (x1 (isG T) ma) :=
  PE.imp (pe_callB call_isi hg hm (by decide +kernel) (pa_cons ha (pa_cons (pe_bltn (v := .ty T) hgT hmT hvT rfl hn hd) pa_nil he2) he) (by decide) (by decide) he hpl) fun σ H Q h => by
    obtain ⟨ρ, env, mem, r, hm, hE, h, q⟩ := t1_of h
    refine ⟨ρ, env, mem, r, hm, hE, h, fun ρ1 v1 H1 x1 m1 p1 => ?_⟩
    obtain ⟨ρ2, p2, mem2, r2, n1, n2, n3, n4⟩ := q ρ1 v1 H1 x1 m1 p1
    unfold isG at n3
    obtain ⟨n, e1, n3⟩ := Option.bind_eq_some_iff.mp n3
    obtain ⟨b, e2, rfl⟩ := Option.map_eq_some_iff.mp n3
    exact ⟨v1, .ty T, .type n, .type T, b, rfl, .ty T, tyN_ok n1 n2 e1, kit_ty e2, n4 ρ2 _ H1 .refl n1 (by rw [Rep])⟩
end

/-! ### a def by its body -/
def startE (N : Nat) (ps : List PV) : Env := ps.map some ++ List.replicate (N - ps.length) none
def fnF (N : Nat) (b : Sx) : Fn := fun ps m => (b (startE N ps) m).bind fun r => match r.1 with
  | .nx => some (.non, r.2.2)
  | .rt v => some (v, r.2.2)
  | _ => none
section
variable {P : Program} {w : World} {K : PySem.W.Frag} {mg : Str → Option Value} {base : Heap} {cl : Nat → Addr}
theorem start_rep {ρ : List Addr} {H : Hp} {ps : List PV} {vs : List V} (N : List Str) (h : RepL K ρ H ps vs) : RelE K ρ H (L2.start N vs) (startE N.length ps) := by
  have hl := h.length
  refine ⟨by unfold L2.start startE; simp [hl], fun i p e => ?_⟩
  unfold startE at e
  have hi : i < ps.length := by
    by_cases hi : i < ps.length
    · exact hi
    · rw [List.getElem?_append_right (by simpa using hi), List.getElem?_replicate] at e
      split at e <;> cases e
  rw [List.getElem?_append_left (by simpa using hi), List.getElem?_map] at e
  cases z : ps[i]? with
  | none => rw [z] at e; cases e
  | some q =>
    rw [z] at e
    cases e
    obtain ⟨x, h1, h2⟩ := h.get z
    refine ⟨x, ?_, h2⟩
    unfold L2.start
    rw [List.getElem?_append_left (by rw [List.length_map, hl]; exact hi), List.getElem?_map, h1]
    rfl
theorem fn_ok {x qual : Str} {st : Stmt} {f : Addr} {fd : FuncData} {N ps : List Str} {k n : Nat} {sb : Sx} (F : L2.Fun K x qual st f fd) (S : FnScope N ps (defScope st)) (hn : n = ps.length)
    (hb : ∀ (cdv : Value) (A : Around) (outer : List PySem.Env) (s : Shared) (H : Hp) (E : XK), Room k (A.deeper (PyProof.Rows.envOfC qual (defScope st) s.heap.objs.size f cdv)) →
      RSs cl (cxOf CX0 P w K mg base N qual (defScope st) f cdv A outer s H E).nox (defBody st) sb) : FnOk P w K mg base CX0 (k + 1) f fd ps (SpF K cl n (fnF N.length sb)) := by
  refine F.ok S (fun vs H Q E h => ?_) fun cdv A outer s H vs Q E hr h => ⟨_, hb cdv A outer s H E hr, ?_⟩
  · obtain ⟨ρ, qs, mem, r, h1, h2, h3, h4, h5⟩ := h
    rw [h3.length, h1, hn]
  · obtain ⟨ρ, qs, mem, r, h1, h2, h3, h4, h5⟩ := h
    unfold fnF at h4
    obtain ⟨r1, e1, h4⟩ := Option.bind_eq_some_iff.mp h4
    refine ⟨ρ, _, mem, r1, h2, start_rep N h3, e1, fun ρ1 σ1 H1 x1 m1 E1 => ?_⟩
    obtain ⟨fl, env1, mem1⟩ := r1
    cases fl with
    | nx =>
      obtain rfl := Option.some.inj h4
      exact h5 ρ1 _ H1 x1 m1 (by rw [Rep])
    | rt v =>
      obtain rfl := Option.some.inj h4
      exact fun v' hv => h5 ρ1 v' H1 x1 m1 hv
    | bk => cases h4
    | ct => cases h4
theorem cal_of {x : Str} {f : Addr} {fd : FuncData} {ps : List Str} {k : Nat} {sp : Sp} (h : FnOk P w K mg base CX0 k f fd ps sp) (hm : mg x = some (.ref f)) (kp : PySem.W.keepIn K (.ref f) = true) (b : Binds K fd ps []) : C8.Cal P w K mg base k x sp [] :=
  ⟨f, fd, ps, [], h, hm, kp, b, .nil⟩
theorem met_of {m : Str} {C f : Addr} {fd : FuncData} {ps : List Str} {k : Nat} {sp : Sp} (h : FnOk P w K mg base CX0 k f fd ps sp) (c : Cls K C) (hm : Meth K C m f) (b : Binds K fd ps []) : C8.Met P w K mg base k C m sp [] :=
  ⟨f, fd, ps, [], c, hm, h, b, .nil⟩
theorem mak_of {x : Str} {C f : Addr} {fd : FuncData} {ps : List Str} {k : Nat} {sp : Sp} (h : FnOk P w K mg base CX0 k f fd ps sp) (M : Mk K C f) (hm : mg x = some (.ref C)) (b : Binds K fd ps []) : C8.Mak P w K mg base k x C sp [] :=
  ⟨f, fd, ps, [], M, h, hm, b, .nil⟩
/-- the law's promise, from the function's value at every script -/
def SpLaw (K : PySem.W.Frag) : Sp := fun vs H Q _ => ∃ (a : Addr) (ns : List Int), vs = [.ref a] ∧ SqL K H a (ns.map V.int) ∧ Only H ∧ ns.length ≤ 63 ∧ ∀ H', Q (.bl true) H'
theorem law_sp {F : Fn} (hF : ∀ ns : List Int, ns.length ≤ 63 → ∃ m, F [.ref 0] [.rol (ns.map PV.int)] = some (.bl true, m)) : ∀ vs H Q E, SpLaw K vs H Q E → SpF K cl 1 F vs H Q E := fun vs H Q E ⟨a, ns, e, hS, hO, hl, q⟩ => by
  subst e
  obtain ⟨m, hF⟩ := hF ns hl
  have hrol : (∃ o, H a = some (.frz o (.lst (ns.map V.int)))) ∨ ∀ H', SqL K H' a (ns.map V.int) := by
    rcases hS with (h | ⟨o, h⟩) | h
    · rcases hO a with z | ⟨o, xs, z⟩
      · rw [z] at h; cases h
      · rw [z] at h; cases h
    · exact .inl ⟨o, h⟩
    · exact .inr fun H' => .inr h
  refine ⟨[a], [.ref 0], [.rol (ns.map PV.int)], _, rfl, ⟨rfl, fun i j b o o' h1 h2 h3 h4 h5 h6 => ?_, fun i b o h1 h2 => ?_⟩, .one (by rw [rep_ref]; exact ⟨a, rfl, rfl⟩), hF, fun ρ' v H' x1 m1 p1 => ?_⟩
  · cases i with
    | zero => cases h3; cases h5
    | succ i => cases h3
  · cases i with
    | zero =>
      cases h1; cases h2
      exact ⟨_, hrol, RepL.ints ns⟩
    | succ i => cases h2
  · rw [rep_bl] at p1
    subst p1
    exact q H'
end
end Rf
end

section
set_option Elab.async false
set_option linter.all false
set_option maxRecDepth 100000
set_option autoImplicit false
namespace Rf
open PySem PySem.Spec L2
section
variable {X : Cx} {cl : Nat → Addr}
variable {a b c e o : Expr} {es : List Expr} {pos p apos pos' cpos : Pos} {ma mb mc me mo mi : Ex} {x f : Str} {mA : Ax}
/-! ### in short -/
theorem rv (i : Nat) (hN : X.N[i]? = some x := by rfl) (hv : Vis X.env.scope x := by first | exact Or.inl rfl | exact Or.inr (Or.inl rfl) | exact Or.inr (Or.inr rfl)) (hd : (x == ("__debug__" : Str)) = false := by decide)
    (hcd : (x == ("__classdict__" : Str)) = false := by decide) : RX cl X (.Name x pos) (xVar i) := rx_var hN hv hd hcd
theorem PI.or {tg e : Expr} {t t' : TI} (h : PI X tg e t) (h' : PI X tg e t') : PI X tg e (fun σ H R => t σ H R ∨ t' σ H R) := ⟨fun pins s σ H R I q => q.elim (h.run pins s σ H R I) (h'.run pins s σ H R I)⟩
theorem PG.or {e : Expr} {t t' : TG} (h : PG X e t) (h' : PG X e t') : PG X e (fun v σ H Q => t v σ H Q ∨ t' v σ H Q) := ⟨fun pins s σ H v u Q I r q => q.elim (h.run pins s σ H v u Q I r) (h'.run pins s σ H v u Q I r)⟩
/-- a list, a tuple or a text walked -/
def anyQ (p : PV) (m : Mem) : Option Sq := match p with
  | .tup ps => some ⟨ps, []⟩
  | .str z => some ⟨signsP z, []⟩
  | .ref _ => sqOf p m
  | _ => none
def iAny (a : Ex) : Ix := fun env m => (a env m).bind fun r => (anyQ r.1 r.2).map (·, r.2)
theorem ri_any {tg : Expr} (ha : RX cl X a ma) : RI cl X tg a (iAny ma) :=
  PI.imp (PI.or (ri_list ha) (PI.or (ri_tup ha) (ri_str ha))) fun σ H R ⟨ρ, env, mem, r, hm, hE, h, q⟩ => by
    unfold iAny at h
    obtain ⟨r1, e1, h⟩ := Option.bind_eq_some_iff.mp h
    obtain ⟨s, e2, h⟩ := Option.map_eq_some_iff.mp h
    subst h
    obtain ⟨p, m1⟩ := r1
    cases p with
    | ref i => exact .inl ⟨ρ, env, mem, _, hm, hE, by unfold iSq; rw [e1]; show Option.map _ (sqOf (.ref i) m1) = _; rw [show sqOf (.ref i) m1 = some s from e2]; rfl, q⟩
    | tup ps =>
      obtain rfl := Option.some.inj e2
      exact .inr (.inl ⟨ρ, env, mem, _, hm, hE, by unfold iTp; rw [e1]; rfl, q⟩)
    | str z =>
      obtain rfl := Option.some.inj e2
      exact .inr (.inr ⟨ρ, env, mem, _, hm, hE, by unfold iSt; rw [e1]; rfl, q⟩)
    | _ => cases e2
/-- a, b = a tuple or a list -/
def gSq (n : Nat) (g : Gxs) : Gx := fun p env m => match p with
  | .tup ps => if ps.length = n then g ps env m else none
  | .ref r => match m[r]? with
    | some (.lst ps) => if ps.length = n then g ps env m else none
    | _ => none
  | _ => none
theorem rg_seq {k n : Nat} {gs : Gxs} (hc : X.calm = true) (h : RGs cl X es gs) (hn : (assignEach es X.env).length = n := by rfl) (hst : (assignEach es X.env).findIdx? (·.1) = none := by rfl) : RG cl X (.Tuple es k pos) (gSq n gs) :=
  PG.imp (PG.or (rg_tup hc h hn hst) (rg_unl hc h hn hst)) fun v σ H Q ⟨ρ, p, env, mem, r, hm, hE, hp, h, q⟩ => by
    cases p with
    | tup ps => exact .inl ⟨ρ, _, env, mem, r, hm, hE, hp, h, q⟩
    | ref i => exact .inr ⟨ρ, _, env, mem, r, hm, hE, hp, h, q⟩
    | _ => cases h
theorem m2_of {o e f : Expr} {m : Str} (base : attributeBase o m X.env (eval o X.env) = eval o X.env := by rfl) (few : ((backTo cpos (starEach [e, f] X.env)).all (fun x => !x.1) && (backToKw cpos (keywordEach [] X.env)).all (fun x => x.1.isSome)
    && decide (([e, f] : List Expr).length + ([] : List Keyword).length + (if ([] : List Keyword).isEmpty then 0 else 1) < 30)) = true := by rfl) (line : (apos.endLine == cpos.line) = true := by rfl)
    (trees : backTo cpos (starEach [e, f] X.env) = [(false, eval e X.env), (false, eval f X.env)] := by rfl) : M2 X o m apos e f cpos := ⟨base, few, line, trees⟩
/-- the target of a comprehension -/
theorem pgn (i : Nat) {X : Cx} (hN : X.N.Nodup) (hi : X.N[i]? = some x := by rfl) (hx : Loc X.env.scope x := by first | exact Or.inl rfl | exact Or.inr rfl) (hf : X.fn x = true ∨ X.env.scope.names.lookup x = some .local := by first | exact .inl rfl | exact .inr rfl | assumption) : PG X (.Name x pos) (gName i) := pg_name hN hi hx hf
end
end Rf
end

section
set_option Elab.async false
set_option linter.all false
set_option maxRecDepth 100000
set_option autoImplicit false
namespace Rf
open PySem PySem.Spec L2
/-! enumerate over a tuple as the argument of dict -/
set_option maxHeartbeats 1000000 in
theorem en_new {v : Value} {ob : Obj} {G : Heap → Prop} (B : Begins v ob G) : Meets (Builtin.«enumerate.__new__» ⟨[.type "enumerate", v], []⟩) (fun _ R s => G s.heap ∧ R (.ok (.ret (.ref (s.heap.push ob).objs.size))) { s with heap := (s.heap.push ob).push { cls := .type "enumerate", data := .fields #[.none, .bool false, .ref s.heap.objs.size, rawInt 0, .none, .none] } }) := by
  refine .of_wp fun P w A R s hs => ?_
  obtain ⟨hp, gs, dr, tk, os⟩ := s
  obtain ⟨z1, z2⟩ := hs
  have k1 := sub_enumerate
  have k2 : ∀ {A1 : Around} {E1 : Value → Shared → Prop} {Q1 : Value → Shared → Prop}, Q1 (.ref hp.objs.size) ⟨hp.push ob, gs, dr, tk, os⟩ → wpAny (model P w) A1 (pyIter v) Q1 E1 ⟨hp, gs, dr, tk, os⟩ := fun q => B.iter P w _ _ ⟨hp, gs, dr, tk, os⟩ _ z1 q
  wp_walk using k2
  refine wpAny_stack_any fun st => wpAny_pure ?_
  split
  · rename_i c _ _ _ _ _
    cases (c == Value.type "enumerate") <;> (wp_walk using k2; exact ⟨_, rfl, z2⟩)
  · wp_walk using k2
    exact ⟨_, rfl, z2⟩
section
variable {P : Program} {w : World} {A : Around} {E : Value → Shared → Prop} {s : Shared}
theorem en_call {v : Value} {ob : Obj} {G : Heap → Prop} {Q : Value → Shared → Prop} (B : Begins v ob G) (hG : G s.heap)
    (k : ∀ h1, IsEnum h1 (s.heap.objs.size + 1) s.heap.objs.size 0 .none → h1.get? s.heap.objs.size = some ob → (∀ b o, s.heap.get? b = some o → h1.get? b = some o) → h1.objs.size = s.heap.objs.size + 2 → Q (.ref (s.heap.objs.size + 1)) { s with heap := h1 }) :
    wpAny (model P w) A (call (.type "enumerate") [v]) Q E s := by
  have sz : (s.heap.push ob).objs.size = s.heap.objs.size + 1 := Heap.size_push ..
  refine callType_new F.called_enumerate (by decide) (F.typeCall_enumerate_1 v) (F.newCall_enumerate_1 v) (fun z => F.args_object_init_2 z v) F.entry_enumerate_new (en_new B) ⟨hG, ?_⟩
  generalize hn : ({ cls := .type "enumerate", data := .fields #[.none, .bool false, .ref s.heap.objs.size, rawInt 0, .none, .none] } : Obj) = en
  have g1 : ((s.heap.push ob).push en).get? (s.heap.objs.size + 1) = some en := by
    rw [← sz]
    exact Heap.get?_push_size _ (by rw [← hn]; rfl)
  show _ ∧ _
  rw [sz]
  refine ⟨⟨en, g1, by rw [← hn]⟩, k _ ?_ ?_ ?_ ?_⟩
  · unfold IsEnum
    rw [g1, ← hn]
  · exact Heap.get?_push_of_some _ (Heap.get?_push_size _ B.free)
  · exact fun b o z => Heap.get?_push_of_some _ (Heap.get?_push_of_some _ z)
  · rw [Heap.size_push, sz]
/-- the next pair, an earlier one still out -/
theorem en_next {e it t T : Addr} {i : Nat} {xs : Array Value} {x old : Value} {f : Bool} {oT : Obj} {Q : Value → Shared → Prop} (g : IsEnumHeld s.heap e it i old T f) (gT : s.heap.get? T = some oT) (n1 : T ≠ e) (n2 : T ≠ it) (n3 : e ≠ it)
    (gi : s.heap.IsTupleIter it t i) (gt : s.heap.IsTuple t xs) (gx : xs[i]? = some x)
    (k : ∀ h1, IsEnumHeld h1 e it ((i : Int) + 1) old T true → h1.IsTupleIter it t (i + 1) → h1.get? s.heap.objs.size = some { cls := .type "tuple", data := .seq #[.int i s.toks, x] } →
      (∀ b o, b ≠ e → b ≠ it → s.heap.get? b = some o → h1.get? b = some o) → Q (.ref s.heap.objs.size) { s with heap := h1, toks := s.toks + 1 }) :
    wpAny (model P w) A (Builtin.«enumerate.__next__» ⟨[.ref e], []⟩) (fun fin s' => ∃ v, fin = .done (.ret v) ∧ Q v s') E s := by
  obtain ⟨hp, gs, dr, tk, os⟩ := s
  show wpAny _ _ (field _ 2 >>= _) _ _ _
  refine wpAny_bind (wpAny_field g rfl (x := .ref it) rfl (wpAny_bind (wpAny_nextOf_tuple_item gi gt gx fun m1 i1 b1 => ?_)))
  replace b1 : Heap.SameBut it hp m1 := b1
  have g1 : IsEnumHeld m1 e it i old T f := (b1.2 e n3).trans g
  show wpAny _ _ (field _ 3 >>= _) _ _ ⟨m1, gs, dr, tk, os⟩
  refine wpAny_bind (wpAny_field g1 rfl (x := rawInt i) rfl ?_)
  show wpAny _ _ (field _ 4 >>= _) _ _ ⟨m1, gs, dr, tk, os⟩
  refine wpAny_bind (wpAny_field g1 rfl (x := .none) rfl ?_)
  show wpAny _ _ (mkInt i >>= _) _ _ ⟨m1, gs, dr, tk, os⟩
  refine wpAny_bind (wpAny_mkInt ?_)
  show wpAny _ _ (setField _ 3 (rawInt (i + 1)) >>= _) _ _ ⟨m1, gs, dr, tk + 1, os⟩
  refine wpAny_bind (wpAny_setField_rec g1 (by simp) fun m2 g2 b2 => ?_)
  replace b2 : Heap.SameBut e m1 m2 := b2
  replace g2 : IsEnumHeld m2 e it ((i : Int) + 1) old T f := g2
  show wpAny _ _ (setField _ 4 .none >>= _) _ _ ⟨m2, gs, dr, tk + 1, os⟩
  refine wpAny_bind (wpAny_setField_rec g2 (by simp) fun m3 g3 b3 => ?_)
  replace b3 : Heap.SameBut e m2 m3 := b3
  replace g3 : IsEnumHeld m3 e it ((i : Int) + 1) old T f := g3
  have sz : m3.objs.size = hp.objs.size := by rw [b3.1, b2.1, b1.1]
  have k3 : ∀ b o, b ≠ e → b ≠ it → hp.get? b = some o → m3.get? b = some o := fun b o y1 y2 y => b3.extBut b o y1 (b2.extBut b o y1 (b1.extBut b o y2 y))
  have i3 : m3.IsTupleIter it t (i + 1) := (i1.extBut b2.extBut n3.symm).extBut b3.extBut n3.symm
  show wpAny _ _ (newTuple [.int i tk, x] >>= _) _ _ ⟨m3, gs, dr, tk + 1, os⟩
  refine wpAny_bind (wpAny_newTuple ?_)
  generalize hn : ({ cls := .type "tuple", data := .seq #[.int i tk, x] } : Obj) = np
  have g4 : IsEnumHeld (m3.push np) e it ((i : Int) + 1) old T f := Heap.get?_push_of_some _ g3
  have gT4 : (m3.push np).get? T = some oT := Heap.get?_push_of_some _ (k3 T oT n1 n2 gT)
  have t4 : (m3.push np).get? hp.objs.size = some np := by
    rw [← sz]
    exact Heap.get?_push_size _ (by rw [← hn]; rfl)
  have el : e < hp.objs.size := Heap.lt_size g
  show wpAny _ _ (Builtin.SmallTypes.ownedTupleIsFree _ >>= _) _ _ ⟨m3.push np, gs, dr, tk + 1, os⟩
  rw [sz]
  refine wpAny_bind (wpAny_tupleHeld_enum (s := ⟨m3.push np, gs, dr, tk + 1, os⟩) g4 gT4 fun m5 g5 b5 => ?_)
  replace b5 : Heap.SameBut e (m3.push np) m5 := b5
  simp only [Bool.false_eq_true, if_false]
  refine wpAny_pure ⟨_, rfl, k m5 g5 ?_ ?_ ?_⟩
  · obtain ⟨o, ho, hr⟩ := i3
    exact ⟨o, b5.extBut it o n3.symm (Heap.get?_push_of_some _ ho), hr⟩
  · rw [hn]
    exact b5.extBut _ _ (Nat.ne_of_gt el) t4
  · exact fun b o y1 y2 y => b5.extBut b o y1 (Heap.get?_push_of_some _ (k3 b o y1 y2 y))
theorem en_next_py {e it t T : Addr} {i : Nat} {xs : Array Value} {x old : Value} {f : Bool} {oT : Obj} {Q : Option Value → Shared → Prop} (g : IsEnumHeld s.heap e it i old T f) (gT : s.heap.get? T = some oT) (n1 : T ≠ e) (n2 : T ≠ it) (n3 : e ≠ it)
    (gi : s.heap.IsTupleIter it t i) (gt : s.heap.IsTuple t xs) (gx : xs[i]? = some x)
    (k : ∀ h1, IsEnumHeld h1 e it ((i : Int) + 1) old T true → h1.IsTupleIter it t (i + 1) → h1.get? s.heap.objs.size = some { cls := .type "tuple", data := .seq #[.int i s.toks, x] } →
      (∀ b o, b ≠ e → b ≠ it → s.heap.get? b = some o → h1.get? b = some o) → Q (some (.ref s.heap.objs.size)) { s with heap := h1, toks := s.toks + 1 }) :
    wpAny (model P w) A (pyNext (.ref e)) Q E s := by
  have ty : s.TypeIs (.ref e) "enumerate" := ⟨_, g, rfl⟩
  unfold pyNext
  refine wpAny_bind (wpAny_attempt (wpAny_callSpecial?_slot ty F.slot_enumerate_next (wpAny_call_entry F.slot_enumerate_next ty F.entry_enumerate_next ?_ (F.args_enumerate_next_1 _))))
  exact en_next g gT n1 n2 n3 gi gt gx fun h1 a1 a2 a3 a4 => wpAny_pure (k h1 a1 a2 a3 a4)
theorem en_end_py {e it t T : Addr} {i : Nat} {xs : Array Value} {old : Value} {f : Bool} {Q : Option Value → Shared → Prop} (hh : A.handled = none) (g : IsEnumHeld s.heap e it i old T f) (gi : s.heap.IsTupleIter it t i) (gt : s.heap.IsTuple t xs) (gx : xs[i]? = none)
    (k : ∀ h1, Heap.ExtBut it s.heap h1 → Q none { s with heap := h1 }) : wpAny (model P w) A (pyNext (.ref e)) Q E s := by
  have ty : s.TypeIs (.ref e) "enumerate" := ⟨_, g, rfl⟩
  unfold pyNext
  refine wpAny_bind (wpAny_attempt (wpAny_callSpecial?_slot ty F.slot_enumerate_next (wpAny_call_entry F.slot_enumerate_next ty F.entry_enumerate_next ?_ (F.args_enumerate_next_1 _))))
  show wpAny _ _ (field _ 2 >>= _) _ _ _
  refine wpAny_bind (wpAny_field g rfl (x := .ref it) rfl (wpAny_bind (wpAny_nextOf_tuple_end hh gi gt gx fun h1 y z1 z2 => ?_)))
  obtain ⟨o, ho, hc⟩ := z2
  exact wpAny_bind (wpAny_isInstance (T := "StopIteration") (b := true) ⟨o, ho, hc⟩ isSubtype_stop (wpAny_pure (k _ z1)))
end
section
variable {P : Program} {w : World}
theorem en_arg (e it t : Addr) (n1 : e ≠ it) (n2 : t ≠ e) (n3 : t ≠ it) (xs : Array Value) :
    PairArg P w "enumerate" e [e, it, t] [e, it] xs.size (fun i k v => (∃ u, k = .int i u) ∧ xs[i]? = some v) (fun h => (∃ old, IsEnum h e it 0 old) ∧ h.IsTupleIter it t 0 ∧ h.IsTuple t xs) where
  type := fun s q => by
    obtain ⟨⟨_, g⟩, _⟩ := q
    exact ⟨_, g, rfl⟩
  notDict := by decide
  keep := fun h h1 q k => by
    obtain ⟨⟨old, g⟩, gi, gt⟩ := q
    exact ⟨⟨old, k e _ g⟩, gi.at fun o => k it o, gt.at fun o => k t o⟩
  there := fun h q b hb => by
    obtain ⟨⟨old, g⟩, ⟨o1, g1, _⟩, ⟨o2, g2, _⟩⟩ := q
    have y : b = e ∨ b = it ∨ b = t := by simpa using hb
    rcases y with y | y | y <;> rw [y]
    · exact ⟨_, g⟩
    · exact ⟨o1, g1⟩
    · exact ⟨o2, g2⟩
  sub := fun b hb => by
    have y : b = e ∨ b = it := by simpa using hb
    rcases y with y | y <;> simp [y]
  noKeys := fun A s Q E hA q k => by
    obtain ⟨⟨_, g⟩, _⟩ := q
    exact getAttrOr_miss_enumerate g rfl rfl rfl enumerate_no_keys (by decide +kernel) hA k
  iter := fun A s d Q E hA q hd hdf k => by
    obtain ⟨⟨old, g⟩, gi, gt⟩ := q
    have y : d ≠ e ∧ d ≠ it ∧ d ≠ t := by simpa using hdf
    obtain ⟨y1, y2, y3⟩ := y
    have src : PairSrc P w A e d [e, it] xs.size (fun i k v => (∃ u, k = .int i u) ∧ xs[i]? = some v)
        (fun i h => (h.IsTupleIter it t i ∧ h.IsTuple t xs) ∧ ((∃ old, IsEnum h e it i old) ∨ ∃ old T f oT, IsEnumHeld h e it i old T f ∧ h.get? T = some oT ∧ T ≠ e ∧ T ≠ it ∧ T ≠ d)) := {
      off := by simpa using And.intro y1 y2
      frame := fun i h h1 st kp => by
        obtain ⟨⟨gi, gt⟩, g⟩ := st
        refine ⟨⟨gi.at fun o => kp it o y2.symm, gt.at fun o => kp t o y3.symm⟩, ?_⟩
        rcases g with ⟨old, g⟩ | ⟨old, T, f, oT, g, gT, r1, r2, r3⟩
        · exact .inl ⟨old, kp e _ y1.symm g⟩
        · exact .inr ⟨old, T, f, oT, kp e _ y1.symm g, kp T _ r3 gT, r1, r2, r3⟩
      item := fun i s1 Q1 E1 hi st hds k1 => by
        obtain ⟨⟨gi, gt⟩, g⟩ := st
        have gx := Array.getElem?_eq_getElem hi
        have cast : ((i + 1 : Nat) : Int) = (i : Int) + 1 := rfl
        have ni : s1.heap.objs.size ≠ it := by
          obtain ⟨o, z, _⟩ := gi
          exact Nat.ne_of_gt (Heap.lt_size z)
        have out : ∀ b, b ∉ [e, it] → b ≠ e ∧ b ≠ it := fun b hb => by simpa using hb
        rcases g with ⟨old, g⟩ | ⟨old, T, f, oT, g, gT, r1, r2, r3⟩
        · refine wpAny_pyNext_enum_itemC (Draws.tuple (A := A.in1) hA it t n3 xs) g ⟨gi, gt⟩ hi n1 (by simpa using And.intro n1 n2.symm) fun x h1 tk a1 a2 a3 a4 a5 a6 => ?_
          refine k1 s1.heap.objs.size (.int i tk) x h1 (tk + 1) ⟨⟨tk, rfl⟩, a1⟩ (.inl ⟨_, a4, rfl, _, rfl⟩) ⟨a3, .inr ⟨x, s1.heap.objs.size, false, _, by rw [cast]; exact a2, a4, Nat.ne_of_gt (Heap.lt_size g), ni, Nat.ne_of_gt hds⟩⟩ fun b o hb z => a6 b o (out b hb).1 (out b hb).2 z
        · refine en_next_py g gT r1 r2 n1 gi gt gx fun h1 a1 a2 a3 a4 => ?_
          refine k1 s1.heap.objs.size (.int i s1.toks) _ h1 (s1.toks + 1) ⟨⟨s1.toks, rfl⟩, gx⟩ (.inl ⟨_, a3, rfl, _, rfl⟩) ⟨⟨a2, gt.at fun o => a4 t o n2 n3⟩, .inr ⟨old, T, true, oT, by rw [cast]; exact a1, a4 T oT r1 r2 gT, r1, r2, r3⟩⟩ fun b o hb z => a4 b o (out b hb).1 (out b hb).2 z
      done := fun s1 Q1 E1 st k1 => by
        obtain ⟨⟨gi, gt⟩, g⟩ := st
        have out : ∀ b, b ∉ [e, it] → b ≠ it := fun b hb => (show b ≠ e ∧ b ≠ it by simpa using hb).2
        rcases g with ⟨old, g⟩ | ⟨old, T, f, oT, g, gT, r1, r2, r3⟩
        · exact wpAny_pyNext_enum_endD (Draws.tuple (A := A.in1) hA it t n3 xs) g ⟨gi, gt⟩ fun h1 z => k1 h1 s1.toks fun b o hb y => z b o (out b hb) y
        · exact en_end_py hA g gi gt (Array.getElem?_eq_none (Nat.le_refl _)) fun h1 z => k1 h1 s1.toks fun b o hb y => z b o (out b hb) y }
    exact wpAny_pyIter_enum g (k e [e, it] _ s.heap s.toks src ⟨⟨gi, gt⟩, .inl ⟨old, g⟩⟩ (fun _ _ z => z) fun b hb => .inl hb)
end

/-- the pairs (index, item) from an index on -/
def enD {α : Type} : Nat → List α → List (Key × α)
  | _, [] => []
  | i, p :: ps => (.inl (i : Int), p) :: enD (i + 1) ps
theorem enD_at {α : Type} : ∀ (ps : List α) (i j : Nat), (enD i ps)[j]? = ps[j]?.map fun p => (.inl ((i + j : Nat) : Int), p)
  | [], i, j => by simp [enD]
  | p :: ps, i, 0 => by simp [enD]
  | p :: ps, i, j + 1 => by
    unfold enD
    rw [List.getElem?_cons_succ, List.getElem?_cons_succ, enD_at ps, show i + 1 + j = i + (j + 1) by omega]
theorem enD_size {α : Type} : ∀ (ps : List α) (i : Nat), (enD i ps).length = ps.length
  | [], _ => rfl
  | _ :: ps, i => by unfold enD; rw [List.length_cons, List.length_cons, enD_size ps]
theorem enD_kv : ∀ {xs : List V} {us : List Value} (i : Nat), Vals xs us → KV (enD i xs) (enD i us) := by
  intro xs us i h
  unfold Vals at h
  induction h generalizing i with
  | nil => exact .nil
  | cons h t ih => exact .cons ⟨rfl, h⟩ (ih (i + 1))
theorem enD_repF {K : PySem.W.Frag} {ρ : List Addr} {H : Hp} : ∀ {ps : List PV} {xs : List V} (i : Nat), RepL K ρ H ps xs → RepF K ρ H (enD i ps) (enD i xs) := by
  intro ps
  induction ps with
  | nil =>
    intro xs i h
    unfold RepL at h
    subst h
    exact .nil
  | cons p ps ih =>
    intro xs i h
    unfold RepL at h
    obtain ⟨x, r, rfl, h1, h2⟩ := h
    exact .cons ⟨rfl, h1⟩ (ih (i + 1) h2)
theorem enD_new : ∀ (xs : List V) (i : Nat) (acc : List (Key × V)), (∀ q ∈ acc, ∃ j : Nat, j < i ∧ q.1 = .inl (j : Int)) → mergeK acc (enD i xs) = acc ++ enD i xs
  | [], i, acc, _ => by unfold enD mergeK; simp
  | x :: xs, i, acc, h => by
    have no : acc.any (fun kv => decide (kv.1 = (.inl (i : Int) : Key))) = false := by
      rw [List.any_eq_false]
      intro q hq y
      obtain ⟨j, hj, e⟩ := h q hq
      have z := of_decide_eq_true y
      rw [e] at z
      have := Sum.inl.inj z
      omega
    have ih := enD_new xs (i + 1) (acc ++ [(.inl (i : Int), x)]) fun q hq => by
      rcases List.mem_append.mp hq with hq | hq
      · obtain ⟨j, hj, e⟩ := h q hq
        exact ⟨j, by omega, e⟩
      · rw [List.mem_singleton.mp hq]
        exact ⟨i, by omega, rfl⟩
    unfold enD
    show mergeK (putK acc (.inl (i : Int)) x) (enD (i + 1) xs) = _
    unfold putK
    rw [no, if_neg Bool.false_ne_true, ih, List.append_assoc]
    rfl
section
variable {X : Cx} {cl : Nat → Addr}
variable {a b c e o : Expr} {es : List Expr} {pos p apos pos' cpos : Pos} {ma mb mc me mo mi : Ex} {x f : Str} {mA : Ax}
theorem pe_dictenum {ta : TE} {p1 p2 p3 p4 : Pos} (hc : X.calm = true) (hg : Gl X "dict") (hm : X.mg "dict" = none) (hg2 : Gl X "enumerate") (hm2 : X.mg "enumerate" = none) (ha : PE X a ta)
    (hs1 : starEach [a] X.env = (false, eval a X.env) :: starEach [] X.env) (hs2 : starEach [.Call (.Name "enumerate" p2) [a] [] p3] X.env = (false, eval (.Call (.Name "enumerate" p2) [a] [] p3) X.env) :: starEach [] X.env) :
    PE X (.Call (.Name "dict" p1) [.Call (.Name "enumerate" p2) [a] [] p3] [] p4) (fun σ H Q => ta σ H fun x H1 => ∃ t xs, x = .ref t ∧ SqT X.K H1 t xs ∧ ∀ p, H1 p = none → Q (.ref p) (upd H1 p (.dK (enD 0 xs)))) := by
  refine ⟨fun pins s σ H Q I h => ?_⟩
  refine wpAny_Call_Name_kw (ld_blt I hg hm PyProof.Rows.boot_dict ?_)
  refine PyProof.Rows.callWith_type1 ?_ hs2 rfl
  rw [hs2]
  show wpAny _ _ (spliced ((false, eval (.Call (.Name "enumerate" p2) [a] [] p3) X.env) :: backTo p4 (starEach [] X.env))) _ _ s
  refine Calls.spliced_cons ?_
  refine wpAny_Call_Name_kw (ld_blt I hg2 hm2 PyProof.Rows.boot_enumerate ?_)
  refine PyProof.Rows.callWith_type1 ?_ hs1 rfl
  rw [hs1]
  show wpAny _ _ (spliced ((false, eval a X.env) :: backTo p3 (starEach [] X.env))) _ _ s
  refine Calls.spliced_cons (thn (ha.run pins s σ H _ I h) fun u s1 ⟨x, H1, I1, rx, t, xs, ex, hq, q⟩ => Calls.spliced_nil ?_)
  subst ex
  obtain rfl : u = Value.ref t := rx
  obtain ⟨its, rv, ht, hz⟩ := I1.tuple hq
  have tl : t < s1.heap.objs.size := by
    obtain ⟨o, ho, _⟩ := ht
    exact Heap.lt_size ho
  refine en_call (begins_tuple t its.toArray) ht fun h1 g1 g2 k1 sz => Calls.spliced_nil ?_
  have sz0 : s1.heap.objs.size + 1 ≠ s1.heap.objs.size := Nat.succ_ne_self _
  refine call_dict_pairs (knd := mixKind X.prog X.w) (kvs := enD 0 its) (s := { s1 with heap := h1 }) (en_arg (s1.heap.objs.size + 1) s1.heap.objs.size t sz0 (Nat.ne_of_lt (Nat.lt_succ_of_lt tl)) (Nat.ne_of_lt tl) its.toArray) (I1.ok.hd hc)
    ⟨⟨.none, g1⟩, ⟨_, g2, rfl, rfl⟩, ht.keeps k1⟩ ⟨by rw [enD_size, List.size_toArray], fun i key v hr => ?_⟩ (by rw [List.size_toArray, ← rv.length]; exact hz) fun h2 tk hd k2 => ?_
  · obtain ⟨⟨y, rfl⟩, hv⟩ := hr
    refine ⟨.inl (i : Int), ?_, ?_⟩
    · rw [enD_at, Nat.zero_add]
      rw [List.getElem?_toArray] at hv
      rw [hv]
      rfl
    · simp [mixKind, keyIs, Value.isInt]
  · have hd0 : (h1.objs.size == sysModules) = false := beq_eq_false_iff_ne.mpr (Nat.ne_of_gt (Nat.lt_of_lt_of_le I1.big (by rw [sz]; exact Nat.le_add_right _ _)))
    have em : mergeK [] (enD 0 xs) = enD 0 xs := by
      rw [enD_new xs 0 [] (fun q hq => nomatch hq)]
      rfl
    have kk : ∀ b o, s1.heap.get? b = some o → h2.get? b = some o := fun b o y => k2 b o (fun z => by
      have lt := Heap.lt_size y
      have z' : b = s1.heap.objs.size + 1 ∨ b = s1.heap.objs.size := by simpa using z
      rcases z' with z' | z' <;> rw [z'] at lt
      · exact absurd lt (Nat.not_lt.mpr (Nat.le_succ _))
      · exact absurd lt (Nat.lt_irrefl _)) (k1 b o y)
    have lo : s1.heap.objs.size ≤ h1.objs.size := by omega
    exact ⟨.ref h1.objs.size, upd H1 h1.objs.size (.dK (enD 0 xs)), I1.laid (t' := tk) kk lo (show ObjOk X.prog X.w _ _ _ (.dK (enD 0 xs)) from ⟨by rw [enD_size]; exact hz, hd0, merged [] (enD 0 its), by rw [← em]; exact KV.merge (enD_kv 0 rv) .nil, hd⟩), rfl, q _ (I1.hok.fresh lo)⟩
/-- dict(enumerate(t)), t a tuple -/
def dictEnG : PV → Mem → Option (PV × Mem)
  | .tup ps, m => some (.ref m.length, m ++ [.dic (enD 0 ps)])
  | _, _ => none
theorem new_dic {ρ : List Addr} {H : Hp} {mem : Mem} {kws : List (Key × V)} {kvs : List (Key × PV)} {p : Addr} (hm : RelM X.K cl ρ H mem) (h : RepF X.K ρ H kvs kws) (hp : H p = none) : Ext X.K ρ H (ρ ++ [p]) (upd H p (.dK kws)) ∧ RelM X.K cl (ρ ++ [p]) (upd H p (.dK kws)) (mem ++ [.dic kvs]) ∧ Rep X.K (ρ ++ [p]) (upd H p (.dK kws)) (.ref mem.length) (.ref p) := by
  have e : Ext X.K ρ H (ρ ++ [p]) (upd H p (.dK kws)) := ext_new hp _
  refine ⟨e, hm.alloc hp ⟨kws, upd_same, e.repF h⟩, ?_⟩
  rw [rep_ref]
  exact ⟨p, by rw [← hm.len]; simp, rfl⟩
theorem rx_dictenum {p1 p2 p3 p4 : Pos} (hc : X.calm = true) (hg : Gl X "dict") (hm : X.mg "dict" = none) (hg2 : Gl X "enumerate") (hm2 : X.mg "enumerate" = none) (ha : RX cl X a ma)
    (hs1 : starEach [a] X.env = (false, eval a X.env) :: starEach [] X.env := by rfl) (hs2 : starEach [.Call (.Name "enumerate" p2) [a] [] p3] X.env = (false, eval (.Call (.Name "enumerate" p2) [a] [] p3) X.env) :: starEach [] X.env := by rfl) :
    RX cl X (.Call (.Name "dict" p1) [.Call (.Name "enumerate" p2) [a] [] p3] [] p4) (x1 dictEnG ma) := PE.imp (pe_dictenum hc hg hm hg2 hm2 ha hs1 hs2) fun σ H Q h => by
  obtain ⟨ρ, env, mem, r, hm, he, h, k⟩ := h
  unfold x1 at h
  obtain ⟨r1, h1, h2⟩ := Option.bind_eq_some_iff.mp h
  refine ⟨ρ, env, mem, r1, hm, he, h1, fun ρ1 x H1 e1 m1 p1 => ?_⟩
  obtain ⟨q, mem1⟩ := r1
  replace h2 : dictEnG q mem1 = some r := h2
  replace p1 : Rep X.K ρ1 H1 q x := p1
  replace m1 : RelM X.K cl ρ1 H1 mem1 := m1
  unfold dictEnG at h2
  split at h2
  · rename_i ps
    cases h2
    rw [rep_tup] at p1
    obtain ⟨t, xs, rfl, z1, z2⟩ := p1
    refine ⟨t, xs, rfl, z1.t, fun p hp => ?_⟩
    obtain ⟨y1, y2, y3⟩ := new_dic m1 (enD_repF 0 z2) hp
    exact k _ _ _ (e1.trans y1) y2 y3
  · cases h2
end
end Rf
end

section
set_option Elab.async false
set_option linter.all false
set_option maxRecDepth 100000
set_option autoImplicit false
namespace Rf
open L2
/-! ### how the functions are reckoned: one rule a combinator, the scrutinee first -/
section
variable {env : Env} {m : Mem} {a b : Ex} {mA : Ax} {ta tb : Tx} {sa sb : Sx} {i n C : Nat} {F : Fn}
theorem e_var : xVar i env m = match env[i]? with
  | some (some p) => some (p, m)
  | _ => none := rfl
theorem e_c {p : PV} : xC p env m = some (p, m) := rfl
theorem e_1 {g : PV → Mem → Option (PV × Mem)} : x1 g a env m = (a env m).bind fun r => g r.1 r.2 := rfl
theorem e_2 {g : PV → PV → Mem → Option (PV × Mem)} : x2 g a b env m = (a env m).bind fun r => (b env r.2).bind fun s => g r.1 s.1 s.2 := rfl
theorem e_A {g : List PV → Mem → Option (PV × Mem)} : xA g mA env m = (mA env m).bind fun r => g r.1 r.2 := rfl
theorem e_aNil : aNil env m = some ([], m) := rfl
theorem e_aCons : aCons a mA env m = (a env m).bind fun x => (mA env x.2).bind fun xs => some (x.1 :: xs.1, xs.2) := rfl
theorem e_call : xCall n F mA env m = (mA env m).bind fun r => if r.1.length = n then F r.1 r.2 else none := rfl
theorem e_bl : tBl a env m = (a env m).bind fun r => match r.1 with
  | .bl b => some (b, r.2)
  | _ => none := rfl
theorem e_tru : tTru a env m = (a env m).bind fun r => (truG r.1 r.2).map fun k => (k, r.2) := rfl
theorem e_nt : tNt ta env m = (ta env m).map fun r => (!r.1, r.2) := rfl
theorem e_an : tAn ta tb env m = (ta env m).bind fun r => if r.1 = true then tb env r.2 else some (false, r.2) := rfl
theorem e_or : tOr' ta tb env m = (ta env m).bind fun r => if r.1 = true then some (true, r.2) else tb env r.2 := rfl
theorem e_ys : tYs env m = some (true, m) := rfl
theorem e_xnt : xNt a env m = (a env m).bind fun r => match r.1 with
  | .bl b => some (.bl (!b), r.2)
  | _ => none := rfl
theorem e_xan : xAn a b env m = (a env m).bind fun r => match r.1 with
  | .bl k => if k = true then b env r.2 else some (.bl false, r.2)
  | _ => none := rfl
theorem e_xor : xOr a b env m = (a env m).bind fun r => match r.1 with
  | .bl k => if k = true then some (.bl true, r.2) else b env r.2
  | _ => none := rfl
theorem e_xif : xIf ta a b env m = (ta env m).bind fun r => if r.1 = true then a env r.2 else b env r.2 := rfl
theorem e_oNone : oNone env m = some (none, m) := rfl
theorem e_oSome : oSome a env m = (a env m).bind fun r => match r.1 with
  | .int i => some (some i, r.2)
  | _ => none := rfl
theorem e_sl {lo hi : Ox} : xSl a lo hi env m = (a env m).bind fun r => (lo env r.2).bind fun s => (hi env s.2).bind fun t => slG r.1 s.1 t.1 t.2 := rfl
theorem e_nx : sNx env m = some (.nx, env, m) := rfl
theorem e_brk : sBk env m = some (.bk, env, m) := rfl
theorem e_cnt : sCt env m = some (.ct, env, m) := rfl
theorem e_sq : sSq sa sb env m = (sa env m).bind fun r => match r.1 with
  | .nx => sb r.2.1 r.2.2
  | _ => some r := rfl
theorem e_ex : sEx a env m = (a env m).bind fun r => some (.nx, env, r.2) := rfl
theorem e_rt : sRt a env m = (a env m).bind fun r => some (.rt r.1, env, r.2) := rfl
theorem e_rn : sRn env m = some (.rt .non, env, m) := rfl
theorem e_if : sIf ta sa sb env m = (ta env m).bind fun r => if r.1 = true then sa env r.2 else sb env r.2 := rfl
theorem e_as {g : Gx} : sAs a g env m = (a env m).bind fun r => (g r.1 env r.2).bind fun s => some (.nx, s.1, s.2) := rfl
theorem e_nm {p : PV} : gNm i p env m = some (env.set i (some p), m) := rfl
theorem e_gix {o k : Ex} {p : PV} : gIx o k p env m = (o env m).bind fun r => (k env r.2).bind fun s => (setG r.1 s.1 p s.2).map fun m' => (env, m') := rfl
theorem e_gsNil : gsNil [] env m = some (env, m) := rfl
theorem e_gsCons {g : Gx} {r : Gxs} {p : PV} {qs : List PV} : gsCons g r (p :: qs) env m = (g p env m).bind fun s => r qs s.1 s.2 := rfl
theorem e_gseqT {g : Gxs} {ps : List PV} : gSq n g (.tup ps) env m = if ps.length = n then g ps env m else none := rfl
theorem e_gseqR {g : Gxs} {k : Nat} : gSq n g (.ref k) env m = match m[k]? with
  | some (.lst ps) => if ps.length = n then g ps env m else none
  | _ => none := rfl
theorem e_fd {f : PySem.Str} {o v : Ex} : sFd C f o v env m = (v env m).bind fun r => (o env r.2).bind fun s => match s.1 with
  | .ref i => match s.2[i]? with
    | some (.ins c fs) => if c = C ∧ fs.length < 1000 then some (.nx, env, s.2.set i (.ins c (putFP f r.1 fs))) else none
    | _ => none
  | _ => none := rfl
theorem e_for {it : Ix} {g : Gx} : sFor it g sa env m = (it env m).bind fun r => if okG r.1.guard r.2 = true then forL g sa r.1.guard r.1.items env r.2 else none := rfl
theorem e_any : iAny a env m = (a env m).bind fun r => (anyQ r.1 r.2).map (·, r.2) := rfl
theorem e_rg : iRg mA env m = (mA env m).bind fun r => (rngG r.1).map (·, r.2) := rfl
theorem e_en : iEn mA env m = (mA env m).bind fun r => (enG r.1 r.2).map (·, r.2) := rfl
theorem e_zp : iZp mA env m = (mA env m).bind fun r => (zipG r.1 r.2).map (·, r.2) := rfl
theorem e_lc {vs : List Nat} {it : Ix} : xLc vs it i ta a env m = (it env m).bind fun r => if okG r.1.guard r.2 = true ∧ (∀ g ∈ r.1.guard, g.1 < r.2.length) then
    (lcL i ta a r.1.guard r.2.length (wipeE env vs) r.1.items (r.2 ++ [.lst []]) []).bind fun s => some (.ref r.2.length, s.2) else none := rfl
theorem e_m {chk : PV → Mem → Bool} {g : Mg} : xM chk g a mA env m = (a env m).bind fun r => if chk r.1 r.2 = true then (mA env r.2).bind fun s => g r.1 s.1 s.2 else none := rfl
theorem e_get {k v : Ex} : xGet a k v env m = (a env m).bind fun r => if (dicB r.1 r.2).isSome = true then (k env r.2).bind fun s => (v env s.2).bind fun t => (dicB r.1 t.2).bind fun kvs => (keyOf s.1).map fun kk => ((valP kvs kk).getD t.1, t.2) else none := rfl
theorem e_meth {f : PySem.Str} : xMeth C f n F a mA env m = (a env m).bind fun r => if insG C f r.1 r.2 = true then (mA env r.2).bind fun s => if s.1.length = n then F (r.1 :: s.1) s.2 else none else none := rfl
theorem e_make : xMake C n F mA env m = (mA env m).bind fun r => if r.1.length = n then (F (.ref r.2.length :: r.1) (r.2 ++ [.ins C []])).bind fun s => match s.1 with
  | .non => some (.ref r.2.length, s.2)
  | _ => none else none := rfl
theorem e_fn {N : Nat} {ps : List PV} : fnF N sa ps m = (sa (startE N ps) m).bind fun r => match r.1 with
  | .nx => some (.non, r.2.2)
  | .rt v => some (v, r.2.2)
  | _ => none := rfl
theorem ix_int {k : Int} {ps : List PV} : seqAt ps (.int k) m = (atI ps k).map (·, m) := rfl
theorem ix_t {ps : List PV} {q : PV} : ixG (.tup ps) q m = seqAt ps q m := rfl
theorem ix_r {k : Nat} {q : PV} : ixG (.ref k) q m = match m[k]? with
    | some (.lst ps) => seqAt ps q m
    | some (.rol ps) => seqAt ps q m
    | some (.dic kvs) => (keyOf q).bind fun k => (valP kvs k).map (·, m)
    | _ => none := rfl
theorem set_r {k : Nat} {q v : PV} : setG (.ref k) q v m = match m[k]? with
    | some (.lst ps) => match q with
      | .int i => (ixN ps.length i).map fun j => m.set k (.lst (ps.set j v))
      | _ => none
    | some (.dic kvs) => if kvs.length < PySem.sizeLine then (keyOf q).map fun j => m.set k (.dic (putP kvs j v)) else none
    | _ => none := rfl
theorem ixN_at {n : Nat} {i : Int} (h : 0 ≤ i) (h2 : i < n) : ixN n i = some i.toNat := by unfold ixN; rw [if_pos h, if_pos h2]
theorem atI_at {α : Type} {xs : List α} {i : Int} (h : 0 ≤ i) : atI xs i = xs[i.toNat]? := by
  unfold atI ixN
  rw [if_pos h]
  by_cases h2 : i < xs.length
  · rw [if_pos h2]; rfl
  · rw [if_neg h2, List.getElem?_eq_none (by omega)]; rfl
end
section
variable {α : Type} {xs : List α}
theorem atI_0 : atI xs 0 = xs[0]? := atI_at (by decide)
theorem atI_1 : atI xs 1 = xs[1]? := atI_at (by decide)
theorem atI_2 : atI xs 2 = xs[2]? := atI_at (by decide)
theorem atI_3 : atI xs 3 = xs[3]? := atI_at (by decide)
theorem atI_4 : atI xs 4 = xs[4]? := atI_at (by decide)
theorem atI_last' {y : α} : atI (xs ++ [y]) (-1) = some y := L2.atI_last xs y
theorem ixN_0 {n : Nat} : ixN (n + 1) 0 = some 0 := by rw [ixN_at (by decide) (by omega)]; rfl
theorem ixN_1 {n : Nat} : ixN (n + 2) 1 = some 1 := by rw [ixN_at (by decide) (by omega)]; rfl
theorem ixN_2 {n : Nat} : ixN (n + 3) 2 = some 2 := by rw [ixN_at (by decide) (by omega)]; rfl
theorem ixN_3 {n : Nat} : ixN (n + 4) 3 = some 3 := by rw [ixN_at (by decide) (by omega)]; rfl
end
theorem e_fld {C : Nat} {f : PySem.Str} {i : Nat} {m : Mem} : fldG C f (.ref i) m = match m[i]? with
    | some (.ins c fs) => if c = C then (fs.lookup f).map (·, m) else none
    | _ => none := rfl
theorem e_forN {g : Gx} {b : Sx} {gd : List (Nat × Ob)} {env : Env} {m : Mem} : forL g b gd [] env m = some (.nx, env, m) := rfl
theorem e_forC {g : Gx} {b : Sx} {gd : List (Nat × Ob)} {p : PV} {ps : List PV} {env : Env} {m : Mem} : forL g b gd (p :: ps) env m = (g p env m).bind fun r => (b r.1 r.2).bind fun s => match s.1 with
    | .nx => if okG gd s.2.2 = true then forL g b gd ps s.2.1 s.2.2 else none
    | .ct => if okG gd s.2.2 = true then forL g b gd ps s.2.1 s.2.2 else none
    | .bk => some (.nx, s.2)
    | .rt _ => some s := rfl
theorem okG_1 {k : Nat} {o : Ob} {m : Mem} : okG [(k, o)] m = decide (m[k]? = some o) := by simp [okG]
theorem gapp0 {m l : Mem} : (m ++ l)[m.length]? = l[0]? := by rw [List.getElem?_append_right (Nat.le_refl _), Nat.sub_self]
theorem gapp {m l : Mem} {k : Nat} : (m ++ l)[m.length + k]? = l[k]? := by rw [List.getElem?_append_right (Nat.le_add_right _ _), Nat.add_sub_cancel_left]
theorem PX_nog {n : Nat} : (∀ g ∈ ([] : List (Nat × Ob)), g.1 < n) = True := by simp
theorem PX_wipe {env : Env} {v : Nat} : wipeE env [v] = env.set v none := rfl
end Rf
end

section
set_option maxRecDepth 100000
namespace Gen
theorem sne : ¬ ("add" : PySem.Str) = "and" ∧ ¬ ("add" : PySem.Str) = "less" ∧ ¬ ("add" : PySem.Str) = "load" ∧ ¬ ("add" : PySem.Str) = "mul" ∧ ¬ ("add" : PySem.Str) = "out" ∧ ¬ ("add" : PySem.Str) = "store" ∧ ¬ ("add" : PySem.Str) = "sub" ∧ ¬ ("add" : PySem.Str) = "reg" ∧ ¬ ("add" : PySem.Str) = "int" ∧ ¬ ("add" : PySem.Str) = "loop" ∧ ¬ ("add" : PySem.Str) = "cell" ∧ ¬ ("add" : PySem.Str) = "registers" ∧ ¬ ("add" : PySem.Str) = "cells" ∧ ¬ ("add" : PySem.Str) = "outputs" ∧ ¬ ("and" : PySem.Str) = "add" ∧ ¬ ("and" : PySem.Str) = "less" ∧ ¬ ("and" : PySem.Str) = "load" ∧ ¬ ("and" : PySem.Str) = "mul" ∧ ¬ ("and" : PySem.Str) = "out" ∧ ¬ ("and" : PySem.Str) = "store" ∧ ¬ ("and" : PySem.Str) = "sub" ∧ ¬ ("and" : PySem.Str) = "reg" ∧ ¬ ("and" : PySem.Str) = "int" ∧ ¬ ("and" : PySem.Str) = "loop" ∧ ¬ ("and" : PySem.Str) = "cell" ∧ ¬ ("and" : PySem.Str) = "registers" ∧ ¬ ("and" : PySem.Str) = "cells" ∧ ¬ ("and" : PySem.Str) = "outputs" ∧ ¬ ("less" : PySem.Str) = "add" ∧ ¬ ("less" : PySem.Str) = "and" ∧ ¬ ("less" : PySem.Str) = "load" ∧ ¬ ("less" : PySem.Str) = "mul" ∧ ¬ ("less" : PySem.Str) = "out" ∧ ¬ ("less" : PySem.Str) = "store" ∧ ¬ ("less" : PySem.Str) = "sub" ∧ ¬ ("less" : PySem.Str) = "reg" ∧ ¬ ("less" : PySem.Str) = "int" ∧ ¬ ("less" : PySem.Str) = "loop" ∧ ¬ ("less" : PySem.Str) = "cell" ∧ ¬ ("less" : PySem.Str) = "registers" ∧ ¬ ("less" : PySem.Str) = "cells" ∧ ¬ ("less" : PySem.Str) = "outputs" ∧ ¬ ("load" : PySem.Str) = "add" ∧ ¬ ("load" : PySem.Str) = "and" ∧ ¬ ("load" : PySem.Str) = "less" ∧ ¬ ("load" : PySem.Str) = "mul" ∧ ¬ ("load" : PySem.Str) = "out" ∧ ¬ ("load" : PySem.Str) = "store" ∧ ¬ ("load" : PySem.Str) = "sub" ∧ ¬ ("load" : PySem.Str) = "reg" ∧ ¬ ("load" : PySem.Str) = "int" ∧ ¬ ("load" : PySem.Str) = "loop" ∧ ¬ ("load" : PySem.Str) = "cell" ∧ ¬ ("load" : PySem.Str) = "registers" ∧ ¬ ("load" : PySem.Str) = "cells" ∧ ¬ ("load" : PySem.Str) = "outputs" ∧ ¬ ("mul" : PySem.Str) = "add" ∧ ¬ ("mul" : PySem.Str) = "and" ∧ ¬ ("mul" : PySem.Str) = "less" ∧ ¬ ("mul" : PySem.Str) = "load" ∧ ¬ ("mul" : PySem.Str) = "out" ∧ ¬ ("mul" : PySem.Str) = "store" ∧ ¬ ("mul" : PySem.Str) = "sub" ∧ ¬ ("mul" : PySem.Str) = "reg" ∧ ¬ ("mul" : PySem.Str) = "int" ∧ ¬ ("mul" : PySem.Str) = "loop" ∧ ¬ ("mul" : PySem.Str) = "cell" ∧ ¬ ("mul" : PySem.Str) = "registers" ∧ ¬ ("mul" : PySem.Str) = "cells" ∧ ¬ ("mul" : PySem.Str) = "outputs" ∧ ¬ ("out" : PySem.Str) = "add" ∧ ¬ ("out" : PySem.Str) = "and" ∧ ¬ ("out" : PySem.Str) = "less" ∧ ¬ ("out" : PySem.Str) = "load" ∧ ¬ ("out" : PySem.Str) = "mul" ∧ ¬ ("out" : PySem.Str) = "store" ∧ ¬ ("out" : PySem.Str) = "sub" ∧ ¬ ("out" : PySem.Str) = "reg" ∧ ¬ ("out" : PySem.Str) = "int" ∧ ¬ ("out" : PySem.Str) = "loop" ∧ ¬ ("out" : PySem.Str) = "cell" ∧ ¬ ("out" : PySem.Str) = "registers" ∧ ¬ ("out" : PySem.Str) = "cells" ∧ ¬ ("out" : PySem.Str) = "outputs" ∧ ¬ ("store" : PySem.Str) = "add" ∧ ¬ ("store" : PySem.Str) = "and" ∧ ¬ ("store" : PySem.Str) = "less" ∧ ¬ ("store" : PySem.Str) = "load" ∧ ¬ ("store" : PySem.Str) = "mul" ∧ ¬ ("store" : PySem.Str) = "out" ∧ ¬ ("store" : PySem.Str) = "sub" ∧ ¬ ("store" : PySem.Str) = "reg" ∧ ¬ ("store" : PySem.Str) = "int" ∧ ¬ ("store" : PySem.Str) = "loop" ∧ ¬ ("store" : PySem.Str) = "cell" ∧ ¬ ("store" : PySem.Str) = "registers" ∧ ¬ ("store" : PySem.Str) = "cells" ∧ ¬ ("store" : PySem.Str) = "outputs" ∧ ¬ ("sub" : PySem.Str) = "add" ∧ ¬ ("sub" : PySem.Str) = "and" ∧ ¬ ("sub" : PySem.Str) = "less" ∧ ¬ ("sub" : PySem.Str) = "load" ∧ ¬ ("sub" : PySem.Str) = "mul" ∧ ¬ ("sub" : PySem.Str) = "out" ∧ ¬ ("sub" : PySem.Str) = "store" ∧ ¬ ("sub" : PySem.Str) = "reg" ∧ ¬ ("sub" : PySem.Str) = "int" ∧ ¬ ("sub" : PySem.Str) = "loop" ∧ ¬ ("sub" : PySem.Str) = "cell" ∧ ¬ ("sub" : PySem.Str) = "registers" ∧ ¬ ("sub" : PySem.Str) = "cells" ∧ ¬ ("sub" : PySem.Str) = "outputs" ∧ ¬ ("reg" : PySem.Str) = "add" ∧ ¬ ("reg" : PySem.Str) = "and" ∧ ¬ ("reg" : PySem.Str) = "less" ∧ ¬ ("reg" : PySem.Str) = "load" ∧ ¬ ("reg" : PySem.Str) = "mul" ∧ ¬ ("reg" : PySem.Str) = "out" ∧ ¬ ("reg" : PySem.Str) = "store" ∧ ¬ ("reg" : PySem.Str) = "sub" ∧ ¬ ("reg" : PySem.Str) = "int" ∧ ¬ ("reg" : PySem.Str) = "loop" ∧ ¬ ("reg" : PySem.Str) = "cell" ∧ ¬ ("reg" : PySem.Str) = "registers" ∧ ¬ ("reg" : PySem.Str) = "cells" ∧ ¬ ("reg" : PySem.Str) = "outputs" ∧ ¬ ("int" : PySem.Str) = "add" ∧ ¬ ("int" : PySem.Str) = "and" ∧ ¬ ("int" : PySem.Str) = "less" ∧ ¬ ("int" : PySem.Str) = "load" ∧ ¬ ("int" : PySem.Str) = "mul" ∧ ¬ ("int" : PySem.Str) = "out" ∧ ¬ ("int" : PySem.Str) = "store" ∧ ¬ ("int" : PySem.Str) = "sub" ∧ ¬ ("int" : PySem.Str) = "reg" ∧ ¬ ("int" : PySem.Str) = "loop" ∧ ¬ ("int" : PySem.Str) = "cell" ∧ ¬ ("int" : PySem.Str) = "registers" ∧ ¬ ("int" : PySem.Str) = "cells" ∧ ¬ ("int" : PySem.Str) = "outputs" ∧ ¬ ("loop" : PySem.Str) = "add" ∧ ¬ ("loop" : PySem.Str) = "and" ∧ ¬ ("loop" : PySem.Str) = "less" ∧ ¬ ("loop" : PySem.Str) = "load" ∧ ¬ ("loop" : PySem.Str) = "mul" ∧ ¬ ("loop" : PySem.Str) = "out" ∧ ¬ ("loop" : PySem.Str) = "store" ∧ ¬ ("loop" : PySem.Str) = "sub" ∧ ¬ ("loop" : PySem.Str) = "reg" ∧ ¬ ("loop" : PySem.Str) = "int" ∧ ¬ ("loop" : PySem.Str) = "cell" ∧ ¬ ("loop" : PySem.Str) = "registers" ∧ ¬ ("loop" : PySem.Str) = "cells" ∧ ¬ ("loop" : PySem.Str) = "outputs" ∧ ¬ ("cell" : PySem.Str) = "add" ∧ ¬ ("cell" : PySem.Str) = "and" ∧ ¬ ("cell" : PySem.Str) = "less" ∧ ¬ ("cell" : PySem.Str) = "load" ∧ ¬ ("cell" : PySem.Str) = "mul" ∧ ¬ ("cell" : PySem.Str) = "out" ∧ ¬ ("cell" : PySem.Str) = "store" ∧ ¬ ("cell" : PySem.Str) = "sub" ∧ ¬ ("cell" : PySem.Str) = "reg" ∧ ¬ ("cell" : PySem.Str) = "int" ∧ ¬ ("cell" : PySem.Str) = "loop" ∧ ¬ ("cell" : PySem.Str) = "registers" ∧ ¬ ("cell" : PySem.Str) = "cells" ∧ ¬ ("cell" : PySem.Str) = "outputs" ∧ ¬ ("registers" : PySem.Str) = "add" ∧ ¬ ("registers" : PySem.Str) = "and" ∧ ¬ ("registers" : PySem.Str) = "less" ∧ ¬ ("registers" : PySem.Str) = "load" ∧ ¬ ("registers" : PySem.Str) = "mul" ∧ ¬ ("registers" : PySem.Str) = "out" ∧ ¬ ("registers" : PySem.Str) = "store" ∧ ¬ ("registers" : PySem.Str) = "sub" ∧ ¬ ("registers" : PySem.Str) = "reg" ∧ ¬ ("registers" : PySem.Str) = "int" ∧ ¬ ("registers" : PySem.Str) = "loop" ∧ ¬ ("registers" : PySem.Str) = "cell" ∧ ¬ ("registers" : PySem.Str) = "cells" ∧ ¬ ("registers" : PySem.Str) = "outputs" ∧ ¬ ("cells" : PySem.Str) = "add" ∧ ¬ ("cells" : PySem.Str) = "and" ∧ ¬ ("cells" : PySem.Str) = "less" ∧ ¬ ("cells" : PySem.Str) = "load" ∧ ¬ ("cells" : PySem.Str) = "mul" ∧ ¬ ("cells" : PySem.Str) = "out" ∧ ¬ ("cells" : PySem.Str) = "store" ∧ ¬ ("cells" : PySem.Str) = "sub" ∧ ¬ ("cells" : PySem.Str) = "reg" ∧ ¬ ("cells" : PySem.Str) = "int" ∧ ¬ ("cells" : PySem.Str) = "loop" ∧ ¬ ("cells" : PySem.Str) = "cell" ∧ ¬ ("cells" : PySem.Str) = "registers" ∧ ¬ ("cells" : PySem.Str) = "outputs" ∧ ¬ ("outputs" : PySem.Str) = "add" ∧ ¬ ("outputs" : PySem.Str) = "and" ∧ ¬ ("outputs" : PySem.Str) = "less" ∧ ¬ ("outputs" : PySem.Str) = "load" ∧ ¬ ("outputs" : PySem.Str) = "mul" ∧ ¬ ("outputs" : PySem.Str) = "out" ∧ ¬ ("outputs" : PySem.Str) = "store" ∧ ¬ ("outputs" : PySem.Str) = "sub" ∧ ¬ ("outputs" : PySem.Str) = "reg" ∧ ¬ ("outputs" : PySem.Str) = "int" ∧ ¬ ("outputs" : PySem.Str) = "loop" ∧ ¬ ("outputs" : PySem.Str) = "cell" ∧ ¬ ("outputs" : PySem.Str) = "registers" ∧ ¬ ("outputs" : PySem.Str) = "cells" := by
  (repeat' apply And.intro) <;> decide +kernel
theorem strb : (("registers" : PySem.Str) == "cells") = false ∧ (("registers" : PySem.Str) == "outputs") = false ∧ (("cells" : PySem.Str) == "registers") = false ∧ (("cells" : PySem.Str) == "outputs") = false ∧ (("outputs" : PySem.Str) == "registers") = false ∧ (("outputs" : PySem.Str) == "cells") = false ∧ (("registers" : PySem.Str) == "registers") = true ∧ (("cells" : PySem.Str) == "cells") = true ∧ (("outputs" : PySem.Str) == "outputs") = true := by
  (repeat' apply And.intro) <;> decide +kernel
theorem snb : (("worth" : PySem.Str) == "registers") = false ∧ (("worth" : PySem.Str) == "cells") = false ∧ (("worth" : PySem.Str) == "outputs") = false ∧ (("execute" : PySem.Str) == "registers") = false ∧ (("execute" : PySem.Str) == "cells") = false ∧ (("execute" : PySem.Str) == "outputs") = false ∧ (("execute_loop" : PySem.Str) == "registers") = false ∧ (("execute_loop" : PySem.Str) == "cells") = false ∧ (("execute_loop" : PySem.Str) == "outputs") = false ∧ (("told" : PySem.Str) == "registers") = false ∧ (("told" : PySem.Str) == "cells") = false ∧ (("told" : PySem.Str) == "outputs") = false := by
  (repeat' apply And.intro) <;> decide +kernel
end Gen
end

section
set_option Elab.async false
set_option linter.all false
set_option maxRecDepth 100000
set_option autoImplicit false
namespace Rf
open PySem PySem.Spec L2
/-! zip of two sequences, each a list or a tuple -/
def SqX (k : Bool) (K : PySem.W.Frag) (H : Hp) (a : Addr) (xs : List V) : Prop := if k = true then SqT K H a xs else SqL K H a xs
def IterX (k : Bool) (h : Heap) (it a : Addr) (i : Nat) : Prop := if k = true then h.IsTupleIter it a i else h.IsListIter it a i
def SeqX (k : Bool) (h : Heap) (a : Addr) (its : Array Value) : Prop := if k = true then h.IsTuple a its else h.IsList a its
def itO (k : Bool) (a : Addr) : Obj := if k = true then { cls := .type "tuple_iterator", data := .fields #[.ref a, .int 0 0] } else { cls := .type "list_iterator", data := .fields #[.ref a, .int 0 0] }
theorem begins_x (k : Bool) (a : Addr) (its : Array Value) : Begins (.ref a) (itO k a) fun h => SeqX k h a its := by
  cases k
  · exact begins_list a its
  · exact begins_tuple a its
theorem draws_x {P : Program} {w : World} {A : Around} (k : Bool) (hh : A.handled = none) (it a : Addr) (ne : a ≠ it) (its : Array Value) : Draws P w A it [it, a] its.size (fun i v => its[i]? = some v) (fun i h => IterX k h it a i ∧ SeqX k h a its) := by
  cases k
  · exact Draws.list hh it a ne its
  · exact Draws.tuple hh it a ne its
theorem IterX.there {k : Bool} {h : Heap} {it a : Addr} {i : Nat} (x : IterX k h it a i) : ∃ o, h.get? it = some o ∧ ∀ v, o.data ≠ .cell v := by
  cases k
  · obtain ⟨o, z, _, d⟩ := x
    exact ⟨o, z, fun v q => by rw [d] at q; cases q⟩
  · obtain ⟨o, z, _, d⟩ := x
    exact ⟨o, z, fun v q => by rw [d] at q; cases q⟩
theorem IterX.keep {k : Bool} {h h' : Heap} {it a : Addr} {i : Nat} (x : IterX k h it a i) (q : ∀ o, h.get? it = some o → h'.get? it = some o) : IterX k h' it a i := by
  cases k
  · obtain ⟨o, z, r⟩ := x
    exact ⟨o, q o z, r⟩
  · obtain ⟨o, z, r⟩ := x
    exact ⟨o, q o z, r⟩
theorem iterX_new {k : Bool} {h : Heap} {it a : Addr} (x : h.get? it = some (itO k a)) : IterX k h it a 0 := by
  cases k
  · exact ⟨_, x, rfl, rfl⟩
  · exact ⟨_, x, rfl, rfl⟩
section
variable {X : Cx} {pins : List (Addr × Obj)} {σ : L2.St} {H : Hp} {s : Shared}
theorem sqX_at {k : Bool} {a : Addr} {xs : List V} (I : L2.Inv X pins σ H s) (h : SqX k X.K H a xs) : ∃ its : List Value, Vals xs its ∧ SeqX k s.heap a its.toArray ∧ a < s.heap.objs.size := by
  cases k
  · obtain ⟨its, rv, pl, _⟩ := I.list h
    exact ⟨its, rv, pl.isList, pl.lt⟩
  · obtain ⟨its, rv, pl, _⟩ := I.tuple h
    obtain ⟨o, z, _⟩ := id pl
    exact ⟨its, rv, pl, Heap.lt_size z⟩
theorem sqX_inj {k : Bool} {a : Addr} {xs ys : List V} (I : L2.Inv X pins σ H s) (h : SqX k X.K H a xs) (h' : SqX k X.K H a ys) : xs = ys := by
  cases k
  · exact I.list_inj h h'
  · exact I.tuple_inj h h'
end
def ItzX (K : PySem.W.Frag) (k l : Bool) (a b : Addr) : It :=
  ⟨fun i H => ∃ (xs ys : List V) (x y : V), SqX k K H a xs ∧ SqX l K H b ys ∧ xs[i]? = some x ∧ ys[i]? = some y,
    fun i H v H' => ∃ T x y, v = .ref T ∧ H T = none ∧ (∃ ob : Obj, ob.dict = none ∧ H' = upd H T (.frz ob (.tup [x, y]))) ∧ (∀ xs, SqX k K H a xs → xs[i]? = some x) ∧ (∀ ys, SqX l K H b ys → ys[i]? = some y),
    fun i H => ∃ xs ys : List V, SqX k K H a xs ∧ SqX l K H b ys ∧ i = min xs.length ys.length⟩
def zcells (z TI TO i1 i2 : Addr) : List Addr := [z, TI, TO, i1, i2]
theorem zc_mem {c z TI TO i1 i2 : Addr} (h : c ∈ zcells z TI TO i1 i2) : c = z ∨ c = TI ∨ c = TO ∨ c = i1 ∨ c = i2 := by simpa [zcells] using h
theorem zc_out {c z TI TO i1 i2 : Addr} (h : ¬ c ∈ zcells z TI TO i1 i2) : c ≠ z ∧ c ≠ TI ∧ c ≠ TO ∧ c ≠ i1 ∧ c ≠ i2 := by simpa [zcells, not_or] using h
theorem turn_zx {P : Program} {w : World} {K : PySem.W.Frag} {es : List Expr} {n : Nat} {ps : Pos} {k l : Bool} {a b z TI TO i1 i2 : Addr} (S : ZipSep2 z TI TO i1 i2 [i1, a] [i2, b]) (na : a ≠ i1) (nb : b ≠ i2) :
    Turn P w K (.Tuple es n ps) (ItzX K k l a b) (zcells z TI TO i1 i2) z (fun i h => IsZip h z TI TO .none ∧ IsTupOf2 h TI (.ref i1) (.ref i2) ∧ (∃ x y, IsTupOf2 h TO x y) ∧ IterX k h i1 a i ∧ IterX l h i2 b i) where
  mem := by simp [zcells]
  obj := fun i h st c hc => by
    obtain ⟨h1, h2, ⟨x, y, h3⟩, h4, h5⟩ := st
    rcases zc_mem hc with q | q | q | q | q <;> rw [q]
    · exact ⟨_, h1, nofun⟩
    · exact ⟨_, h2, nofun⟩
    · exact ⟨_, h3, nofun⟩
    · exact h4.there
    · exact h5.there
  keep := fun i h h' st q => by
    obtain ⟨h1, h2, ⟨x, y, h3⟩, h4, h5⟩ := st
    have m : ∀ c, c = z ∨ c = TI ∨ c = TO ∨ c = i1 ∨ c = i2 → c ∈ zcells z TI TO i1 i2 := fun c hc => by simpa [zcells] using hc
    exact ⟨q z (m z (.inl rfl)) _ h1, q TI (m TI (.inr (.inl rfl))) _ h2, ⟨x, y, q TO (m TO (.inr (.inr (.inl rfl)))) _ h3⟩, h4.keep (q i1 (m i1 (.inr (.inr (.inr (.inl rfl)))))), h5.keep (q i2 (m i2 (.inr (.inr (.inr (.inr rfl))))))⟩
  item := by
    intro X e1 e2 e3 hc i pins s σ H E I fo st go
    subst e1 e2 e3
    obtain ⟨h1, h2, ⟨x, y, h3⟩, h4, h5⟩ := st
    obtain ⟨xs, ys, p, q, sx, sy, gx, gy⟩ := go
    obtain ⟨us, ru, au, _⟩ := sqX_at I sx
    obtain ⟨vs, rv, av, _⟩ := sqX_at I sy
    obtain ⟨u, hu, ru1⟩ := ru.get gx
    obtain ⟨v, hv, rv1⟩ := rv.get gy
    have lu : i < us.toArray.size := by rw [List.size_toArray]; exact (List.getElem?_eq_some_iff.mp hu).1
    have lv : i < vs.toArray.size := by rw [List.size_toArray]; exact (List.getElem?_eq_some_iff.mp hv).1
    have hd := I.ok.hd hc
    have zl : z < s.heap.objs.size := Heap.lt_size h1
    refine wpAny_pyNext_zipD2_item S (draws_x (A := X.A.in1) k hd i1 a na us.toArray) (draws_x (A := X.A.in1) l hd i2 b nb vs.toArray) h1 h2 h3 ⟨h4, au⟩ ⟨h5, av⟩ lu lv fun u1 v1 m tk gu gv k1 k2 k3 k4 k5 k6 k7 => ?_
    rw [List.getElem?_toArray, hu] at gu
    rw [List.getElem?_toArray, hv] at gv
    cases gu
    cases gv
    refine ⟨_, rfl, wpAny_letOwnedTupleGo_zip (s := { s with heap := m, toks := tk }) k1 fun m2 j1 sb => ?_⟩
    have keep : ∀ c ob, ¬ c ∈ zcells z TI TO i1 i2 → s.heap.get? c = some ob → m2.get? c = some ob := fun c ob hn hq => by
      obtain ⟨n1, n2, n3, n4, n5⟩ := zc_out hn
      exact (sb.2 c n1).trans (k7 c ob n1 n3 n4 n5 hq)
    have new2 : m2.get? s.heap.objs.size = some { cls := .type "tuple", data := .seq #[u, v] } := (sb.2 _ (Nat.ne_of_gt zl)).trans k5
    have ob : ObjOk X.prog X.w (upd H s.heap.objs.size (.frz { cls := .type "tuple", data := .seq #[u, v] } (.tup [p, q]))) m2 s.heap.objs.size (.frz { cls := .type "tuple", data := .seq #[u, v] } (.tup [p, q])) := ⟨new2, (by decide : 2 ≤ sizeLine), [u, v], .cons ru1 (.cons rv1 .nil), ⟨_, new2, rfl, _, rfl⟩⟩
    refine ⟨.ref s.heap.objs.size, upd H s.heap.objs.size (.frz { cls := .type "tuple", data := .seq #[u, v] } (.tup [p, q])), I.turnedNew (t' := tk) keep fo (Nat.le_refl _) ob, rfl, ?_, ?_, fun c hcm => ?_⟩
    · exact ⟨_, p, q, rfl, I.hok.fresh (Nat.le_refl _), ⟨_, rfl, rfl⟩, fun ws hw => by rw [sqX_inj I hw sx]; exact gx, fun ws hw => by rw [sqX_inj I hw sy]; exact gy⟩
    · refine ⟨j1, (sb.2 TI S.TIz).trans (k7 TI _ S.TIz S.TITO S.TIi1 S.TIi2 h2), ⟨u, v, (sb.2 TO S.TOz).trans k2⟩, k3.1.keep fun o => ?_, k4.1.keep fun o => ?_⟩
      · exact fun g => (sb.2 i1 S.zi1.symm).trans g
      · exact fun g => (sb.2 i2 S.zi2.symm).trans g
    · have lt : c < s.heap.objs.size := by
        rcases zc_mem hcm with q | q | q | q | q <;> rw [q]
        · exact zl
        · exact Heap.lt_size h2
        · exact Heap.lt_size h3
        · obtain ⟨o, g, _⟩ := h4.there; exact Heap.lt_size g
        · obtain ⟨o, g, _⟩ := h5.there; exact Heap.lt_size g
      rw [upd_ne (Nat.ne_of_lt lt)]
      exact (fo c hcm).1
  done := by
    intro X e1 e2 e3 hc i pins s σ H E I fo st go
    subst e1 e2 e3
    obtain ⟨h1, h2, ⟨x, y, h3⟩, h4, h5⟩ := st
    obtain ⟨xs, ys, sx, sy, hi⟩ := go
    obtain ⟨us, ru, au, _⟩ := sqX_at I sx
    obtain ⟨vs, rv, av, _⟩ := sqX_at I sy
    have l1 := ru.length
    have l2 := rv.length
    have hd := I.ok.hd hc
    refine wpAny_pyNext_zipD2_end S (draws_x (A := X.A.in1) k hd i1 a na us.toArray) (draws_x (A := X.A.in1) l hd i2 b nb vs.toArray) h1 h2 h3 ⟨h4, au⟩ ⟨h5, av⟩ (by rw [List.size_toArray]; omega) (by rw [List.size_toArray]; omega) (by rw [List.size_toArray, List.size_toArray]; omega) fun m tk k7 => ?_
    refine ⟨rfl, I.turnedL (t' := tk) (ch := zcells z TI TO i1 i2) (fun c ob hn hq => ?_) fo⟩
    obtain ⟨n1, n2, n3, n4, n5⟩ := zc_out hn
    exact k7 c ob n1 n3 n4 n5 hq
  self := fun A i s Q E st h => wpAny_pyIter_zip st.1 h
def iZx (K : PySem.W.Frag) (ta : TA) : TI := fun σ H R => ta σ H fun vs H1 => ∃ k l a b xs ys, vs = [.ref a, .ref b] ∧ SqX k K H1 a xs ∧ SqX l K H1 b ys ∧ R (ItzX K k l a b) H1
theorem pi_zx {X : Cx} {e f : Expr} {ta : TA} {p pos tp : Pos} {es : List Expr} {n : Nat} (hg : Gl X "zip") (hm : X.mg "zip" = none) (ha : PA X [e, f] ta) (hs : starEach [e, f] X.env = (false, eval e X.env) :: starEach [f] X.env := by rfl)
    (hpl : (backTo pos (starEach [f] X.env)).any (·.1) = false := by rfl) : PI X (.Tuple es n tp) (.Call (.Name "zip" p) [e, f] [] pos) (iZx X.K ta) := by
  refine ⟨fun pins s σ H R I h => wpAny_Call_Name_kw (ld_blt I hg hm PyProof.Rows.boot_zip (PyProof.Rows.callWith_type1 (thn (ha.run pos pins s σ H _ I h) fun us s1 ⟨vs, H1, I1, r, q⟩ => ?_) hs hpl))⟩
  obtain ⟨k, l, a, b, xs, ys, rfl, sx, sy, q⟩ := q
  obtain ⟨u, v, rfl, r1, r2⟩ := vals2 r
  obtain rfl : u = Value.ref a := r1
  obtain rfl : v = Value.ref b := r2
  obtain ⟨us, ru, au, la⟩ := sqX_at I1 sx
  obtain ⟨vs, rv, av, lb⟩ := sqX_at I1 sy
  refine zip_begins2 (begins_x k a us.toArray) (begins_x l b vs.toArray) au av fun m h1 h2 h3 g1 g2 sz kp => wpAny_pyIter_zip h1 ?_
  generalize hN : s1.heap.objs.size = N at *
  have S : ZipSep2 (N + 4) (N + 2) (N + 3) N (N + 1) [N, a] [N + 1, b] := zip_sep2 (fp1 := [a]) (fp2 := [b]) (by simpa using la) (by simpa using lb)
  refine ⟨N + 4, zcells (N + 4) (N + 2) (N + 3) N (N + 1), _, _, H1, rfl, I1.kept (t' := s1.toks) kp, turn_zx (k := k) (l := l) (a := a) (b := b) S (Nat.ne_of_lt la) (Nat.ne_of_lt (Nat.lt_succ_of_lt lb)), ⟨h1, h2, ⟨_, _, h3⟩, iterX_new g1, iterX_new g2⟩, fun c hc => ?_, q⟩
  have lo : s1.heap.objs.size ≤ c := by
    rw [hN]
    rcases zc_mem hc with q | q | q | q | q <;> rw [q]
    · exact Nat.le_add_right _ _
    · exact Nat.le_add_right _ _
    · exact Nat.le_add_right _ _
    · exact Nat.le_refl _
    · exact Nat.le_add_right _ _
  exact I1.fpOk lo (I1.hok.fresh lo)
end Rf
end

section
set_option Elab.async false
set_option linter.all false
set_option maxRecDepth 100000
set_option autoImplicit false
namespace Rf
open PySem PySem.Spec L2
section
variable {X : Cx} {cl : Nat → Addr}
variable {a b c e o : Expr} {es : List Expr} {pos p apos pos' cpos : Pos} {ma mb mc me mo mi : Ex} {x f : Str} {mA : Ax}
/-! ### zip, any two sequences -/
def seqQ (p : PV) (m : Mem) : Option Sq := match p with
  | .tup ps => some ⟨ps, []⟩
  | .ref _ => sqOf p m
  | _ => none
theorem seqQ_ok {ρ : List Addr} {H : Hp} {m : Mem} {p : PV} {x : V} {s : Sq} (hm : RelM X.K cl ρ H m) (hp : Rep X.K ρ H p x) (h : seqQ p m = some s) : ∃ k a, x = .ref a ∧ okG s.guard m = true ∧ (∃ xs, SqX k X.K H a xs) ∧
    ∀ (ρ' : List Addr) (H' : Hp) (m' : Mem), Ext X.K ρ H ρ' H' → RelM X.K cl ρ' H' m' → okG s.guard m' = true → ∃ xs, SqX k X.K H' a xs ∧ RepL X.K ρ' H' s.items xs := by
  cases p with
  | tup ps =>
    cases h
    rw [rep_tup] at hp
    obtain ⟨a, xs, rfl, h1, h2⟩ := hp
    replace h1 := h1.t
    exact ⟨true, a, rfl, rfl, ⟨xs, h1⟩, fun ρ' H' m' e1 _ _ => ⟨xs, e1.tup _ _ h1, e1.repL _ _ h2⟩⟩
  | ref i =>
    obtain ⟨a, rfl, k1, ⟨xs, z1⟩, w1⟩ := sqOf_ok hm hp (show sqOf (.ref i) m = some s from h)
    exact ⟨false, a, rfl, k1, ⟨xs, z1⟩, w1⟩
  | _ => cases h
def zipX : List PV → Mem → Option Sq
  | [p, q], m => (seqQ p m).bind fun s => (seqQ q m).map fun t => ⟨(s.items.zip t.items).map fun z => .tup [z.1, z.2], s.guard ++ t.guard⟩
  | _, _ => none
def iZx' (a : Ax) : Ix := fun env m => (a env m).bind fun r => (zipX r.1 r.2).map (·, r.2)
theorem ri_zipX {elts : List Expr} {kk : Nat} {tpos : Pos} (hg : Gl X "zip") (hm : X.mg "zip" = none) (ha : RA cl X [a, b] mA) (hs : starEach [a, b] X.env = (false, eval a X.env) :: starEach [b] X.env := by rfl) (hpl : (backTo pos (starEach [b] X.env)).any (·.1) = false := by rfl) :
    RI cl X (.Tuple elts kk tpos) (.Call (.Name "zip" p) [a, b] [] pos) (iZx' mA) := PI.imp (pi_zx hg hm ha hs hpl) fun σ H R ⟨ρ, env, mem, r, hm, hE, h, q⟩ => by
  unfold iZx' at h
  obtain ⟨r1, e1, h⟩ := Option.bind_eq_some_iff.mp h
  obtain ⟨s, e2, h⟩ := Option.map_eq_some_iff.mp h
  subst h
  refine ⟨ρ, env, mem, r1, hm, hE, e1, fun ρ1 vs H1 x1 m1 p1 => ?_⟩
  unfold zipX at e2
  split at e2
  · rename_i p q' hpq
    obtain ⟨s1, e3, e2⟩ := Option.bind_eq_some_iff.mp e2
    obtain ⟨s2, e4, e2⟩ := Option.map_eq_some_iff.mp e2
    subst e2
    rw [hpq] at p1
    obtain ⟨x, xs, rfl, i1, i2⟩ := p1.inv
    obtain ⟨y, ys, rfl, i3, i4⟩ := i2.inv
    obtain rfl := i4.inv0
    obtain ⟨k, a, rfl, k1, ⟨us, z1⟩, w1⟩ := seqQ_ok m1 i1 e3
    obtain ⟨l, b, rfl, k2, ⟨ws, z2⟩, w2⟩ := seqQ_ok m1 i3 e4
    refine ⟨k, l, a, b, us, ws, rfl, z1, z2, q ρ1 H1 _ x1 m1 (okG_append.mpr ⟨k1, k2⟩) ⟨fun ρ' H' m i p x2 m2 k hi => ?_, fun ρ' H' m x2 m2 k => ?_⟩⟩
    · obtain ⟨ka, kb⟩ := okG_append.mp k
      obtain ⟨as, a1, a2⟩ := w1 ρ' H' m x2 m2 ka
      obtain ⟨bs, b1, b2⟩ := w2 ρ' H' m x2 m2 kb
      simp only [List.getElem?_map, Option.map_eq_some_iff] at hi
      obtain ⟨⟨u, w⟩, c1, c2⟩ := hi
      rw [List.getElem?_zip_eq_some] at c1
      obtain ⟨x, a3, a4⟩ := a2.get c1.1
      obtain ⟨y, b3, b4⟩ := b2.get c1.2
      refine ⟨⟨as, bs, x, y, a1, b1, a3, b3⟩, fun v H'' ⟨T, x', y', e1, e2, ⟨ob, hob, e3⟩, e4, e5⟩ => ?_⟩
      subst e1 e3 c2
      obtain rfl := Option.some.inj ((e4 as a1).symm.trans a3)
      obtain rfl := Option.some.inj ((e5 bs b1).symm.trans b3)
      exact new_tup hob m2 (.cons a4 (.cons b4 .nil)) e2
    · obtain ⟨ka, kb⟩ := okG_append.mp k
      obtain ⟨as, a1, a2⟩ := w1 ρ' H' m x2 m2 ka
      obtain ⟨bs, b1, b2⟩ := w2 ρ' H' m x2 m2 kb
      refine ⟨as, bs, a1, b1, ?_⟩
      simp only [List.length_map, List.length_zip]
      rw [a2.length, b2.length]
  · cases e2
/-! ### methods of texts -/
def splitG : Mg := fun p xs m => match p, xs with
  | .str a, [.str b] => if (b.length == 0) = false ∧ a.length + 2 ≤ sizeLine then some (.ref m.length, m ++ [.lst ((Txt.split a b).map PV.str)]) else none
  | _, _ => none
theorem repL_strs {K : PySem.W.Frag} {ρ : List Addr} {H : Hp} : ∀ ys : List Str, RepL K ρ H (ys.map PV.str) (ys.map V.str)
  | [] => .nil
  | y :: ys => .cons (by rw [rep_str]) (repL_strs ys)
theorem mx_split : MtR X "str.split" (GM X.K cl splitG) := by
  intro pins s σ H x xs v us Q I rx rs ⟨ρ, p, ps, mem, r, hm, hp, hps, h, k⟩
  unfold splitG at h
  split at h
  · rename_i a b
    split at h
    · rename_i hc
      obtain rfl := Option.some.inj h
      rw [rep_str] at hp
      subst hp
      obtain ⟨w, ws, rfl, i1, i2⟩ := hps.inv
      obtain rfl := i2.inv0
      rw [rep_str] at i1
      subst i1
      refine mt_split pins s σ H _ _ v us Q I rx rs ⟨a, b, rfl, rfl, hc.1, hc.2, fun p hp => ?_⟩
      obtain ⟨y1, y2, y3⟩ := new_lst hm (repL_strs (Txt.split a b)) hp
      exact k _ _ _ y1 y2 y3
    · cases h
  · cases h
theorem rx_split (ho : RX cl X o mo) (ha : RX cl X e me)
    (hbase : attributeBase o "split" X.env (eval o X.env) = eval o X.env := by rfl)
    (hfew : ((backTo cpos (starEach [e] X.env)).all (fun x => !x.1) && (backToKw cpos (keywordEach [] X.env)).all (fun x => x.1.isSome)
      && decide (([e] : List Expr).length + ([] : List Keyword).length + (if ([] : List Keyword).isEmpty then 0 else 1) < 30)) = true := by rfl)
    (hline : (apos.endLine == cpos.line) = true := by rfl) (hs : starEach [e] X.env = (false, eval e X.env) :: starEach [] X.env := by rfl) (hplain : (backTo cpos (starEach [] X.env)).any (·.1) = false := by rfl) :
    RX cl X (.Call (.Attribute o "split" apos) [e] [] cpos) (xM chkS splitG mo (aCons me aNil)) :=
  rx_m PySem.F.plainAttrs_str PySem.F.slot_str_split PySem.F.type_str_split mx_split (fun _ _ _ _ _ => chkS_ok) ho (ra_cons ha ra_nil hs) hbase hfew hline hs hplain
def strsP : List PV → Option (List Str)
  | [] => some []
  | .str y :: ps => (strsP ps).map (y :: ·)
  | _ :: _ => none
theorem strsP_eq : ∀ {ps : List PV} {ys : List Str}, strsP ps = some ys → ps = ys.map PV.str
  | [], ys, h => by cases h; rfl
  | .str y :: ps, ys, h => by
    obtain ⟨zs, h1, rfl⟩ := Option.map_eq_some_iff.mp h
    rw [strsP_eq h1]
    rfl
  | .int _ :: _, _, h => by cases h
  | .non :: _, _, h => by cases h
  | .bl _ :: _, _, h => by cases h
  | .tup _ :: _, _, h => by cases h
  | .ref _ :: _, _, h => by cases h
theorem repL_strs_inv {K : PySem.W.Frag} {ρ : List Addr} {H : Hp} : ∀ {ys : List Str} {xs : List V}, RepL K ρ H (ys.map PV.str) xs → xs = ys.map V.str
  | [], xs, h => h.inv0
  | y :: ys, xs, h => by
    obtain ⟨w, ws, rfl, i1, i2⟩ := RepL.inv h
    rw [rep_str] at i1
    rw [i1, repL_strs_inv i2]
    rfl
def joinG : Mg := fun p xs m => match p, xs with
  | .str a, [q] => (itemsB q m).bind fun ps => (strsP ps).bind fun ys => if (ys.map (·.length)).sum + ys.length * a.length ≤ 16777216 then some (.str (Txt.join a ys), m) else none
  | _, _ => none
theorem mx_join : MtR X "str.join" (GM X.K cl joinG) := by
  intro pins s σ H x xs v us Q I rx rs ⟨ρ, p, ps, mem, r, hm, hp, hps, h, k⟩
  unfold joinG at h
  split at h
  · rename_i a q
    obtain ⟨qs, h1, h⟩ := Option.bind_eq_some_iff.mp h
    obtain ⟨ys, h2, h⟩ := Option.bind_eq_some_iff.mp h
    split at h
    · rename_i hc
      obtain rfl := Option.some.inj h
      obtain rfl := strsP_eq h2
      rw [rep_str] at hp
      subst hp
      obtain ⟨w, ws, rfl, i1, i2⟩ := hps.inv
      obtain rfl := i2.inv0
      obtain ⟨t, zs, rfl, z1, z2⟩ := seq_of hm i1 (itemsB_seq h1)
      obtain rfl := repL_strs_inv z2
      exact mt_join pins s σ H _ _ v us Q I rx rs ⟨a, t, ys, rfl, rfl, z1, hc, k ρ _ _ .refl hm (by rw [rep_str])⟩
    · cases h
  · cases h
theorem rx_join (ho : RX cl X o mo) (ha : RX cl X e me)
    (hbase : attributeBase o "join" X.env (eval o X.env) = eval o X.env := by rfl)
    (hfew : ((backTo cpos (starEach [e] X.env)).all (fun x => !x.1) && (backToKw cpos (keywordEach [] X.env)).all (fun x => x.1.isSome)
      && decide (([e] : List Expr).length + ([] : List Keyword).length + (if ([] : List Keyword).isEmpty then 0 else 1) < 30)) = true := by rfl)
    (hline : (apos.endLine == cpos.line) = true := by rfl) (hs : starEach [e] X.env = (false, eval e X.env) :: starEach [] X.env := by rfl) (hplain : (backTo cpos (starEach [] X.env)).any (·.1) = false := by rfl) :
    RX cl X (.Call (.Attribute o "join" apos) [e] [] cpos) (xM chkS joinG mo (aCons me aNil)) :=
  rx_m PySem.F.plainAttrs_str PySem.F.slot_str_join PySem.F.type_str_join mx_join (fun _ _ _ _ _ => chkS_ok) ho (ra_cons ha ra_nil hs) hbase hfew hline hs hplain
def startsG : Mg := fun p xs m => match p, xs with
  | .str a, [.str b] => some (.bl (Txt.startswith a b), m)
  | _, _ => none
theorem mx_starts : MtR X "str.startswith" (GM X.K cl startsG) := by
  intro pins s σ H x xs v us Q I rx rs ⟨ρ, p, ps, mem, r, hm, hp, hps, h, k⟩
  unfold startsG at h
  split at h
  · rename_i a b
    obtain rfl := Option.some.inj h
    rw [rep_str] at hp
    subst hp
    obtain ⟨w, ws, rfl, i1, i2⟩ := hps.inv
    obtain rfl := i2.inv0
    rw [rep_str] at i1
    subst i1
    exact mt_startswith pins s σ H _ _ v us Q I rx rs ⟨a, b, rfl, rfl, k ρ _ _ .refl hm (by rw [rep_bl])⟩
  · cases h
theorem rx_starts (ho : RX cl X o mo) (ha : RX cl X e me)
    (hbase : attributeBase o "startswith" X.env (eval o X.env) = eval o X.env := by rfl)
    (hfew : ((backTo cpos (starEach [e] X.env)).all (fun x => !x.1) && (backToKw cpos (keywordEach [] X.env)).all (fun x => x.1.isSome)
      && decide (([e] : List Expr).length + ([] : List Keyword).length + (if ([] : List Keyword).isEmpty then 0 else 1) < 30)) = true := by rfl)
    (hline : (apos.endLine == cpos.line) = true := by rfl) (hs : starEach [e] X.env = (false, eval e X.env) :: starEach [] X.env := by rfl) (hplain : (backTo cpos (starEach [] X.env)).any (·.1) = false := by rfl) :
    RX cl X (.Call (.Attribute o "startswith" apos) [e] [] cpos) (xM chkS startsG mo (aCons me aNil)) :=
  rx_m PySem.F.plainAttrs_str PySem.F.slot_str_startswith PySem.F.type_str_startswith mx_starts (fun _ _ _ _ _ => chkS_ok) ho (ra_cons ha ra_nil hs) hbase hfew hline hs hplain
def isasciiG : Mg := fun p xs m => match p, xs with
  | .str a, [] => some (.bl (Txt.isascii a), m)
  | _, _ => none
def isdigitG : Mg := fun p xs m => match p, xs with
  | .str a, [] => some (.bl (Txt.isdigit a), m)
  | _, _ => none
theorem mx_isascii : MtR X "str.isascii" (GM X.K cl isasciiG) := by
  intro pins s σ H x xs v us Q I rx rs ⟨ρ, p, ps, mem, r, hm, hp, hps, h, k⟩
  unfold isasciiG at h
  split at h
  · obtain rfl := Option.some.inj h
    rw [rep_str] at hp
    subst hp
    obtain rfl := hps.inv0
    exact mt_isascii pins s σ H _ _ v us Q I rx rs ⟨_, rfl, rfl, trivial, k ρ _ _ .refl hm (by rw [rep_bl])⟩
  · cases h
theorem mx_isdigit : MtR X "str.isdigit" (GM X.K cl isdigitG) := by
  intro pins s σ H x xs v us Q I rx rs ⟨ρ, p, ps, mem, r, hm, hp, hps, h, k⟩
  unfold isdigitG at h
  split at h
  · obtain rfl := Option.some.inj h
    rw [rep_str] at hp
    subst hp
    obtain rfl := hps.inv0
    exact mt_isdigit pins s σ H _ _ v us Q I rx rs ⟨_, rfl, rfl, trivial, k ρ _ _ .refl hm (by rw [rep_bl])⟩
  · cases h
theorem rx_isascii (ho : RX cl X o mo) (hbase : attributeBase o "isascii" X.env (eval o X.env) = eval o X.env := by rfl) (hline : (apos.endLine == cpos.line) = true := by rfl) :
    RX cl X (.Call (.Attribute o "isascii" apos) [] [] cpos) (xM chkS isasciiG mo aNil) :=
  rx_m0 PySem.F.plainAttrs_str PySem.F.slot_str_isascii PySem.F.type_str_isascii mx_isascii (fun _ _ _ _ _ => chkS_ok) ho hbase hline
theorem rx_isdigit (ho : RX cl X o mo) (hbase : attributeBase o "isdigit" X.env (eval o X.env) = eval o X.env := by rfl) (hline : (apos.endLine == cpos.line) = true := by rfl) :
    RX cl X (.Call (.Attribute o "isdigit" apos) [] [] cpos) (xM chkS isdigitG mo aNil) :=
  rx_m0 PySem.F.plainAttrs_str PySem.F.slot_str_isdigit PySem.F.type_str_isdigit mx_isdigit (fun _ _ _ _ _ => chkS_ok) ho hbase hline
end
end Rf
end

section
set_option Elab.async false
set_option linter.all false
set_option maxRecDepth 100000
set_option autoImplicit false
namespace Rf
open PySem PySem.Spec L2
section
variable {X : Cx} {cl : Nat → Addr}
variable {a b c e o : Expr} {es : List Expr} {pos p apos pos' cpos : Pos} {ma mb mc me mo mi : Ex} {x f : Str} {mA : Ax}
/-! ### extend -/
def extG : Mg := fun p xs m => match p, xs with
  | .ref i, [.ref j] => match m[i]?, m[j]? with
    | some (.lst ps), some (.lst qs) => if ps.length + qs.length ≤ sizeLine then some (.non, m.set i (.lst (ps ++ qs))) else none
    | _, _ => none
  | _, _ => none
theorem mx_ext : MtR X "list.extend" (GM X.K cl extG) := by
  intro pins s σ H x xs v us Q I rx rs ⟨ρ, p, ps, mem, r, hm, hp, hps, h, k⟩
  unfold extG at h
  split at h
  · rename_i i j
    split at h
    · rename_i qs ws z1 z2
      split at h
      · rename_i hl
        obtain rfl := Option.some.inj h
        rw [rep_ref] at hp
        obtain ⟨a, ha, rfl⟩ := hp
        obtain ⟨w, vs, rfl, i1, i2⟩ := hps.inv
        obtain rfl := i2.inv0
        rw [rep_ref] at i1
        obtain ⟨b, hb, rfl⟩ := i1
        obtain ⟨ys, y1, y2⟩ := hm.ok i a _ ha z1
        obtain ⟨zs, y3, y4⟩ := hm.ok j b _ hb z2
        have x3 : Ext X.K ρ H ρ (upd H a (.lst (ys ++ zs))) := ext_set hm ha z1 rfl
        exact mt_extend pins s σ H _ _ v us Q I rx rs ⟨a, b, ys, zs, rfl, rfl, y1, y3, by rw [y2.length, y4.length]; exact hl, k ρ _ _ x3 (hm.set ha z1 rfl rfl ⟨_, upd_same, (x3.repL _ _ y2).append (x3.repL _ _ y4)⟩) (by rw [Rep])⟩
      · cases h
    · cases h
  · cases h
theorem rx_extend (ho : RX cl X o mo) (ha : RX cl X e me)
    (hbase : attributeBase o "extend" X.env (eval o X.env) = eval o X.env := by rfl)
    (hfew : ((backTo cpos (starEach [e] X.env)).all (fun x => !x.1) && (backToKw cpos (keywordEach [] X.env)).all (fun x => x.1.isSome)
      && decide (([e] : List Expr).length + ([] : List Keyword).length + (if ([] : List Keyword).isEmpty then 0 else 1) < 30)) = true := by rfl)
    (hline : (apos.endLine == cpos.line) = true := by rfl) (hs : starEach [e] X.env = (false, eval e X.env) :: starEach [] X.env := by rfl) (hplain : (backTo cpos (starEach [] X.env)).any (·.1) = false := by rfl) :
    RX cl X (.Call (.Attribute o "extend" apos) [e] [] cpos) (xM chkL extG mo (aCons me aNil)) :=
  rx_m PySem.F.plainAttrs_list PySem.F.slot_list_extend PySem.F.type_list_extend mx_ext (fun _ _ _ _ _ => chkL_ok) ho (ra_cons ha ra_nil hs) hbase hfew hline hs hplain
/-! ### f-strings -/
def fmtG : PV → Mem → Option (PV × Mem)
  | .str y, m => if y.length ≤ sizeLine then some (.str y, m) else none
  | .int i, m => if i.natAbs < 2 ^ 1900 then some (.str (toString i), m) else none
  | _, _ => none
theorem rx_fmt (h : RX cl X e me) : RX cl X (.FormattedValue e (-1) none pos) (x1 fmtG me) := PE.imp (pe_fmt h) fun σ H Q hw => by
  obtain ⟨ρ, env, mem, r, hm, hE, h1, q⟩ := hw
  unfold x1 at h1
  obtain ⟨r1, e1, h2⟩ := Option.bind_eq_some_iff.mp h1
  refine ⟨ρ, env, mem, r1, hm, hE, e1, fun ρ1 v H1 x1 m1 p1 => ?_⟩
  obtain ⟨p, mm⟩ := r1
  replace h2 : fmtG p mm = some r := h2
  replace p1 : Rep X.K ρ1 H1 p v := p1
  unfold fmtG at h2
  split at h2
  · split at h2
    · rename_i y hl
      cases h2
      rw [rep_str] at p1
      subst p1
      exact .inl ⟨_, rfl, hl, q _ _ _ x1 m1 (by rw [rep_str])⟩
    · cases h2
  · split at h2
    · rename_i i hl
      cases h2
      rw [rep_int] at p1
      subst p1
      exact .inr ⟨_, rfl, Nat.lt_of_lt_of_le (PySem.Flt.log2_lt_of (by decide) hl) (by decide), q _ _ _ x1 m1 (by rw [rep_str])⟩
    · cases h2
  · cases h2
def xJs : List Ex → Str → Ex
  | [], acc => fun _ m => some (.str acc, m)
  | g :: gs, acc => fun env m => (g env m).bind fun r => match r.1 with
    | .str y => if (acc ++ y).length ≤ sizeLine then xJs gs (acc ++ y) env r.2 else none
    | _ => none
inductive RJ (cl : Nat → Addr) (X : Cx) : List Expr → List Ex → Prop where
  | nil : RJ cl X [] []
  | cons {e : Expr} {m : Ex} {es : List Expr} {ms : List Ex} (h : RX cl X e m) (r : RJ cl X es ms) : RJ cl X (e :: es) (m :: ms)
theorem RJ.pj {ms : List Ex} (h : RJ cl X es ms) : PJ X es (ms.map (TX X.K cl)) := by
  induction h with
  | nil => exact .nil
  | cons h _ ih => exact .cons h ih
theorem js_of : ∀ {ms : List Ex} {acc : Str} {σ : L2.St} {H : Hp} {Q : VK}, TX X.K cl (xJs ms acc) σ H Q → tJs (ms.map (TX X.K cl)) acc σ H fun out H1 => Q (.str out) H1
  | [], acc, σ, H, Q, ⟨ρ, env, mem, r, hm, hE, h, q⟩ => by
    cases h
    exact q _ _ _ .refl hm (by rw [rep_str])
  | g :: gs, acc, σ, H, Q, ⟨ρ, env, mem, r, hm, hE, h, q⟩ => by
    unfold xJs at h
    obtain ⟨⟨p, mm⟩, e1, h2⟩ := Option.bind_eq_some_iff.mp h
    refine ⟨ρ, env, mem, _, hm, hE, e1, fun ρ1 v H1 x1 m1 p1 => ?_⟩
    cases p with
    | str y =>
      replace h2 : (if (acc ++ y).length ≤ sizeLine then xJs gs (acc ++ y) env mm else none) = some r := h2
      split at h2
      · rename_i hl
        replace p1 : Rep X.K ρ1 H1 (.str y) v := p1
        rw [rep_str] at p1
        exact ⟨y, p1, hl, js_of ⟨ρ1, env, mm, r, m1, hE.ext x1, h2, q.ext x1⟩⟩
      · cases h2
    | _ => cases h2
theorem rx_joined {v1 v2 : Expr} {rest : List Expr} {ms : List Ex} (h : RJ cl X (v1 :: v2 :: rest) ms) : RX cl X (.JoinedStr (v1 :: v2 :: rest) pos) (xJs ms Str.empty) := PE.imp (pe_joined h.pj) fun _ _ _ w => js_of w
theorem rx_joined1 {v1 : Expr} {m : Ex} (h : RX cl X v1 m) : RX cl X (.JoinedStr [v1] pos) m := pe_joined1 h
/-! ### a written dict: texts to tuples of texts -/
abbrev Tab := List (Str × List Str)
def KVal (K : PySem.W.Frag) (d : Addr) (z : Str) (ws : List Str) : Prop := ∃ t, PySem.W.nsIn K d z = some (some (.ref t)) ∧ ∀ H, SqP K H t (ws.map V.str)
structure KTab (K : PySem.W.Frag) (w : World) (mg : Str → Option Value) (x : Str) (T : Tab) : Prop where
  ex : ∃ d es n, mg x = some (.ref d) ∧ KDict K w d es n ∧ ∀ q ∈ T, KVal K d q.1 q.2
theorem tab_mem : ∀ {T : Tab} {z : Str} {ws : List Str}, T.lookup z = some ws → (z, ws) ∈ T
  | [], _, _, h => by cases h
  | (y, vs) :: T, z, ws, h => by
    rw [List.lookup_cons] at h
    cases e : z == y with
    | true =>
      rw [e] at h
      cases h
      rw [eq_of_beq e]
      exact List.mem_cons_self
    | false =>
      rw [e] at h
      exact List.mem_cons_of_mem _ (tab_mem h)
def kdG (T : Tab) (p : PV) (m : Mem) : Option (PV × Mem) := match p with
  | .str z => (T.lookup z).map fun ws => (.tup (ws.map PV.str), m)
  | _ => none
def inKd (T : Tab) (k : Bool) (p : PV) (m : Mem) : Option (PV × Mem) := match p with
  | .str z => if (T.lookup z).isSome = true then some (.bl k, m) else none
  | _ => none
theorem rx_kd {T : Tab} (h : KTab X.K X.w X.mg x T) (hg : Gl X x) (hb : RX cl X b mb) (hs : PlainIx b) (hd : (x == ("__debug__" : Str)) = false := by decide) : RX cl X (.Subscript (.Name x p) b pos) (x1 (kdG T) mb) := by
  obtain ⟨d, es, n, h1, D, h2⟩ := h
  refine PE.imp (pe_ix ix_kdict (pe_glob (v := .ref d) hg h1 rfl hd) hb hs) fun σ H Q ⟨ρ, env, mem, r, hm, hE, e, q⟩ => ?_
  unfold x1 at e
  obtain ⟨⟨y, mm⟩, e1, e2⟩ := Option.bind_eq_some_iff.mp e
  refine ⟨ρ, env, mem, _, hm, hE, e1, fun ρ1 v H1 y1 m1 p1 => ?_⟩
  cases y with
  | str z =>
    obtain ⟨ws, f1, rfl⟩ := Option.map_eq_some_iff.mp (show (T.lookup z).map (fun ws => (PV.tup (ws.map PV.str), mm)) = some r from e2)
    replace p1 : Rep X.K ρ1 H1 (.str z) v := p1
    rw [rep_str] at p1
    obtain ⟨t, g1, g2⟩ := h2 _ (tab_mem f1)
    exact ⟨d, z, .ref t, rfl, p1, ⟨es, n, _, D.at_, D.lit, g1, rfl⟩, q _ _ _ y1 m1 (by rw [rep_tup]; exact ⟨t, _, rfl, g2 _, repL_strs ws⟩)⟩
  | _ => cases e2
theorem in_of {T : Tab} {d : Addr} {k : Bool} {σ : L2.St} {H : Hp} {Q : VK} (h2 : ∀ q ∈ T, KVal X.K d q.1 q.2) (w : TX X.K cl (x1 (inKd T k) mb) σ H Q) : TX X.K cl mb σ H fun y H1 => ∃ (z : Str) (u : Value), y = .str z ∧ PySem.W.nsIn X.K d z = some (some u) ∧ Q (.bl k) H1 := by
  obtain ⟨ρ, env, mem, r, hm, hE, e, q⟩ := w
  unfold x1 at e
  obtain ⟨⟨y, mm⟩, e1, e2⟩ := Option.bind_eq_some_iff.mp e
  refine ⟨ρ, env, mem, _, hm, hE, e1, fun ρ1 v H1 y1 m1 p1 => ?_⟩
  cases y with
  | str z =>
    replace e2 : (if (T.lookup z).isSome = true then some (PV.bl k, mm) else none) = some r := e2
    split at e2
    · rename_i hl
      cases e2
      obtain ⟨ws, f1⟩ := Option.isSome_iff_exists.mp hl
      replace p1 : Rep X.K ρ1 H1 (.str z) v := p1
      rw [rep_str] at p1
      obtain ⟨t, g1, _⟩ := h2 _ (tab_mem f1)
      exact ⟨z, _, p1, g1, q _ _ _ y1 m1 (by rw [rep_bl])⟩
    · cases e2
  | _ => cases e2
theorem rx_inKd {T : Tab} (h : KTab X.K X.w X.mg x T) (hg : Gl X x) (hb : RX cl X b mb) (hm : behindInMarks .In (.Name x p) = false) (hd : (x == ("__debug__" : Str)) = false := by decide) : RX cl X (.Compare b [.In] [.Name x p] pos) (x1 (inKd T true) mb) := by
  obtain ⟨d, es, n, h1, D, h2⟩ := h
  refine PE.imp (pe_cmpR (op_in_kd D) hb (pe_glob (v := .ref d) hg h1 rfl hd) hm) fun σ H Q w => ?_
  obtain ⟨ρ, env, mem, r, q1, q2, q3, q4⟩ := in_of h2 w
  refine ⟨ρ, env, mem, r, q1, q2, q3, fun ρ1 v H1 y1 m1 p1 => ?_⟩
  obtain ⟨z, u, rfl, g, q⟩ := q4 ρ1 v H1 y1 m1 p1
  exact ⟨z, _, rfl, rfl, g, q⟩
theorem rx_ninKd {T : Tab} (h : KTab X.K X.w X.mg x T) (hg : Gl X x) (hb : RX cl X b mb) (hm : behindInMarks .NotIn (.Name x p) = false) (hd : (x == ("__debug__" : Str)) = false := by decide) : RX cl X (.Compare b [.NotIn] [.Name x p] pos) (x1 (inKd T false) mb) := by
  obtain ⟨d, es, n, h1, D, h2⟩ := h
  refine PE.imp (pe_cmpR (op_notIn_kd D) hb (pe_glob (v := .ref d) hg h1 rfl hd) hm) fun σ H Q w => ?_
  obtain ⟨ρ, env, mem, r, q1, q2, q3, q4⟩ := in_of h2 w
  refine ⟨ρ, env, mem, r, q1, q2, q3, fun ρ1 v H1 y1 m1 p1 => ?_⟩
  obtain ⟨z, u, rfl, g, q⟩ := q4 ρ1 v H1 y1 m1 p1
  exact ⟨z, _, rfl, rfl, g, q⟩
/-- the fact of a table, from what the top has left -/
theorem kval_mk {K : PySem.W.Frag} {d t : Addr} {z : Str} {ws : List Str} {its : Array Value} {n : Nat} {sl : Array (Option Value)} (h1 : PySem.W.nsIn K d z = some (some (.ref t))) (h2 : K.lookup t = some ⟨.type "tuple", none, .seq its n, sl⟩) (h3 : Vals (ws.map V.str) its.toList) (h4 : its.size ≤ sizeLine) : KVal K d z ws :=
  ⟨t, h1, fun H => .inr ⟨_, its, n, h2, rfl, rfl, rfl, h4, h3⟩⟩
end
end Rf
namespace Rf
open PySem PySem.Spec L2
section
variable {X : Cx} {cl : Nat → Addr} {b : Expr} {pos p : Pos} {mb : Ex} {x : Str}
theorem rt_inKd {T : Tab} (h : KTab X.K X.w X.mg x T) (hg : Gl X x) (hb : RX cl X b mb) (hm : behindInMarks .In (.Name x p) = false) (hd : (x == ("__debug__" : Str)) = false := by decide) : RT cl X (.Compare b [.In] [.Name x p] pos) (tBl (x1 (inKd T true) mb)) := by
  obtain ⟨d, es, n, h1, D, h2⟩ := h
  refine PT.imp (pt_cmpR (op_in_kd D) hb (pe_glob (v := .ref d) hg h1 rfl hd) hm) fun σ H Q w => ?_
  obtain ⟨ρ, env, mem, r, q1, q2, q3, q4⟩ := in_of h2 (tBl_of w)
  refine ⟨ρ, env, mem, r, q1, q2, q3, fun ρ1 v H1 y1 m1 p1 => ?_⟩
  obtain ⟨z, u, rfl, g, q⟩ := q4 ρ1 v H1 y1 m1 p1
  exact ⟨z, _, rfl, rfl, g, q⟩
theorem rt_ninKd {T : Tab} (h : KTab X.K X.w X.mg x T) (hg : Gl X x) (hb : RX cl X b mb) (hm : behindInMarks .NotIn (.Name x p) = false) (hd : (x == ("__debug__" : Str)) = false := by decide) : RT cl X (.Compare b [.NotIn] [.Name x p] pos) (tBl (x1 (inKd T false) mb)) := by
  obtain ⟨d, es, n, h1, D, h2⟩ := h
  refine PT.imp (pt_cmpR (op_notIn_kd D) hb (pe_glob (v := .ref d) hg h1 rfl hd) hm) fun σ H Q w => ?_
  obtain ⟨ρ, env, mem, r, q1, q2, q3, q4⟩ := in_of h2 (tBl_of w)
  refine ⟨ρ, env, mem, r, q1, q2, q3, fun ρ1 v H1 y1 m1 p1 => ?_⟩
  obtain ⟨z, u, rfl, g, q⟩ := q4 ρ1 v H1 y1 m1 p1
  exact ⟨z, _, rfl, rfl, g, q⟩
end
end Rf
namespace Rf
open PySem PySem.Spec L2
def incG : PV → PV → Mem → Option (PV × Mem)
  | .int i, .int j, m => some (.int (i + j), m)
  | _, _, _ => none
theorem ip_inc {X : Cx} {cl : Nat → Addr} : PIp X .Add (G2 X.K cl incG) := by
  intro pins s σ H x y v u Q I rx ry ⟨ρ, p, q, mem, r, hm, hp, hq, h, k⟩
  unfold incG at h
  split at h
  · obtain rfl := Option.some.inj h
    rw [rep_int] at hp hq
    subst hp hq
    exact ip_add pins s σ H _ _ v u Q I rx ry ⟨_, _, rfl, rfl, k _ _ _ .refl hm (by rw [rep_int])⟩
  · cases h
end Rf
end

section
set_option Elab.async false
set_option linter.all false
set_option maxRecDepth 100000
set_option autoImplicit false
namespace Rf
open PySem PySem.Spec L2
/-! ### comprehensions over patterns -/
abbrev Px := PV → Env → Option Env
abbrev Pxs := List PV → Env → Option Env
structure PatOk (K : PySem.W.Frag) (vs : List Nat) (g : Px) (t : TG) : Prop where
  run : ∀ (ρ : List Addr) (H : Hp) (p : PV) (v : V) (env env' : Env) (σ : L2.St) (Q : L2.St → Hp → Prop), RelE K ρ H σ env → Rep K ρ H p v → g p env = some env' → (∀ σ', RelE K ρ H σ' env' → wipe σ' vs = wipe σ vs → Q σ' H) → t v σ H Q
structure PatsOk (K : PySem.W.Frag) (vs : List Nat) (g : Pxs) (t : TGs) : Prop where
  run : ∀ (ρ : List Addr) (H : Hp) (ps : List PV) (us : List V) (env env' : Env) (σ : L2.St) (Q : L2.St → Hp → Prop), RelE K ρ H σ env → RepL K ρ H ps us → g ps env = some env' → (∀ σ', RelE K ρ H σ' env' → wipe σ' vs = wipe σ vs → Q σ' H) → t us σ H Q
def pNm (i : Nat) : Px := fun p env => some (env.set i (some p))
def pTp (n : Nat) (g : Pxs) : Px := fun p env => match p with
  | .tup ps => if ps.length = n then g ps env else none
  | _ => none
def pNil : Pxs := fun ps env => match ps with
  | [] => some env
  | _ => none
def pCons (g : Px) (r : Pxs) : Pxs := fun ps env => match ps with
  | p :: qs => (g p env).bind fun e => r qs e
  | [] => none
section
variable {K : PySem.W.Frag} {vs : List Nat}
theorem pat_nm {i : Nat} (h : i ∈ vs) : PatOk K vs (pNm i) (gName i) := ⟨fun ρ H p v env env' σ Q hE hp e k => by
  cases e
  exact k _ (hE.set i hp) (set_wipe _ _ _ _ h)⟩
theorem pat_tp {n : Nat} {g : Pxs} {t : TGs} (h : PatsOk K vs g t) : PatOk K vs (pTp n g) (gTup K n t) := ⟨fun ρ H p v env env' σ Q hE hp e k => by
  unfold pTp at e
  split at e
  · rw [rep_tup] at hp
    obtain ⟨a, xs, rfl, h1, h2⟩ := hp
    replace h1 := h1.t
    split at e
    · rename_i hl
      exact ⟨a, xs, rfl, h1, by rw [h2.length, hl], h.run ρ H _ _ env env' σ Q hE h2 e k⟩
    · cases e
  · cases e⟩
theorem pats_nil : PatsOk K vs pNil gNil := ⟨fun ρ H ps us env env' σ Q hE hp e k => by
  unfold pNil at e
  split at e
  · cases e
    exact ⟨hp.inv0, k σ hE rfl⟩
  · cases e⟩
theorem pats_cons {g : Px} {r : Pxs} {t : TG} {u : TGs} (h : PatOk K vs g t) (h' : PatsOk K vs r u) : PatsOk K vs (pCons g r) (gCons t u) := ⟨fun ρ H ps us env env' σ Q hE hp e k => by
  unfold pCons at e
  split at e
  · obtain ⟨e1, h1, h2⟩ := Option.bind_eq_some_iff.mp e
    obtain ⟨x, xs, rfl, i1, i2⟩ := hp.inv
    exact ⟨x, xs, rfl, h.run ρ H _ _ env e1 σ _ hE i1 h1 fun σ' hE' w' => h'.run ρ H _ _ e1 env' σ' Q hE' i2 h2 fun σ'' hE'' w'' => k σ'' hE'' (w''.trans w')⟩
  · cases e⟩
end
def lcLP (g : Px) (tt : Tx) (te : Ex) (gd : List (Nat × Ob)) (D : Nat) (env : Env) : List PV → Mem → List PV → Option (List PV × Mem)
  | [], m, acc => some (acc, m)
  | p :: ps, m, acc => (g p env).bind fun env' => (tt env' m).bind fun r => if r.1 = true then (te env' r.2).bind fun s =>
      if okG gd s.2 = true ∧ s.2[D]? = some (.lst acc) ∧ acc.length < sizeLine then lcLP g tt te gd D env ps (s.2.set D (.lst (acc ++ [s.1]))) (acc ++ [s.1]) else none
    else if okG gd r.2 = true ∧ r.2[D]? = some (.lst acc) then lcLP g tt te gd D env ps r.2 acc else none
def xLcP (vs : List Nat) (it : Ix) (g : Px) (tt : Tx) (te : Ex) : Ex := fun env m => (it env m).bind fun r => if okG r.1.guard r.2 = true ∧ (∀ g ∈ r.1.guard, g.1 < r.2.length) then
    (lcLP g tt te r.1.guard r.2.length (wipeE env vs) r.1.items (r.2 ++ [.lst []]) []).bind fun s => some (.ref r.2.length, s.2) else none
section
variable {X : Cx} {cl : Nat → Addr} {pos : Pos}
theorem tLcP_of {vs : List Nat} {g : Px} {tg : TG} {mi : Ix} {tt : Tx} {te : Ex} {σ H Q} (hP : PatOk X.K vs g tg) (h : TX X.K cl (xLcP vs mi g tt te) σ H Q) : tLc (TIX X.K cl mi) tg (TTX X.K cl tt) (TX X.K cl te) vs σ H Q := by
  obtain ⟨ρ, env, mem, r, hm, hE, h, q⟩ := h
  unfold xLcP at h
  obtain ⟨r1, e1, h⟩ := Option.bind_eq_some_iff.mp h
  split at h
  · rename_i hk
    obtain ⟨hk, hlow⟩ := hk
    obtain ⟨r2, e2, h⟩ := Option.bind_eq_some_iff.mp h
    obtain rfl := Option.some.inj h
    refine ⟨ρ, env, mem, r1, hm, hE, e1, fun ρ1 H1 J x1 m1 k1 IJ D hD => ?_⟩
    obtain ⟨z1, z2, z3⟩ := new_lst m1 RepL.nil hD
    have q1 := q.ext (x1.trans z1)
    have ED : (ρ1 ++ [D])[r1.2.length]? = some D := by rw [← m1.len]; simp
    refine ⟨fun j n H' => n = r1.1.items.length - j ∧ j ≤ r1.1.items.length ∧ ∃ ρ' m' acc, Ext X.K (ρ1 ++ [D]) (upd H1 D (.lst [])) ρ' H' ∧ RelM X.K cl ρ' H' m' ∧ okG r1.1.guard m' = true ∧ m'[r1.2.length]? = some (.lst acc) ∧ lcLP g tt te r1.1.guard r1.2.length (wipeE env vs) (r1.1.items.drop j) m' acc = some r2,
      ⟨_, rfl, Nat.zero_le _, ρ1 ++ [D], r1.2 ++ [.lst []], [], .refl, z2, okG_app hk, by simp, by rw [List.drop_zero]; exact e2⟩, ?_⟩
    rintro j n H' ⟨rfl, hj, ρ', m', acc, x2, m2, k2, hacc, hf⟩
    by_cases hlt : j < r1.1.items.length
    · have hd : r1.1.items.drop j = r1.1.items[j] :: r1.1.items.drop (j + 1) := List.drop_eq_getElem_cons hlt
      rw [hd] at hf
      unfold lcLP at hf
      obtain ⟨env1, e0, hf⟩ := Option.bind_eq_some_iff.mp hf
      obtain ⟨r3, e3, hf⟩ := Option.bind_eq_some_iff.mp hf
      obtain ⟨g1, g2⟩ := (IJ.ext z1).go ρ' H' m' j r1.1.items[j] x2 m2 k2 (List.getElem?_eq_getElem hlt)
      refine .inr ⟨g1, fun H'' => j + 1 ≤ r1.1.items.length ∧ ∃ ρ' m' acc, Ext X.K (ρ1 ++ [D]) (upd H1 D (.lst [])) ρ' H'' ∧ RelM X.K cl ρ' H'' m' ∧ okG r1.1.guard m' = true ∧ m'[r1.2.length]? = some (.lst acc) ∧ lcLP g tt te r1.1.guard r1.2.length (wipeE env vs) (r1.1.items.drop (j + 1)) m' acc = some r2,
        fun H'' hN => ⟨_, by omega, rfl, hN⟩, fun y H'' hy => ?_⟩
      obtain ⟨y1, y2, y3⟩ := g2 y H'' hy
      have xy := (x1.trans z1).trans (x2.trans y1)
      refine hP.run ρ' H'' _ _ _ env1 _ _ ((hE.wipe vs).ext xy) y3 e0 fun σ' hE' hw => ⟨by rw [hw, wipe_idem σ vs vs fun _ h => h], ρ', env1, m', r3, y2, hE', e3, fun ρ3 H3 x3 m3 => ?_⟩
      split at hf
      · rename_i hb
        rw [if_pos hb]
        obtain ⟨r4, e4, hf⟩ := Option.bind_eq_some_iff.mp hf
        refine ⟨ρ3, _, r3.2, r4, m3, hE'.ext x3, e4, fun ρ4 v4 H4 x4 m4 p4 => ?_⟩
        split at hf
        · rename_i hg
          obtain ⟨k4, a4, l4⟩ := hg
          have xx := (x2.trans y1).trans (x3.trans x4)
          have ha := xx.at ED
          obtain ⟨as, s1, s2⟩ := m4.ok _ _ _ ha a4
          have x5 : Ext X.K ρ4 H4 ρ4 (upd H4 D (.lst (as ++ [v4]))) := ext_set m4 ha a4 rfl
          refine ⟨as, s1, by rw [s2.length]; exact l4, hlt, ρ4, _, _, xx.trans x5, m4.set (o' := .lst (acc ++ [r4.1])) ha a4 rfl rfl ⟨_, upd_same, (x5.repL _ _ s2).append (.one (x5.rep _ _ p4))⟩, okG_set k4 hlow, ?_, hf⟩
          rw [List.getElem?_set_self (List.getElem?_eq_some_iff.mp a4).1]
        · cases hf
      · rename_i hb
        rw [if_neg hb]
        split at hf
        · rename_i hg
          exact ⟨hlt, ρ3, r3.2, acc, (x2.trans y1).trans x3, m3, hg.1, hg.2, hf⟩
        · cases hf
    · have e : j = r1.1.items.length := by omega
      subst e
      rw [List.drop_length] at hf
      obtain rfl := Option.some.inj hf
      refine .inl ⟨(IJ.ext z1).stop ρ' H' m' x2 m2 k2, q1 ρ' _ H' x2 m2 ?_⟩
      rw [rep_ref]
      exact ⟨D, x2.at ED, rfl⟩
  · cases h
theorem rx_lcP {elt iter : Expr} {ifs : List Expr} {scope : Scope} {own : List (Str × Nat)} {tg : Expr} {mi : Ix} {g : Px} {tG : TG} {tt : Tx} {te : Ex} (hP : PatOk X.K (own.map (·.2)) g tG) (hc : X.calm = true) (hN : X.N.Nodup) (hi : RI cl X tg iter mi) (ok : BlkOk X.N X.env.scope scope own)
    (hg : ∀ (s : Shared) (H : Hp) (C : Addr) (cl : List (Str × Addr)) (fp : List Addr), PG (X.blk s H scope (compEnvC scope cl C X.env) fp) tg tG) (ht : ∀ (s : Shared) (H : Hp) (C : Addr) (cl' : List (Str × Addr)) (fp : List Addr), RTs cl (X.blk s H scope (compEnvC scope cl' C X.env) fp) ifs tt)
    (he : ∀ (s : Shared) (H : Hp) (C : Addr) (cl' : List (Str × Addr)) (fp : List Addr), RX cl (X.blk s H scope (compEnvC scope cl' C X.env) fp) elt te) (hs : ∀ x, foldedSetIterable iter X.env x = pure x := by intro _; rfl) :
    RX cl X (.ListComp elt [⟨tg, iter, ifs, 0⟩] scope pos) (xLcP (own.map (·.2)) mi g tt te) := PE.imp (pe_lc hc hN hi ok hg ht he hs) fun _ _ _ h => tLcP_of hP h
theorem rs_setLcP {j : Nat} {y : Str} {py spos : Pos} {elt iter : Expr} {ifs : List Expr} {scope : Scope} {own : List (Str × Nat)} {tg : Expr} {mi : Ix} {g : Px} {tG : TG} {tt : Tx} {te : Ex} (hP : PatOk X.K (own.map (·.2)) g tG) (hc : X.calm = true) (hN : X.N.Nodup) (hy : X.N[j]? = some y) (hyl : X.env.scope.names.lookup y = some .local)
    (hsw : swapsWith (.ListComp elt [⟨tg, iter, ifs, 0⟩] scope pos) (some (.Name y py)) spos.line X.env = pure true) (hi : RI cl X tg iter mi) (ok : BlkOk X.N X.env.scope scope own)
    (hg : ∀ (s : Shared) (H : Hp) (C : Addr) (cl : List (Str × Addr)) (fp : List Addr), PG (X.blk s H scope (compEnvC scope cl C X.env) fp) tg tG) (ht : ∀ (s : Shared) (H : Hp) (C : Addr) (cl' : List (Str × Addr)) (fp : List Addr), RTs cl (X.blk s H scope (compEnvC scope cl' C X.env) fp) ifs tt)
    (he : ∀ (s : Shared) (H : Hp) (C : Addr) (cl' : List (Str × Addr)) (fp : List Addr), RX cl (X.blk s H scope (compEnvC scope cl' C X.env) fp) elt te) (hs : ∀ x, foldedSetIterable iter X.env x = pure x := by intro _; rfl) :
    RS cl X (.Assign [.Name y py] (.ListComp elt [⟨tg, iter, ifs, 0⟩] scope pos) spos) (sAs (xLcP (own.map (·.2)) mi g tt te) (gNm j)) := PS.imp (ps_setLc hc hN hy hyl hsw hi ok hg ht he hs) fun D σ H h => by
  obtain ⟨ρ, env, mem, r, hm, hE, h, q⟩ := tAs_of h
  refine tLcP_of hP ⟨ρ, env, mem, r, hm, hE, h, fun ρ1 v1 H1 x1 m1 p1 => ?_⟩
  obtain ⟨ρ2, p, env2, mem2, r2, n1, n2, n3, n4, n5⟩ := q ρ1 v1 H1 x1 m1 p1
  obtain rfl := Option.some.inj n4
  exact n5 ρ2 _ H1 .refl n1 (n2.set j n3)
/-- a op b op' c -/
def xCh (g g' : PV → PV → Mem → Option (PV × Mem)) (a b c : Ex) : Ex := fun env m => (a env m).bind fun r => (b env r.2).bind fun s => (g r.1 s.1 s.2).bind fun k => match k.1 with
  | .bl true => (c env k.2).bind fun t => g' s.1 t.1 t.2
  | .bl false => some (.bl false, k.2)
  | _ => none
theorem rx_chain {op op' : CmpOp} {g g' : PV → PV → Mem → Option (PV × Mem)} {a b c : Expr} {ma mb mc : Ex} (ho : OpR X (compareOp op) (G2 X.K cl g)) (ho' : OpR X (compareOp op') (G2 X.K cl g')) (ha : RX cl X a ma) (hb : RX cl X b mb) (hc : RX cl X c mc)
    (hm : lastMarks [op, op'] [b, c] = false := by with_unfolding_all rfl) : RX cl X (.Compare a [op, op'] [b, c] pos) (xCh g g' ma mb mc) := PE.imp (pe_chain ho ho' ha hb hc hm) fun σ H Q ⟨ρ, env, mem, r, hm, hE, h, q⟩ => by
  unfold xCh at h
  obtain ⟨r1, e1, h⟩ := Option.bind_eq_some_iff.mp h
  obtain ⟨r2, e2, h⟩ := Option.bind_eq_some_iff.mp h
  obtain ⟨r3, e3, h⟩ := Option.bind_eq_some_iff.mp h
  refine ⟨ρ, env, mem, r1, hm, hE, e1, fun ρ1 v1 H1 x1 m1 p1 => ⟨ρ1, env, r1.2, r2, m1, hE.ext x1, e2, fun ρ2 v2 H2 x2 m2 p2 => ⟨ρ2, r1.1, r2.1, r2.2, r3, m2, x2.rep _ _ p1, p2, e3, fun ρ3 v3 H3 x3 m3 p3 => ?_⟩⟩⟩
  have xx := x1.trans (x2.trans x3)
  split at h
  · rename_i hk
    rw [hk, rep_bl] at p3
    obtain ⟨r4, e4, h⟩ := Option.bind_eq_some_iff.mp h
    refine ⟨true, p3, ?_⟩
    rw [if_pos rfl]
    exact ⟨ρ3, env, r3.2, r4, m3, hE.ext xx, e4, fun ρ4 v4 H4 x4 m4 p4 => ⟨ρ4, r2.1, r4.1, r4.2, r, m4, (x3.trans x4).rep _ _ p2, p4, h, q.ext (xx.trans x4)⟩⟩
  · rename_i hk
    obtain rfl := Option.some.inj h
    rw [hk, rep_bl] at p3
    refine ⟨false, p3, ?_⟩
    rw [if_neg Bool.false_ne_true]
    exact q ρ3 _ H3 xx m3 (by rw [Rep])
  · cases h
end
end Rf
end

section
set_option Elab.async false
set_option linter.all false
set_option maxRecDepth 100000
set_option autoImplicit false
namespace Rf
open PySem PySem.Spec L2
/-! ### ints, rows of ints -/
def intsP : List PV → Option (List Int)
  | [] => some []
  | .int i :: ps => (intsP ps).map fun is => i :: is
  | _ => none
def rowP : PV → Option (List Int)
  | .tup ps => intsP ps
  | _ => none
def rowsP : List PV → Option (List (List Int))
  | [] => some []
  | p :: ps => (rowP p).bind fun r => if r = [] then none else (rowsP ps).map fun rs => r :: rs
theorem intsP_eq : ∀ {ps : List PV} {is : List Int}, intsP ps = some is → ps = is.map .int
  | [], is, h => by cases h; rfl
  | p :: ps, is, h => by
    cases p with
    | int i =>
      obtain ⟨js, h1, rfl⟩ := Option.map_eq_some_iff.mp (show (intsP ps).map (fun is => i :: is) = some is from h)
      rw [intsP_eq h1]; rfl
    | _ => cases h
theorem intsP_map (is : List Int) : intsP (is.map .int) = some is := by
  induction is with
  | nil => rfl
  | cons i is ih => rw [List.map_cons, intsP, ih]; rfl
def rowV (r : List Int) : PV := .tup (r.map .int)
theorem rowsP_eq : ∀ {ps : List PV} {rs : List (List Int)}, rowsP ps = some rs → ps = rs.map rowV ∧ ∀ r ∈ rs, r ≠ []
  | [], rs, h => by cases h; exact ⟨rfl, nofun⟩
  | p :: ps, rs, h => by
    unfold rowsP at h
    obtain ⟨r, h1, h⟩ := Option.bind_eq_some_iff.mp h
    split at h
    · cases h
    · rename_i hr
      obtain ⟨qs, h2, rfl⟩ := Option.map_eq_some_iff.mp h
      obtain ⟨e, k⟩ := rowsP_eq h2
      refine ⟨?_, fun r' m => ?_⟩
      · rw [List.map_cons, ← e]
        congr 1
        unfold rowP at h1
        split at h1
        · rw [intsP_eq h1]; rfl
        · cases h1
      · rcases List.mem_cons.mp m with rfl | m
        · exact hr
        · exact k _ m
theorem rowsP_map : ∀ (rs : List (List Int)), (∀ r ∈ rs, r ≠ []) → rowsP (rs.map rowV) = some rs
  | [], _ => rfl
  | r :: rs, h => by
    rw [List.map_cons, rowsP]
    show (intsP (r.map .int)).bind _ = _
    rw [intsP_map]
    simp only [Option.bind_some]
    rw [if_neg (h r List.mem_cons_self), rowsP_map rs fun q m => h q (List.mem_cons_of_mem _ m)]
    rfl
abbrev leR (a b : List Int) : Bool := decide (a ≤ b)
abbrev sortR (rs : List (List Int)) : List (List Int) := rs.mergeSort leR
def srtG : List PV → Mem → Option (PV × Mem)
  | [p], m => (lstB p m).bind fun ps => (rowsP ps).map fun rs => (.ref m.length, m ++ [.lst ((sortR rs).map rowV)])
  | _, _ => none
def maxL : List PV → Mem → Option (PV × Mem)
  | [.int i, .int j], m => some (.int (if j > i then j else i), m)
  | [p], m => (lstB p m).bind fun ps => (intsP ps).bind fun is => (is.max?).map fun k => (.int k, m)
  | _, _ => none
def sumG : List PV → Mem → Option (PV × Mem)
  | [p], m => (lstB p m).bind fun ps => (intsP ps).map fun is => (.int is.sum, m)
  | _, _ => none
/-- max(a, default=d) -/
def xMxD (a d : Ex) : Ex := fun env m => (a env m).bind fun r => (d env r.2).bind fun s => (lstB r.1 s.2).bind fun ps => (intsP ps).map fun is => (((is.max?).map PV.int).getD s.1, s.2)
/-- dict(t), t a tuple of pairs -/
def kvsP : List PV → Option (List (Key × PV))
  | [] => some []
  | .tup [k, v] :: ps => (keyOf k).bind fun kk => (kvsP ps).map fun kvs => (kk, v) :: kvs
  | _ => none
def mergeP (acc : List (Key × PV)) (more : List (Key × PV)) : List (Key × PV) := more.foldl (fun acc kv => putP acc kv.1 kv.2) acc
def dctG : List PV → Mem → Option (PV × Mem)
  | [.tup ps], m => (kvsP ps).map fun kvs => (.ref m.length, m ++ [.dic (mergeP [] kvs)])
  | _, _ => none
section
variable {X : Cx} {cl : Nat → Addr}
theorem repL_ints {K ρ H} {is : List Int} {xs : List V} (h : RepL K ρ H (is.map PV.int) xs) : xs = is.map V.int := by
  induction is generalizing xs with
  | nil => rw [h.inv0]; rfl
  | cons i is ih =>
    obtain ⟨x, r, rfl, h1, h2⟩ := h.inv
    rw [rep_int] at h1
    rw [h1, ih h2]; rfl
theorem each_rows {K ρ H} : ∀ {rs : List (List Int)} {xs : List V} {us : List Value}, RepL K ρ H (rs.map rowV) xs → Vals xs us → PySem.W.EachIs (fun u r => ∃ v, RelV v u ∧ Rep K ρ H (rowV r) v) us rs
  | [], xs, us, h, r => by
    obtain rfl := h.inv0
    cases r
    exact .nil
  | q :: rs, xs, us, h, r => by
    obtain ⟨x, ys, rfl, h1, h2⟩ := h.inv
    cases r with
    | cons r rr => exact .cons ⟨x, r, h1⟩ (each_rows h2 rr)
theorem rows_each {K ρ H} : ∀ {rs : List (List Int)} {us : List Value}, PySem.W.EachIs (fun u r => ∃ v, RelV v u ∧ Rep K ρ H (rowV r) v) us rs → ∃ xs, Vals xs us ∧ RepL K ρ H (rs.map rowV) xs
  | _, _, .nil => ⟨[], .nil, .nil⟩
  | _, _, .cons ⟨v, h1, h2⟩ t => by
    obtain ⟨xs, h3, h4⟩ := rows_each t
    exact ⟨v :: xs, .cons h1 h3, .cons h2 h4⟩
theorem toDs_ints : ∀ is : List Int, toDs (is.map PV.int) = some (is.map PyData.int)
  | [] => rfl
  | i :: is => by rw [List.map_cons, toDs, toDs_ints is]; rfl
def encR (r : List Int) : PyData := .tuple (r.map .int)
theorem toD_row (r : List Int) : toD (rowV r) = some (encR r) := by
  unfold rowV encR
  rw [toD, toDs_ints]; rfl
theorem dataLe_tup : PySem.W.dataLe false encR = leR := by
  funext p q
  show (!PySem.W.dataLt (.tuple (q.map .int)) (.tuple (p.map .int))) = _
  rw [PySem.W.dataLt_tuple]
  show (!PySem.W.rowLt (q.map .int) (p.map .int)) = _
  rw [PySem.W.dataLt_ints]
  by_cases h : q < p
  · have h' : ¬ p ≤ q := fun r => List.not_lt.mpr r h
    simp [h, h', leR]
  · have h' : p ≤ q := List.not_lt.mp h
    simp [h, h', leR]
theorem cx_sorted (hu : X.A.units + 64 < cLine) : CallR X (.builtin "sorted") (GL X.K cl srtG) := by
  intro pins s σ H xs us Q I rs ⟨ρ, ps, mem, r, hm, hp, h, k⟩
  unfold srtG at h
  split at h
  · obtain ⟨qs, h1, h⟩ := Option.bind_eq_some_iff.mp h
    obtain ⟨rows, h2, rfl⟩ := Option.map_eq_some_iff.mp h
    obtain ⟨x, xs, rfl, i1, i2⟩ := hp.inv
    obtain rfl := i2.inv0
    obtain ⟨i, a, ys, rfl, y1, y2, rfl, y3, y4⟩ := lstB_ok hm i1 h1
    obtain ⟨rfl, hne⟩ := rowsP_eq h2
    obtain ⟨its, rv, hl, hz⟩ := I.list (.inl (.inl y3))
    rw [Vals.ref1 rs]
    have e := each_rows y4 rv
    have er : PySem.W.EachIs (fun u r => ∃ as, Reads s.heap u (encR r) as) its rows := e.mono fun u r ⟨v, h1, h2⟩ => Dp.reads I _ v u (toD_rep _ _ _ h2 (toD_row r)) h1
    have hlen : rows.length = its.length := e.length.symm
    refine PySem.W.sorted_data (enc := encR) hl.isList e er ?_ (.inl fun d hd => ?_) (by rw [hlen, ← rv.length]; exact hz) (fun b _ => ?_) fun out h3 h4 => ?_
    · exact PySem.W.AllAlike.of fun b b' => by
        show PySem.W.alike (.tuple _) (.tuple _) = true
        rw [PySem.W.alike]
        exact PySem.W.alike_ints b b'
    · obtain ⟨r, hr, rfl⟩ := List.mem_map.mp hd
      have := hne r hr
      cases r with
      | nil => exact absurd rfl this
      | cons i is => exact ⟨.int i, is.map .int, rfl⟩
    · have : (encR b).depth = 1 := by
        unfold encR
        rw [PyData.depth, PySem.W.depth_ints]
      omega
    · rw [dataLe_tup] at h4
      obtain ⟨zs, z1, z2⟩ := rows_each h4
      obtain ⟨ep, he'⟩ := PyProof.Rows.sortedAll_at s.heap its out.toArray
      have hz' : zs.length ≤ sizeLine := by rw [z1.length, h3, hlen, ← rv.length]; exact hz
      have fr : H (s.heap.objs.size + 1) = none := I.hok.fresh (Nat.le_succ _)
      obtain ⟨w1, w2, w3⟩ := new_lst hm z2 fr
      exact ⟨.ref _, upd H (s.heap.objs.size + 1) (.lst zs), I.laid (t' := s.toks) (fun _ _ => PyProof.Rows.sortedAll_old) (Nat.le_succ _) ⟨hz', out, ep, z1, he'⟩, rfl, k _ _ _ w1 w2 w3⟩
  · cases h
theorem max_is {ns : List Int} {m k : Int} (h1 : m ∈ ns) (h2 : ∀ y ∈ ns, y ≤ m) (h : ns.max? = some k) : m = k := by
  have := List.max?_eq_some_iff.mp h
  have a := h2 k this.1
  have b := this.2 m h1
  omega
theorem cx_maxL (hc : X.calm = true) : CallR X (.builtin "max") (GL X.K cl maxL) := by
  intro pins s σ H xs us Q I rs ⟨ρ, ps, mem, r, hm, hp, h, k⟩
  unfold maxL at h
  split at h
  · exact cx_max hc pins s σ H xs us Q I rs ⟨ρ, _, mem, r, hm, hp, h, k⟩
  · obtain ⟨qs, h1, h⟩ := Option.bind_eq_some_iff.mp h
    obtain ⟨is, h2, h⟩ := Option.bind_eq_some_iff.mp h
    obtain ⟨j, h3, rfl⟩ := Option.map_eq_some_iff.mp h
    obtain ⟨x, xs, rfl, i1, i2⟩ := hp.inv
    obtain rfl := i2.inv0
    obtain ⟨i, a, ys, rfl, y1, y2, rfl, y3, y4⟩ := lstB_ok hm i1 h1
    obtain rfl := intsP_eq h2
    obtain rfl := repL_ints y4
    refine cr_max hc pins s σ H _ us Q I rs ⟨a, is, rfl, .inl (.inl y3), ?_, fun m m1 m2 => ?_⟩
    · cases is with
      | nil => cases h3
      | cons _ _ => simp
    · rw [max_is m1 m2 h3]
      exact k ρ _ H .refl hm (by rw [Rep])
  · cases h
theorem cx_sum (hc : X.calm = true) : CallR X (.builtin "sum") (GL X.K cl sumG) := by
  intro pins s σ H xs us Q I rs ⟨ρ, ps, mem, r, hm, hp, h, k⟩
  unfold sumG at h
  split at h
  · obtain ⟨qs, h1, h⟩ := Option.bind_eq_some_iff.mp h
    obtain ⟨is, h2, rfl⟩ := Option.map_eq_some_iff.mp h
    obtain ⟨x, xs, rfl, i1, i2⟩ := hp.inv
    obtain rfl := i2.inv0
    obtain ⟨i, a, ys, rfl, y1, y2, rfl, y3, y4⟩ := lstB_ok hm i1 h1
    obtain rfl := intsP_eq h2
    obtain rfl := repL_ints y4
    exact cr_sum hc pins s σ H _ us Q I rs ⟨a, is, rfl, .inl (.inl y3), k ρ _ H .refl hm (by rw [Rep])⟩
  · cases h
def rMxD (K : PySem.W.Frag) : List V → List V → Hp → VK → Prop := fun vs zs H Q => ∃ (a : Addr) (ns : List Int) (d : V), vs = [V.ref a] ∧ zs = [d] ∧ SqL K H a (ns.map V.int) ∧ Q (((ns.max?).map V.int).getD d) H
theorem reads_ints : ∀ {is : List Int} {us : List Value} {h : Heap}, Vals (is.map V.int) us → ReadsAll h us (is.map .int) []
  | [], us, h, r => by cases r; exact .nil
  | i :: is, us, h, r => by
    cases r with
    | cons r rr =>
      obtain ⟨t, rfl⟩ : ∃ t, _ = Value.int i t := r
      exact .cons (as := []) (bs := []) (.int i t) (reads_ints rr)
theorem cr_mxD (hc : X.calm = true) (hu : X.A.units + 64 < cLine) : CallRK X (.builtin "max") [Str.ofString "default"] (rMxD X.K) := by
  intro pins s σ H xs zs us ws Q I r r' ⟨a, ns, d, e1, e2, hs, q⟩
  subst e1 e2
  obtain ⟨its, rv, hl, hz⟩ := I.list hs
  rw [Vals.ref1 r]
  obtain ⟨w, rfl, rw'⟩ := vals1 r'
  have hd : PyData.depthAll (ns.map .int) = 0 := PySem.W.depth_ints ns
  show wpAny _ _ (call (.builtin "max") [.ref a] [(Str.ofString "default", w)]) _ _ _
  refine PySem.W.max_list_default (I.ok.hd hc) hl.isList (reads_ints rv) ⟨fun x hx y hy => ?_, fun x hx => ?_⟩ (by rw [hd]; omega) (fun e h' tk hk => ?_) fun y ys i v h' tk bs e hi hr hk => ?_
  · obtain ⟨i, _, rfl⟩ := List.mem_map.mp hx
    obtain ⟨j, _, rfl⟩ := List.mem_map.mp hy
    simp [PySem.W.alike]
  · obtain ⟨i, _, rfl⟩ := List.mem_map.mp hx
    exact nofun
  · have : ns = [] := List.map_eq_nil_iff.mp e
    subst this
    exact ⟨d, H, I.kept hk, rw', q⟩
  · cases ns with
    | nil => cases e
    | cons n ns =>
      rw [List.map_cons] at e
      obtain ⟨e1, e2⟩ := List.cons.inj e
      subst e1 e2
      rw [PySem.W.maxD_ints] at hr
      cases hr
      exact ⟨.int _, H, I.kept hk, ⟨_, rfl⟩, q⟩
theorem rx_mxD {a b : Expr} {ma mb : Ex} {p kpos pos : Pos} (hc : X.calm = true) (hu : X.A.units + 64 < cLine) (hg : Gl X "max") (hm : X.mg "max" = none) (ha : RX cl X a ma) (hb : RX cl X b mb) (hst : starEach [a] X.env = (false, eval a X.env) :: starEach [] X.env := by rfl)
    (he : backTo pos (starEach [a] X.env) = (false, eval a X.env) :: backTo pos (starEach [] X.env) := by rfl) (hpl : (backTo pos (starEach [a] X.env)).any (·.1) = false := by rfl)
    (hall : (backToKw pos (keywordEach [⟨some "default", b, kpos⟩] X.env)).all (·.1.isSome) = true := by rfl) (hnone : (backToKw pos (keywordEach [⟨some "default", b, kpos⟩] X.env)).any (·.1.isNone) = false := by rfl) (hks : (backToKw pos (keywordEach [⟨some "default", b, kpos⟩] X.env)).filterMap (·.1) = [Str.ofString "default"] := by rfl) :
    RX cl X (.Call (.Name "max" p) [a] [⟨some "default", b, kpos⟩] pos) (xMxD ma mb) :=
  PE.imp (pe_callBK (cr_mxD hc hu) hg hm (by rfl) (pa_cons ha pa_nil hst) (pk_cons hb pk_nil) (by decide) (by decide) he hpl hall hnone hks) fun σ H Q ⟨ρ, env, mem, r, hm, hE, h, q⟩ => by
    unfold xMxD at h
    obtain ⟨r1, e1, h⟩ := Option.bind_eq_some_iff.mp h
    obtain ⟨r2, e2, h⟩ := Option.bind_eq_some_iff.mp h
    obtain ⟨ps, e3, h⟩ := Option.bind_eq_some_iff.mp h
    obtain ⟨is, e4, rfl⟩ := Option.map_eq_some_iff.mp h
    refine ⟨ρ, env, mem, r1, hm, hE, e1, fun ρ1 v1 H1 x1 m1 p1 => ⟨ρ1, env, r1.2, r2, m1, hE.ext x1, e2, fun ρ2 v2 H2 x2 m2 p2 => ?_⟩⟩
    obtain ⟨i, a, ys, h1, y1, y2, rfl, y3, y4⟩ := lstB_ok m2 (x2.rep _ _ p1) e3
    obtain rfl := intsP_eq e4
    obtain rfl := repL_ints y4
    refine ⟨a, is, v2, rfl, rfl, .inl (.inl y3), ?_⟩
    cases hm : is.max? with
    | none => exact q ρ2 _ H2 (x1.trans x2) m2 (by rw [hm]; exact p2)
    | some k => exact q ρ2 _ H2 (x1.trans x2) m2 (by rw [hm]; show Rep _ _ _ (.int k) _; rw [Rep]; rfl)
end
end Rf
end

section
set_option Elab.async false
set_option linter.all false
set_option maxRecDepth 100000
set_option autoImplicit false
namespace Rf
open PySem PySem.Spec L2
/-! ### enumerate(list or tuple), the pairs without a dict -/
def IteX (K : PySem.W.Frag) (k : Bool) (a : Addr) : It :=
  ⟨fun i H => ∃ (xs : List V) (x : V), SqX k K H a xs ∧ xs[i]? = some x, fun i H v H' => ∃ T x, v = .ref T ∧ H T = none ∧ (∃ ob : Obj, ob.dict = none ∧ H' = upd H T (.frz ob (.tup [.int (i : Nat), x]))) ∧ ∀ xs, SqX k K H a xs → xs[i]? = some x, fun i H => ∃ xs : List V, SqX k K H a xs ∧ xs.length = i⟩
theorem turn_enumX {P : Program} {w : World} {K : PySem.W.Frag} {elts : List Expr} {kk : Nat} {tpos : Pos} (k : Bool) (a e it : Addr) :
    Turn P w K (.Tuple elts kk tpos) (IteX K k a) [e, it] e (fun i h => (∃ old, IsEnum h e it ((i : Nat) : Int) old) ∧ IterX k h it a i ∧ e ≠ it ∧ e ≠ a ∧ a ≠ it) where
  mem := by simp
  obj := fun i h st b hb => by
    obtain ⟨⟨old, he⟩, hi, _⟩ := st
    have e' : b = e ∨ b = it := by simpa using hb
    rcases e' with z | z
    · rw [z]; exact ⟨_, he, fun v q => nomatch q⟩
    · rw [z]; exact hi.there
  keep := fun i h h' st q => let ⟨⟨old, he⟩, hi, hne⟩ := st; ⟨⟨old, q e (by simp) _ he⟩, hi.keep (q it (by simp)), hne⟩
  item := by
    intro X hP hw hK hc i pins s σ H E I hf st hg
    subst hP hw hK
    obtain ⟨⟨old, he⟩, hit, hne, hea, hai⟩ := st
    obtain ⟨xs, x, hq, hx⟩ := hg
    obtain ⟨its, rv, p, hz⟩ := sqX_at I hq
    obtain ⟨u, hu, ru⟩ := rv.get hx
    have hel : e < s.heap.objs.size := Heap.lt_size he
    have hil : it < s.heap.objs.size := by obtain ⟨_, q, _⟩ := hit.there; exact Heap.lt_size q
    have hlt : i < its.toArray.size := by
      have := (List.getElem?_eq_some_iff.mp hu).1
      simpa using this
    refine wpAny_pyNext_enum_itemC (draws_x (A := X.A.in1) k (I.ok.hd hc) it a hai its.toArray) he ⟨hit, p⟩ hlt hne (by simp; exact ⟨hne, hea⟩) fun x' h' tk hx' ho st' hT hsz hk => ?_
    have ex : x' = u := by
      have : its.toArray[i]? = some u := by simpa using hu
      rw [this] at hx'
      exact (Option.some.inj hx').symm
    subst ex
    refine ⟨_, rfl, wpAny_letOwnedTupleGo_enum (s := { s with heap := h', toks := tk + 1 }) ho fun h'' he' sb => ?_⟩
    have hT2 : h''.get? s.heap.objs.size = some { cls := .type "tuple", data := .seq #[.int i tk, x'] } := (sb.2 _ (Nat.ne_of_gt hel)).trans hT
    have new : ObjOk X.prog X.w (upd H s.heap.objs.size (.frz { cls := .type "tuple", data := .seq #[.int i tk, x'] } (.tup [.int (i : Nat), x]))) h'' s.heap.objs.size (.frz { cls := .type "tuple", data := .seq #[.int i tk, x'] } (.tup [.int (i : Nat), x])) :=
      ⟨hT2, by show 2 ≤ sizeLine; decide, [.int i tk, x'], .cons ⟨_, rfl⟩ (.cons ru .nil), ⟨_, hT2, rfl, _, rfl⟩⟩
    have I1 : Inv X pins σ (upd H s.heap.objs.size (.frz { cls := .type "tuple", data := .seq #[.int i tk, x'] } (.tup [.int (i : Nat), x]))) { s with heap := h'', toks := tk + 1 } :=
      I.turnedNew (ch := [e, it]) (fun b ob hb q => (sb.2 b (fun z => hb (by simp [z]))).trans (hk b ob (fun z => hb (by simp [z])) (fun z => hb (by simp [z])) q)) hf (Nat.le_refl _) new
    refine ⟨.ref s.heap.objs.size, _, I1, rfl, ⟨_, x, rfl, I.hok.fresh (Nat.le_refl _), ⟨_, rfl, rfl⟩, fun ys hy => by rw [sqX_inj I hy hq]; exact hx⟩, ⟨⟨x', ?_⟩, st'.1.keep fun o q => (sb.2 it (Ne.symm hne)).trans q, hne, hea, hai⟩, fun b hb => ?_⟩
    · have e1 : ((i + 1 : Nat) : Int) = (i : Int) + 1 := by omega
      rw [e1]; exact he'
    · have hb' : b < s.heap.objs.size := by
        have e' : b = e ∨ b = it := by simpa using hb
        rcases e' with z | z
        · rw [z]; exact hel
        · rw [z]; exact hil
      rw [upd_ne (Nat.ne_of_lt hb')]
      exact (hf b hb).1
  done := by
    intro X hP hw hK hc i pins s σ H E I hf st hg
    subst hP hw hK
    obtain ⟨⟨old, he⟩, hit, hne, hea, hai⟩ := st
    obtain ⟨xs, hq, hx⟩ := hg
    obtain ⟨its, rv, p, hz⟩ := sqX_at I hq
    obtain ⟨f0, f1, f2, f3, f4, f5⟩ := hf it (by simp)
    have hl : its.toArray.size = i := by
      have := rv.length
      simp; omega
    subst hl
    exact wpAny_pyNext_enum_endD (draws_x (A := X.A.in1) k (I.ok.hd hc) it a hai its.toArray) he ⟨hit, p⟩ fun h' eb => ⟨rfl, I.turned (t' := s.toks) (fun b o hb q => eb b o hb q) f0 f1 f3 f4 f5⟩
  self := fun A i s Q E st h => let ⟨⟨_, he⟩, _⟩ := st; wpAny_pyIter_enum he h
def iEnumX (K : PySem.W.Frag) (ta : TA) : TI := fun σ H R => ta σ H fun vs H1 => ∃ k a xs, vs = [.ref a] ∧ SqX k K H1 a xs ∧ R (IteX K k a) H1
theorem pi_enumX {X : Cx} {e : Expr} {ta : TA} {p pos tpos : Pos} {elts : List Expr} {kk : Nat} (hg : Gl X "enumerate") (hm : X.mg "enumerate" = none) (ha : PA X [e] ta) (hs : starEach [e] X.env = [(false, eval e X.env)] := by rfl) :
    PI X (.Tuple elts kk tpos) (.Call (.Name "enumerate" p) [e] [] pos) (iEnumX X.K ta) := by
  refine ⟨fun pins s σ H R I h => ?_⟩
  refine PyProof.Rows.Call_ (ld_blt I hg hm PyProof.Rows.boot_enumerate (PyProof.Rows.callWith_type1 (thn (ha.run pos pins s σ H _ I h) fun us s1 ⟨vs, H1, I1, r1, q1⟩ => ?_) hs rfl))
  obtain ⟨k, a, xs, ex, hq, q⟩ := q1
  subst ex
  cases r1 with
  | cons r rr =>
    cases rr
    cases r
    have fin : ∀ (h' : Heap), IsEnum h' (s1.heap.objs.size + 1) s1.heap.objs.size 0 .none → IterX k h' s1.heap.objs.size a 0 → a < s1.heap.objs.size → (∀ b o, s1.heap.get? b = some o → h'.get? b = some o) →
        wpAny (model X.prog X.w) X.A (pyIter (.ref (s1.heap.objs.size + 1))) (PIE X pins σ (.Tuple elts kk tpos) R) X.xe { s1 with heap := h' } := fun h' he hit al hk => wpAny_pyIter_enum he (by
      have I2 : Inv X pins σ H1 { s1 with heap := h' } := I1.kept (t' := s1.toks) hk
      refine ⟨s1.heap.objs.size + 1, [s1.heap.objs.size + 1, s1.heap.objs.size], _, _, H1, rfl, I2, turn_enumX k a (s1.heap.objs.size + 1) s1.heap.objs.size, ⟨⟨.none, he⟩, hit, Nat.succ_ne_self _, Nat.ne_of_gt (Nat.lt_succ_of_lt al), Nat.ne_of_lt al⟩, fun b hb => ?_, q⟩
      have e' : b = s1.heap.objs.size + 1 ∨ b = s1.heap.objs.size := by simpa using hb
      have hle : s1.heap.objs.size ≤ b := by
        rcases e' with z | z
        · rw [z]; exact Nat.le_add_right _ _
        · rw [z]; exact Nat.le_refl _
      exact I1.fpOk hle (I1.hok.fresh hle))
    cases k with
    | true =>
      obtain ⟨its, rv, p', hz⟩ := I1.tuple (show SqT X.K H1 a xs from hq)
      have al : a < s1.heap.objs.size := by
        obtain ⟨o, ho, _⟩ := p'
        exact Heap.lt_size ho
      exact en_call (begins_tuple a its.toArray) p' fun h' he g2 hk hsz => fin h' he ⟨_, g2, rfl, rfl⟩ al hk
    | false =>
      obtain ⟨its, rv, p', hz⟩ := I1.list (show SqL X.K H1 a xs from hq)
      have al : a < s1.heap.objs.size := by
        obtain ⟨o, ho, _⟩ := p'.isList
        exact Heap.lt_size ho
      exact call_enumerate_list p'.isList fun h' he hit hsz hk => fin h' he hit al hk
/-- enumerate of a list or a tuple -/
def enX : List PV → Mem → Option Sq
  | [p], m => (seqQ p m).map fun s => ⟨enP 0 s.items, s.guard⟩
  | _, _ => none
def iEnX (a : Ax) : Ix := fun env m => (a env m).bind fun r => (enX r.1 r.2).map (·, r.2)
theorem ri_enumX {X : Cx} {cl : Nat → Addr} {a : Expr} {mA : Ax} {p pos tpos : Pos} {elts : List Expr} {kk : Nat} (hg : Gl X "enumerate") (hm : X.mg "enumerate" = none) (ha : RA cl X [a] mA) (hs : starEach [a] X.env = [(false, eval a X.env)] := by rfl) :
    RI cl X (.Tuple elts kk tpos) (.Call (.Name "enumerate" p) [a] [] pos) (iEnX mA) := PI.imp (pi_enumX hg hm ha hs) fun σ H R ⟨ρ, env, mem, r, hm, hE, h, q⟩ => by
  unfold iEnX at h
  obtain ⟨r1, e1, h⟩ := Option.bind_eq_some_iff.mp h
  obtain ⟨s, e2, h⟩ := Option.map_eq_some_iff.mp h
  subst h
  obtain ⟨ps, m0⟩ := r1
  unfold enX at e2
  split at e2
  · rename_i p0 p hpp
    obtain ⟨s1, e3, e2⟩ := Option.map_eq_some_iff.mp e2
    subst e2
    replace hpp : ps = [p] := hpp
    subst hpp
    refine ⟨ρ, env, mem, _, hm, hE, e1, fun ρ1 vs H1 x1 m1 p1 => ?_⟩
    obtain ⟨x, xs, rfl, i1, i2⟩ := p1.inv
    obtain rfl := i2.inv0
    obtain ⟨k, a, rfl, k1, ⟨us, z1⟩, w1⟩ := seqQ_ok m1 i1 e3
    refine ⟨k, a, us, rfl, z1, q ρ1 H1 _ x1 m1 k1 ⟨fun ρ' H' m i p x2 m2 kk hi => ?_, fun ρ' H' m x2 m2 kk => ?_⟩⟩
    · obtain ⟨as, a1, a2⟩ := w1 ρ' H' m x2 m2 kk
      obtain ⟨u, c1, c2⟩ := enP_get _ _ _ _ hi
      obtain ⟨x, a3, a4⟩ := a2.get c1
      refine ⟨⟨as, x, a1, a3⟩, fun v H'' ⟨T, x', e1, e2, ⟨ob, hob, e3⟩, e4⟩ => ?_⟩
      subst e1 e3 c2
      obtain rfl := Option.some.inj ((e4 as a1).symm.trans a3)
      rw [Nat.zero_add]
      exact new_tup hob m2 (.cons (by rw [Rep]) (.cons a4 .nil)) e2
    · obtain ⟨as, a1, a2⟩ := w1 ρ' H' m x2 m2 kk
      refine ⟨as, a1, ?_⟩
      rw [enP_len, a2.length]
  · cases e2
end Rf
end

section
set_option Elab.async false
set_option linter.all false
set_option maxRecDepth 100000
set_option autoImplicit false
namespace Rf
open PySem PySem.Spec L2
/-! ### dict(tuple of pairs) -/
theorem putP_repF {K : PySem.W.Frag} {ρ : List Addr} {H : Hp} {kvs : List (Key × PV)} {kws : List (Key × V)} (h : RepF K ρ H kvs kws) (k : Key) {p : PV} {v : V} (r : Rep K ρ H p v) : RepF K ρ H (putP kvs k p) (putK kws k v) := putP_rep h k r
theorem mergeP_rep {K : PySem.W.Frag} {ρ : List Addr} {H : Hp} : ∀ {more : List (Key × PV)} {mws : List (Key × V)} {kvs : List (Key × PV)} {kws : List (Key × V)}, RepF K ρ H more mws → RepF K ρ H kvs kws → RepF K ρ H (mergeP kvs more) (mergeK kws mws)
  | _, _, kvs, kws, .nil, h => h
  | (a, p) :: more, (b, v) :: mws, kvs, kws, .cons ⟨e, r⟩ t, h => by
    have e : a = b := e
    subst e
    exact mergeP_rep (more := more) (mws := mws) t (putP_rep h a r)
section
variable {X : Cx} {cl : Nat → Addr}
theorem kvsP_rep {K : PySem.W.Frag} {ρ : List Addr} {H : Hp} : ∀ {ps : List PV} {xs : List V} {kvs : List (Key × PV)}, RepL K ρ H ps xs → kvsP ps = some kvs → ∃ (as : List Addr) (kws : List (Key × V)), xs = as.map V.ref ∧ RepF K ρ H kvs kws ∧ Paired (fun p kv => SqT K H p [kV kv.1, kv.2]) as kws
  | [], xs, kvs, h, e => by
    cases e
    exact ⟨[], [], h.inv0, .nil, .nil⟩
  | p :: ps, xs, kvs, h, e => by
    obtain ⟨x, r, rfl, h1, h2⟩ := h.inv
    unfold kvsP at e
    split at e
    · cases ‹p :: ps = []›
    · rename_i k v qs heq
      obtain ⟨rfl, rfl⟩ := List.cons.inj heq
      obtain ⟨kk, e1, e⟩ := Option.bind_eq_some_iff.mp e
      obtain ⟨kvs', e2, rfl⟩ := Option.map_eq_some_iff.mp e
      obtain ⟨as, kws, rfl, h3, h4⟩ := kvsP_rep h2 e2
      rw [rep_tup] at h1
      obtain ⟨a, us, rfl, z1, z2⟩ := h1
      obtain ⟨kx, r1, rfl, w1, w2⟩ := z2.inv
      obtain ⟨vx, r2, rfl, w3, w4⟩ := w2.inv
      obtain rfl := w4.inv0
      have := keyOf_rep w1 e1
      subst this
      exact ⟨a :: as, (kk, vx) :: kws, rfl, .cons ⟨rfl, w3⟩ h3, .cons z1.t h4⟩
    · cases e
theorem pairs_of3 {pins : List (Addr × Obj)} {σ : L2.St} {H : Hp} {s : Shared} (I : Inv X pins σ H s) : ∀ {ps : List Addr} {kvs : List (Key × V)}, Paired (fun p kv => SqT X.K H p [kV kv.1, kv.2]) ps kvs →
    ∃ (prs : List (Key × Value)) (us : List (Value × Value)), KV kvs prs ∧ prs.length = ps.length ∧ us.length = ps.length ∧ ∀ (j : Nat) (w : Value × Value), us[j]? = some w → ∃ (q : Key × Value) (b : Addr), prs[j]? = some q ∧ w.2 = q.2 ∧ ps[j]? = some b ∧ s.heap.IsTuple b #[w.1, w.2] ∧ keyIs q.1 w.1 = true
  | _, _, .nil => ⟨[], [], .nil, rfl, rfl, fun j w e => by simp at e⟩
  | _, _, .cons (a := p) (b := kv) h t => by
    obtain ⟨prs, us, r, hl, hl2, hp⟩ := pairs_of3 I t
    obtain ⟨its, rv, ht, _⟩ := I.tuple h
    obtain ⟨u, y, ei, ru, ry⟩ := vals2 rv
    subst ei
    refine ⟨(kv.1, y) :: prs, (u, y) :: us, .cons ⟨rfl, ry⟩ r, by rw [List.length_cons, List.length_cons, hl], by rw [List.length_cons, List.length_cons, hl2], fun j w e => ?_⟩
    cases j with
    | zero =>
      obtain rfl := Option.some.inj (show some (u, y) = some w from e)
      exact ⟨(kv.1, y), p, rfl, rfl, rfl, ht, kV_is (P := X.prog) (w := X.w) ru⟩
    | succ j =>
      obtain ⟨q, b, e1, e2, e3, e4, e5⟩ := hp j w (by simpa using e)
      exact ⟨q, b, by simpa using e1, e2, by simpa using e3, e4, e5⟩
theorem sqP_dict {pins : List (Addr × Obj)} {σ : L2.St} {H : Hp} {s : Shared} {a : Addr} {xs : List V} {o : Obj} (I : Inv X pins σ H s) (h : SqP X.K H a xs) (e : s.heap.get? a = some o) : o.dict = none := by
  rcases h with ⟨o', h, hd⟩ | ⟨o', its, n, h, _, hd, _⟩
  · have := (I.hok a _ h).1
    rw [this] at e
    cases e
    exact hd
  · have := I.kIn a o' h
    rw [this] at e
    cases e
    exact hd
theorem cx_dict (hc : X.calm = true) : CallR X (.type "dict") (GL X.K cl dctG) := by
  intro pins s σ H xs us Q I rs ⟨ρ, ps, mem, r, hm, hp, h, k⟩
  unfold dctG at h
  split at h
  · rename_i qs
    obtain ⟨kvs, h1, rfl⟩ := Option.map_eq_some_iff.mp h
    obtain ⟨x, xs, rfl, i1, i2⟩ := hp.inv
    obtain rfl := i2.inv0
    rw [rep_tup] at i1
    obtain ⟨a, ys, rfl, z1, z2⟩ := i1
    obtain ⟨as, kws, rfl, f1, f2⟩ := kvsP_rep z2 h1
    obtain ⟨its, rv, ht, hz⟩ := I.tuple z1.t
    have ei := refs_at rv
    subst ei
    rw [List.length_map] at hz
    obtain ⟨prs, ws, rel, hl, hl2, hpr⟩ := pairs_of3 I f2
    rw [Vals.ref1 rs]
    have hpl : PlainSeq "tuple" s.heap a (as.map Value.ref).toArray := by
      obtain ⟨o, h1, h2, n, h3⟩ := ht
      exact ⟨o, n, h1, h2, sqP_dict I z1 h1, h3⟩
    refine call_dict_pairs (knd := mixKind X.prog X.w) (kvs := prs) (PairArg.tuple a (as.map Value.ref).toArray (fun j => as.getD j 0) ws) (I.ok.hd hc) ⟨hpl, ?_, fun j kk v e => ?_⟩ ⟨by rw [hl, hl2], fun i key v e => ?_⟩ (by rw [hl2]; exact hz) fun h' tk hd' hk => ?_
    · simp [hl2]
    · obtain ⟨q, b, e1, e2, e3, e4, e5⟩ := hpr j _ e
      refine ⟨by simp [e3], .inl ?_⟩
      simp only [List.getD_eq_getElem?_getD, e3, Option.getD_some]
      exact e4
    · obtain ⟨q, b, e1, e2, e3, e4, e5⟩ := hpr i _ e
      obtain ⟨kq, vq⟩ := q
      have e2 : v = vq := e2
      subst e2
      exact ⟨kq, e1, by simpa [mixKind] using e5⟩
    · have hd0 : (s.heap.objs.size == sysModules) = false := beq_eq_false_iff_ne.mpr (Nat.ne_of_gt I.big)
      have hlen : (mergeK [] kws).length ≤ sizeLine := by
        refine Nat.le_trans (length_mergeK kws []) ?_
        rw [List.length_nil, Nat.zero_add, rel.length, hl]
        exact hz
      have fr : H s.heap.objs.size = none := I.hok.fresh (Nat.le_refl _)
      obtain ⟨y1, y2, y3⟩ := new_dic hm (mergeP_rep f1 .nil) fr
      exact ⟨.ref s.heap.objs.size, upd H s.heap.objs.size (.dK (mergeK [] kws)), I.laid (t' := tk) (fun b o e => hk b o (by simp) e) (Nat.le_refl _) (show ObjOk X.prog X.w _ _ _ (.dK (mergeK [] kws)) from ⟨hlen, hd0, merged [] prs, KV.merge rel .nil, hd'⟩), rfl, k _ _ _ y1 y2 y3⟩
  · cases h
/-! ### a module's text, a module's tuple of texts -/
theorem rx_gstr {x y : Str} {pos : Pos} (h : ∃ t, X.mg x = some (.str y t)) (hg : Gl X x) (hd : (x == ("__debug__" : Str)) = false := by decide) : RX cl X (.Name x pos) (xC (.str y)) := by
  obtain ⟨t, h⟩ := h
  exact rx_c (v := .str y) (pe_glob hg h ⟨t, rfl⟩ hd) fun _ _ => by rw [Rep]
def GTup (K : PySem.W.Frag) (mg : Str → Option Value) (x : Str) (ws : List Str) : Prop := ∃ t, mg x = some (.ref t) ∧ ∀ H, SqP K H t (ws.map V.str)
theorem rx_gtup {x : Str} {ws : List Str} {pos : Pos} (h : GTup X.K X.mg x ws) (hg : Gl X x) (hd : (x == ("__debug__" : Str)) = false := by decide) : RX cl X (.Name x pos) (xC (.tup (ws.map PV.str))) := by
  obtain ⟨t, h, h2⟩ := h
  exact rx_c (v := .ref t) (pe_glob hg h rfl hd) fun ρ H => by rw [rep_tup]; exact ⟨t, _, rfl, h2 H, repL_strs ws⟩
theorem gtup_mk {K : PySem.W.Frag} {mg : Str → Option Value} {t : Addr} {x : Str} {ws : List Str} {its : Array Value} {n : Nat} {sl : Array (Option Value)} (h1 : mg x = some (.ref t)) (h2 : K.lookup t = some ⟨.type "tuple", none, .seq its n, sl⟩) (h3 : Vals (ws.map V.str) its.toList) (h4 : its.size ≤ sizeLine) : GTup K mg x ws :=
  ⟨t, h1, fun H => .inr ⟨_, its, n, h2, rfl, rfl, rfl, h4, h3⟩⟩
end
end Rf
end

section
set_option Elab.async false
set_option linter.all false
set_option autoImplicit false
namespace Rf
open PySem
theorem lcLP_nm (i : Nat) (tt : Tx) (te : Ex) (gd : List (Nat × Ob)) (D : Nat) (env : Env) : ∀ (ps : List PV) (m : Mem) (acc : List PV), lcLP (pNm i) tt te gd D env ps m acc = lcL i tt te gd D env ps m acc
  | [], m, acc => rfl
  | p :: ps, m, acc => by
    rw [lcLP, lcL]
    simp only [lcLP_nm i tt te gd D env ps]
    rfl
theorem xLcP_nm {vs : List Nat} {it : Ix} {i : Nat} {tt : Tx} {te : Ex} : xLcP vs it (pNm i) tt te = xLc vs it i tt te := by
  funext env m
  unfold xLcP xLc
  simp only [lcLP_nm]
theorem maxL_two {i j : Int} {m : Mem} : maxL [.int i, .int j] m = some (.int (if j > i then j else i), m) := rfl
end Rf
end

section
set_option Elab.async false
set_option linter.all false
set_option maxRecDepth 100000
namespace Gen
open PySem PySem.Spec L2 Rf
def b_law_start : Sx :=
  (sRt (xA lstG (aCons (xLcP (List.map (·.2) ([("cell", 1)] : List (PySem.Str × Nat))) (iAny (xSl (xVar 0) oNone (oSome (xC (.int (63)))))) (pNm 1) tYs (xA intG (aCons (xVar 1) aNil))) (aCons (xC (.int (0))) (aCons (xC (.int (0))) (aCons (xC (.int (0))) (aCons (xC (.int (20))) aNil)))))))
def f_law_start : Fn := fnF 2 b_law_start
def b_law_value : Sx :=
  (sSq (sIf (tBl (x2 eqG (x2 ixG (xVar 0) (xC (.int (0)))) (xC (.str "reg")))) (sRt (x2 ixG (xVar 1) (x2 ixG (xVar 0) (xC (.int (1)))))) sNx)
    (sRt (x2 ixG (xVar 0) (xC (.int (1))))))
def f_law_value : Fn := fnF 2 b_law_value
def b_law_wrapped : Sx :=
  (sRt (x2 subG (x2 modG (xA intG (aCons (x2 addG (xVar 0) (xC (.int (2147483648)))) aNil)) (xC (.int (4294967296)))) (xC (.int (2147483648)))))
def f_law_wrapped : Fn := fnF 1 b_law_wrapped
def b_law_computed : Sx :=
  (sSq (sIf (tBl (x2 eqG (xVar 0) (xC (.str "add")))) (sRt (xCall 1 f_law_wrapped (aCons (x2 addG (xVar 1) (xVar 2)) aNil))) sNx)
    (sSq (sIf (tBl (x2 eqG (xVar 0) (xC (.str "sub")))) (sRt (xCall 1 f_law_wrapped (aCons (x2 subG (xVar 1) (xVar 2)) aNil))) sNx)
    (sSq (sIf (tBl (x2 eqG (xVar 0) (xC (.str "mul")))) (sRt (xCall 1 f_law_wrapped (aCons (x2 mulG (xVar 1) (xVar 2)) aNil))) sNx)
    (sSq (sIf (tBl (x2 eqG (xVar 0) (xC (.str "less")))) (sRt (xA intG (aCons (x2 ltG (xVar 1) (xVar 2)) aNil))) sNx)
    (sSq (sAs (xC (.int (0))) (gNm 3))
    (sSq (sAs (xC (.int (1))) (gNm 4))
    (sSq (sAs (x2 modG (xA intG (aCons (xVar 1) aNil)) (xC (.int (4294967296)))) (gNm 1))
    (sSq (sAs (x2 modG (xA intG (aCons (xVar 2) aNil)) (xC (.int (4294967296)))) (gNm 2))
    (sSq (sFor (iRg (aCons (xC (.int (32))) aNil)) (gNm 5) (sSq (sIf (tAn (tBl (x2 eqG (x2 modG (xA intG (aCons (x2 divG (xVar 1) (xVar 4)) aNil)) (xC (.int (2)))) (xC (.int (1))))) (tBl (x2 eqG (x2 modG (xA intG (aCons (x2 divG (xVar 2) (xVar 4)) aNil)) (xC (.int (2)))) (xC (.int (1)))))) (sAs (x2 addG (xVar 3) (xVar 4)) (gNm 3)) sNx)
    (sAs (x2 mulG (xVar 4) (xC (.int (2)))) (gNm 4))))
    (sRt (xCall 1 f_law_wrapped (aCons (xVar 3) aNil))))))))))))
def f_law_computed : Fn := fnF 6 b_law_computed
def b_law_results : Sx :=
  (sSq (sAs (x2 ixG (xVar 0) (xC (.int (0)))) (gNm 4))
    (sSq (sIf (tBl (x2 eqG (xVar 4) (xC (.str "out")))) (sSq (sEx (xM chkL appG (xVar 3) (aCons (xCall 2 f_law_value (aCons (x2 ixG (xVar 0) (xC (.int (1)))) (aCons (xVar 1) aNil))) aNil)))
    (sRt (xA lstG aNil))) sNx)
    (sSq (sIf (tBl (x2 eqG (xVar 4) (xC (.str "store")))) (sRt (xA lstG (aCons (xA lstG (aCons (xC (.str "cell")) (aCons (x2 modG (xA intG (aCons (xCall 2 f_law_value (aCons (x2 ixG (xVar 0) (xC (.int (1)))) (aCons (xVar 1) aNil))) aNil)) (xC (.int (16)))) (aCons (xCall 2 f_law_value (aCons (x2 ixG (xVar 0) (xC (.int (2)))) (aCons (xVar 1) aNil))) aNil)))) aNil))) sNx)
    (sSq (sIf (tBl (x2 eqG (xVar 4) (xC (.str "load")))) (sRt (xA lstG (aCons (xA lstG (aCons (xC (.str "reg")) (aCons (x2 ixG (xVar 0) (xC (.int (1)))) (aCons (x2 ixG (xVar 2) (x2 modG (xA intG (aCons (xCall 2 f_law_value (aCons (x2 ixG (xVar 0) (xC (.int (2)))) (aCons (xVar 1) aNil))) aNil)) (xC (.int (16))))) aNil)))) aNil))) sNx)
    (sRt (xA lstG (aCons (xA lstG (aCons (xC (.str "reg")) (aCons (x2 ixG (xVar 0) (xC (.int (1)))) (aCons (xCall 3 f_law_computed (aCons (xVar 4) (aCons (xCall 2 f_law_value (aCons (x2 ixG (xVar 0) (xC (.int (2)))) (aCons (xVar 1) aNil))) (aCons (xCall 2 f_law_value (aCons (x2 ixG (xVar 0) (xC (.int (3)))) (aCons (xVar 1) aNil))) aNil)))) aNil)))) aNil)))))))
def f_law_results : Fn := fnF 5 b_law_results
def b_law_put : Sx :=
  (sSq (sFor (iAny (xVar 0)) (gNm 3) (sIf (tBl (x2 eqG (x2 ixG (xVar 3) (xC (.int (0)))) (xC (.str "cell")))) (sAs (x2 ixG (xVar 3) (xC (.int (2)))) (gIx (xVar 2) (x2 ixG (xVar 3) (xC (.int (1)))))) (sAs (x2 ixG (xVar 3) (xC (.int (2)))) (gIx (xVar 1) (x2 ixG (xVar 3) (xC (.int (1))))))))
    (sRt (xC (.bl true))))
def f_law_put : Fn := fnF 4 b_law_put
def b_law_turns : Sx :=
  (sRt (xA maxL (aCons (xC (.int (0))) (aCons (xA minG (aCons (xVar 0) (aCons (xC (.int (40))) aNil))) aNil))))
def f_law_turns : Fn := fnF 1 b_law_turns
def b_law_begin : Sx :=
  (sSq (sAs (xSl (xA listG (aCons (xVar 0) aNil)) oNone (oSome (xC (.int (16))))) (gNm 1))
    (sRt (xA lstG (aCons (x2 addG (xVar 1) (x2 mulG (xA lstG (aCons (xC (.int (0))) aNil)) (x2 subG (xC (.int (16))) (xA lenG (aCons (xVar 1) aNil))))) (aCons (x2 mulG (xA lstG (aCons (xC (.int (0))) aNil)) (xC (.int (16)))) (aCons (xA lstG aNil) aNil))))))
def f_law_begin : Fn := fnF 2 b_law_begin
def b_law_run : Sx :=
  (sSq (sAs (xCall 1 f_law_begin (aCons (xVar 1) aNil)) (gSq 3 (gsCons (gNm 3) (gsCons (gNm 4) (gsCons (gNm 5) gsNil)))))
    (sSq (sFor (iAny (xVar 0)) (gNm 2) (sSq (sAs (xA tupG (aCons (xVar 2) aNil)) (gNm 6))
    (sSq (sAs (xC (.int (1))) (gNm 7))
    (sSq (sIf (tBl (x2 eqG (x2 ixG (xVar 2) (xC (.int (0)))) (xC (.str "loop")))) (sSq (sAs (x2 ixG (xVar 2) (xC (.int (2)))) (gNm 6))
    (sAs (xCall 1 f_law_turns (aCons (xCall 2 f_law_value (aCons (x2 ixG (xVar 2) (xC (.int (1)))) (aCons (xVar 3) aNil))) aNil)) (gNm 7))) sNx)
    (sFor (iRg (aCons (xVar 7) aNil)) (gNm 8) (sFor (iAny (xVar 6)) (gNm 9) (sEx (xCall 3 f_law_put (aCons (xCall 4 f_law_results (aCons (xVar 9) (aCons (xVar 3) (aCons (xVar 4) (aCons (xVar 5) aNil))))) (aCons (xVar 3) (aCons (xVar 4) aNil)))))))))))
    (sRt (xA tupG (aCons (xA tupleG (aCons (xVar 5) aNil)) (aCons (xA tupleG (aCons (xVar 3) aNil)) (aCons (xA tupleG (aCons (xVar 4) aNil)) aNil)))))))
def f_law_run : Fn := fnF 10 b_law_run
def b_law_whole : Sx :=
  (sRt (xAn (x1 (isG "int") (xVar 0)) (xNt (x1 (isG "bool") (xVar 0)))))
def f_law_whole : Fn := fnF 1 b_law_whole
def b_law_all_whole (self : Fn) : Sx :=
  (sSq (sIf (tTru (x1 (isG "tuple") (xVar 0))) (sRt (xA allG (aCons (xLcP (List.map (·.2) ([("part", 1)] : List (PySem.Str × Nat))) (iAny (xVar 0)) (pNm 1) tYs (xCall 1 self (aCons (xVar 1) aNil))) aNil))) sNx)
    (sRt (xCall 1 f_law_whole (aCons (xVar 0) aNil))))
def f_law_all_whole_ : Nat → Fn
  | 0 => fun _ _ => none
  | n + 1 => fnF 2 (b_law_all_whole (f_law_all_whole_ n))
def f_law_all_whole : Fn := f_law_all_whole_ 4
def b_State_told : Sx :=
  (sSq (sAs (xLcP (List.map (·.2) ([("k", 2)] : List (PySem.Str × Nat))) (iRg (aCons (xC (.int (16))) aNil)) (pNm 2) tYs (xGet (x1 (fldG 0 "registers") (xVar 0)) (xVar 2) (xC (.int (0))))) (gNm 1))
    (sRt (xA tupG (aCons (xA tupleG (aCons (x1 (fldG 0 "outputs") (xVar 0)) aNil)) (aCons (xA tupleG (aCons (xVar 1) aNil)) (aCons (xA tupleG (aCons (x1 (fldG 0 "cells") (xVar 0)) aNil)) aNil))))))
def f_State_told : Fn := fnF 3 b_State_told
def b_State_worth : Sx :=
  (sSq (sAs (xVar 1) (gSq 2 (gsCons (gNm 2) (gsCons (gNm 3) gsNil))))
    (sSq (sIf (tBl (x2 eqG (xVar 2) (xC (.str "int")))) (sRt (xVar 3)) sNx)
    (sRt (xGet (x1 (fldG 0 "registers") (xVar 0)) (xVar 3) (xC (.int (0)))))))
def f_State_worth : Fn := fnF 4 b_State_worth
def b_turns_of : Sx :=
  (sRt (xA minG (aCons (xA maxL (aCons (xVar 0) (aCons (xC (.int (0))) aNil))) (aCons (xC (.int (40))) aNil))))
def f_turns_of : Fn := fnF 1 b_turns_of
def b_State_finish : Sx :=
  (sSq (sAs (xVar 1) (gSq 3 (gsCons (gNm 2) (gsCons (gNm 3) (gsCons (gNm 4) gsNil)))))
    (sIf (tBl (x2 eqG (xVar 2) (xC (.str "cell")))) (sAs (xVar 4) (gIx (x1 (fldG 0 "cells") (xVar 0)) (xVar 3))) (sAs (xVar 4) (gIx (x1 (fldG 0 "registers") (xVar 0)) (xVar 3)))))
def f_State_finish : Fn := fnF 5 b_State_finish
def b_wrap : Sx :=
  (sRt (x2 addG (x2 modG (x2 subG (xVar 0) (xC (.int (-2147483648)))) (xC (.int (4294967296)))) (xC (.int (-2147483648)))))
def f_wrap : Fn := fnF 1 b_wrap
def b_operate : Sx :=
  (sSq (sIf (tBl (x2 eqG (xVar 0) (xC (.str "add")))) (sRt (xCall 1 f_wrap (aCons (x2 addG (xVar 1) (xVar 2)) aNil))) sNx)
    (sSq (sIf (tBl (x2 eqG (xVar 0) (xC (.str "sub")))) (sRt (xCall 1 f_wrap (aCons (x2 subG (xVar 1) (xVar 2)) aNil))) sNx)
    (sSq (sIf (tBl (x2 eqG (xVar 0) (xC (.str "mul")))) (sRt (xCall 1 f_wrap (aCons (x2 mulG (xVar 1) (xVar 2)) aNil))) sNx)
    (sSq (sIf (tBl (x2 eqG (xVar 0) (xC (.str "and")))) (sRt (xCall 1 f_wrap (aCons (x2 andG (xVar 1) (xVar 2)) aNil))) sNx)
    (sRt (xIf (tBl (x2 ltG (xVar 1) (xVar 2))) (xC (.int (1))) (xC (.int (0)))))))))
def f_operate : Fn := fnF 3 b_operate
def b_State_begin : Sx :=
  (sSq (sAs (x2 ixG (xVar 1) (xC (.int (0)))) (gNm 2))
    (sSq (sIf (tBl (x2 eqG (xVar 2) (xC (.str "out")))) (sSq (sEx (xM chkL appG (x1 (fldG 0 "outputs") (xVar 0)) (aCons (xMeth 0 "worth" 1 f_State_worth (xVar 0) (aCons (x2 ixG (xVar 1) (xC (.int (1)))) aNil)) aNil)))
    (sRt (xC .non))) sNx)
    (sSq (sIf (tBl (x2 eqG (xVar 2) (xC (.str "store")))) (sSq (sAs (x2 modG (xMeth 0 "worth" 1 f_State_worth (xVar 0) (aCons (x2 ixG (xVar 1) (xC (.int (1)))) aNil)) (xC (.int (16)))) (gNm 5))
    (sRt (xA tupG (aCons (xC (.str "cell")) (aCons (xVar 5) (aCons (xMeth 0 "worth" 1 f_State_worth (xVar 0) (aCons (x2 ixG (xVar 1) (xC (.int (2)))) aNil)) aNil)))))) sNx)
    (sSq (sIf (tBl (x2 eqG (xVar 2) (xC (.str "load")))) (sSq (sAs (x2 modG (xMeth 0 "worth" 1 f_State_worth (xVar 0) (aCons (x2 ixG (xVar 1) (xC (.int (2)))) aNil)) (xC (.int (16)))) (gNm 5))
    (sRt (xA tupG (aCons (xC (.str "reg")) (aCons (x2 ixG (xVar 1) (xC (.int (1)))) (aCons (x2 ixG (x1 (fldG 0 "cells") (xVar 0)) (xVar 5)) aNil)))))) sNx)
    (sSq (sAs (xMeth 0 "worth" 1 f_State_worth (xVar 0) (aCons (x2 ixG (xVar 1) (xC (.int (2)))) aNil)) (gNm 3))
    (sSq (sAs (xMeth 0 "worth" 1 f_State_worth (xVar 0) (aCons (x2 ixG (xVar 1) (xC (.int (3)))) aNil)) (gNm 4))
    (sRt (xA tupG (aCons (xC (.str "reg")) (aCons (x2 ixG (xVar 1) (xC (.int (1)))) (aCons (xCall 3 f_operate (aCons (xVar 2) (aCons (xVar 3) (aCons (xVar 4) aNil)))) aNil)))))))))))
def f_State_begin : Fn := fnF 6 b_State_begin
def b_State_execute : Sx :=
  (sSq (sAs (xMeth 0 "begin" 1 f_State_begin (xVar 0) (aCons (xVar 1) aNil)) (gNm 2))
    (sIf (tBl (x2 notNG (xVar 2) (xC .non))) (sEx (xMeth 0 "finish" 1 f_State_finish (xVar 0) (aCons (xVar 2) aNil))) sNx))
def f_State_execute : Fn := fnF 3 b_State_execute
def b_State_execute_loop : Sx :=
  (sFor (iRg (aCons (xCall 1 f_turns_of (aCons (xMeth 0 "worth" 1 f_State_worth (xVar 0) (aCons (xVar 1) aNil)) aNil)) aNil)) (gNm 3) (sFor (iAny (xVar 2)) (gNm 4) (sEx (xMeth 0 "execute" 1 f_State_execute (xVar 0) (aCons (xVar 4) aNil)))))
def f_State_execute_loop : Fn := fnF 5 b_State_execute_loop
def b_State_init : Sx :=
  (sSq (sFd 0 "registers" (xVar 0) (x1 dictEnG (xVar 1)))
    (sSq (sFd 0 "cells" (xVar 0) (x2 mulG (xA lstG (aCons (xC (.int (0))) aNil)) (xC (.int (16)))))
    (sFd 0 "outputs" (xVar 0) (xA lstG aNil))))
def f_State_init : Fn := fnF 2 b_State_init
def b_run : Sx :=
  (sSq (sAs (xMake 0 1 f_State_init (aCons (xVar 1) aNil)) (gNm 2))
    (sSq (sFor (iAny (xVar 0)) (gNm 3) (sIf (tBl (x2 eqG (x2 ixG (xVar 3) (xC (.int (0)))) (xC (.str "loop")))) (sEx (xMeth 0 "execute_loop" 2 f_State_execute_loop (xVar 2) (aCons (x2 ixG (xVar 3) (xC (.int (1)))) (aCons (x2 ixG (xVar 3) (xC (.int (2)))) aNil)))) (sEx (xMeth 0 "execute" 1 f_State_execute (xVar 2) (aCons (xVar 3) aNil)))))
    (sRt (xMeth 0 "told" 0 f_State_told (xVar 2) aNil))))
def f_run : Fn := fnF 4 b_run
def b_law_fill : Sx :=
  (sSq (sAs (x2 addG (x2 ixG (xVar 0) (xC (.int (3)))) (xC (.int (1)))) (gIx (xVar 0) (xC (.int (3)))))
    (sSq (sAs (x2 addG (x2 mulG (x2 ixG (xVar 0) (xC (.int (3)))) (xC (.int (69621)))) (xC (.int (12345)))) (gNm 1))
    (sSq (sIf (tBl (x2 ltG (x2 ixG (xVar 0) (xC (.int (1)))) (xA lenG (aCons (x2 ixG (xVar 0) (xC (.int (0)))) aNil)))) (sSq (sAs (x2 ixG (x2 ixG (xVar 0) (xC (.int (0)))) (x2 ixG (xVar 0) (xC (.int (1))))) (gNm 1))
    (sSq (sAs (x2 addG (x2 ixG (xVar 0) (xC (.int (1)))) (xC (.int (1)))) (gIx (xVar 0) (xC (.int (1)))))
    (sSq (sIf (tBl (x2 ltG (xVar 1) (xC (.int (0))))) (sAs (x2 subG (x2 subG (xC (.int (0))) (xC (.int (1)))) (xVar 1)) (gNm 1)) sNx)
    (sIf (tBl (x2 geG (xVar 1) (x2 powG (xC (.int (10))) (xC (.int (18)))))) (sRt (xVar 1)) sNx)))) sNx)
    (sSq (sIf (tAn (tTru (x2 ixG (xVar 0) (xC (.int (0))))) (tBl (x2 geG (x2 ixG (xVar 0) (xC (.int (1)))) (xA lenG (aCons (x2 ixG (xVar 0) (xC (.int (0)))) aNil))))) (sAs (x2 addG (xVar 1) (x2 modG (xA intG (aCons (x2 ixG (x2 ixG (xVar 0) (xC (.int (0)))) (x1 negG (xC (.int (1))))) aNil)) (xC (.int (1000003))))) (gNm 1)) sNx)
    (sSq (sAs (x2 modG (xA intG (aCons (x2 addG (x2 mulG (xVar 1) (xC (.int (48271)))) (x2 mulG (x2 ixG (xVar 0) (xC (.int (3)))) (xC (.int (69621))))) aNil)) (xC (.int (2147483647)))) (gNm 1))
    (sRt (x2 addG (x2 modG (xA intG (aCons (x2 addG (x2 addG (x2 mulG (xVar 1) (xVar 1)) (x2 mulG (x2 ixG (xVar 0) (xC (.int (3)))) (xC (.int (7919))))) (xC (.int (11)))) aNil)) (xC (.int (2305843009213693951)))) (xC (.int (2305843009213693951))))))))))
def f_law_fill : Fn := fnF 2 b_law_fill
def b_law_take : Sx :=
  (sSq (sIf (tBl (x2 ltG (x2 ixG (xVar 0) (xC (.int (2)))) (xVar 1))) (sAs (xCall 1 f_law_fill (aCons (xVar 0) aNil)) (gIx (xVar 0) (xC (.int (2))))) sNx)
    (sSq (sAs (x2 modG (xA intG (aCons (x2 ixG (xVar 0) (xC (.int (2)))) aNil)) (xVar 1)) (gNm 2))
    (sSq (sAs (x2 divG (x2 ixG (xVar 0) (xC (.int (2)))) (xVar 1)) (gIx (xVar 0) (xC (.int (2)))))
    (sRt (xVar 2)))))
def f_law_take : Fn := fnF 3 b_law_take
def b_law_integer : Sx :=
  (sRt (x2 ixG (xA lstG (aCons (x2 subG (xCall 2 f_law_take (aCons (xVar 0) (aCons (xC (.int (9))) aNil))) (xC (.int (4)))) (aCons (xCall 2 f_law_take (aCons (xVar 0) (aCons (xC (.int (20))) aNil))) (aCons (x2 subG (xCall 2 f_law_take (aCons (xVar 0) (aCons (xC (.int (4294967296))) aNil))) (xC (.int (2147483648)))) (aCons (xC (.int (2147483647))) aNil))))) (x2 ixG (xA lstG (aCons (xC (.int (0))) (aCons (xC (.int (0))) (aCons (xC (.int (1))) (aCons (xC (.int (2))) (aCons (xC (.int (2))) (aCons (xC (.int (3))) aNil))))))) (xCall 2 f_law_take (aCons (xVar 0) (aCons (xC (.int (6))) aNil))))))
def f_law_integer : Fn := fnF 1 b_law_integer
def b_law_inputs : Sx :=
  (sRt (xA tupleG (aCons (xLcP (List.map (·.2) ([("k", 1)] : List (PySem.Str × Nat))) (iRg (aCons (xCall 2 f_law_take (aCons (xVar 0) (aCons (xC (.int (17))) aNil))) aNil)) (pNm 1) tYs (xCall 1 f_law_integer (aCons (xVar 0) aNil))) aNil)))
def f_law_inputs : Fn := fnF 2 b_law_inputs
def b_law_operand : Sx :=
  (sSq (sIf (tBl (x2 neG (xCall 2 f_law_take (aCons (xVar 0) (aCons (xC (.int (3))) aNil))) (xC (.int (0))))) (sRt (xA tupG (aCons (xC (.str "reg")) (aCons (xCall 2 f_law_take (aCons (xVar 0) (aCons (xVar 1) aNil))) aNil)))) sNx)
    (sRt (xA tupG (aCons (xC (.str "int")) (aCons (xCall 1 f_law_integer (aCons (xVar 0) aNil)) aNil)))))
def f_law_operand : Fn := fnF 2 b_law_operand
def b_law_instruction : Sx :=
  (sSq (sAs (x2 ixG (xA lstG (aCons (xC (.str "add")) (aCons (xC (.str "and")) (aCons (xC (.str "less")) (aCons (xC (.str "load")) (aCons (xC (.str "mul")) (aCons (xC (.str "out")) (aCons (xC (.str "store")) (aCons (xC (.str "sub")) (aCons (xC (.str "add")) (aCons (xC (.str "out")) (aCons (xC (.str "load")) (aCons (xC (.str "store")) aNil))))))))))))) (xCall 2 f_law_take (aCons (xVar 0) (aCons (xC (.int (12))) aNil)))) (gNm 2))
    (sSq (sIf (tBl (x2 eqG (xVar 2) (xC (.str "out")))) (sRt (xA tupG (aCons (xC (.str "out")) (aCons (xCall 2 f_law_operand (aCons (xVar 0) (aCons (xVar 1) aNil))) aNil)))) sNx)
    (sSq (sAs (xA tupG (aCons (xC (.str "int")) (aCons (x2 subG (xCall 2 f_law_take (aCons (xVar 0) (aCons (x2 ixG (xA lstG (aCons (xC (.int (3))) (aCons (xC (.int (40))) aNil))) (xCall 2 f_law_take (aCons (xVar 0) (aCons (xC (.int (2))) aNil)))) aNil))) (xC (.int (1)))) aNil))) (gNm 3))
    (sSq (sIf (tBl (x2 eqG (xVar 2) (xC (.str "load")))) (sRt (xA tupG (aCons (xC (.str "load")) (aCons (xCall 2 f_law_take (aCons (xVar 0) (aCons (xVar 1) aNil))) (aCons (x2 ixG (xA lstG (aCons (xVar 3) (aCons (xCall 2 f_law_operand (aCons (xVar 0) (aCons (xVar 1) aNil))) aNil))) (xCall 2 f_law_take (aCons (xVar 0) (aCons (xC (.int (2))) aNil)))) aNil))))) sNx)
    (sSq (sIf (tBl (x2 eqG (xVar 2) (xC (.str "store")))) (sRt (xA tupG (aCons (xC (.str "store")) (aCons (x2 ixG (xA lstG (aCons (xVar 3) (aCons (xCall 2 f_law_operand (aCons (xVar 0) (aCons (xVar 1) aNil))) aNil))) (xCall 2 f_law_take (aCons (xVar 0) (aCons (xC (.int (2))) aNil)))) (aCons (xCall 2 f_law_operand (aCons (xVar 0) (aCons (xVar 1) aNil))) aNil))))) sNx)
    (sRt (xA tupG (aCons (xVar 2) (aCons (xCall 2 f_law_take (aCons (xVar 0) (aCons (xVar 1) aNil))) (aCons (xCall 2 f_law_operand (aCons (xVar 0) (aCons (xVar 1) aNil))) (aCons (xCall 2 f_law_operand (aCons (xVar 0) (aCons (xVar 1) aNil))) aNil)))))))))))
def f_law_instruction : Fn := fnF 4 b_law_instruction
def b_law_block : Sx :=
  (sRt (xA tupleG (aCons (xLcP (List.map (·.2) ([("k", 3)] : List (PySem.Str × Nat))) (iRg (aCons (xCall 2 f_law_take (aCons (xVar 0) (aCons (x2 addG (xVar 2) (xC (.int (1)))) aNil))) aNil)) (pNm 3) tYs (xCall 2 f_law_instruction (aCons (xVar 0) (aCons (xVar 1) aNil)))) aNil)))
def f_law_block : Fn := fnF 4 b_law_block
def b_law_program : Sx :=
  (sSq (sAs (xA lstG aNil) (gNm 3))
    (sSq (sFor (iRg (aCons (xCall 2 f_law_take (aCons (xVar 0) (aCons (xC (.int (5))) aNil))) aNil)) (gNm 4) (sIf (tBl (x2 eqG (xCall 2 f_law_take (aCons (xVar 0) (aCons (xC (.int (3))) aNil))) (xC (.int (0))))) (sSq (sAs (x2 ixG (xA lstG (aCons (xA tupG (aCons (xC (.str "int")) (aCons (x2 subG (xCall 2 f_law_take (aCons (xVar 0) (aCons (xC (.int (7))) aNil))) (xC (.int (1)))) aNil))) (aCons (xA tupG (aCons (xC (.str "reg")) (aCons (xCall 2 f_law_take (aCons (xVar 0) (aCons (xVar 1) aNil))) aNil))) (aCons (xA tupG (aCons (xC (.str "int")) (aCons (x2 ixG (xA lstG (aCons (xCall 2 f_law_take (aCons (xVar 0) (aCons (xC (.int (50))) aNil))) (aCons (x2 subG (xC (.int (0))) (xCall 2 f_law_take (aCons (xVar 0) (aCons (xC (.int (2000))) aNil)))) (aCons (x2 addG (xC (.int (40))) (xCall 2 f_law_take (aCons (xVar 0) (aCons (x2 powG (xC (.int (10))) (xC (.int (9)))) aNil)))) aNil)))) (xCall 2 f_law_take (aCons (xVar 0) (aCons (xC (.int (3))) aNil)))) aNil))) aNil)))) (xCall 2 f_law_take (aCons (xVar 0) (aCons (xC (.int (3))) aNil)))) (gNm 5))
    (sEx (xM chkL appG (xVar 3) (aCons (xA tupG (aCons (xC (.str "loop")) (aCons (xVar 5) (aCons (x2 addG (xA tupG (aCons (xCall 2 f_law_instruction (aCons (xVar 0) (aCons (xVar 1) aNil))) aNil)) (xCall 3 f_law_block (aCons (xVar 0) (aCons (xVar 1) (aCons (x2 subG (xVar 2) (xC (.int (1)))) aNil))))) aNil)))) aNil)))) (sAs (x2 addG (xVar 3) (xA listG (aCons (xCall 3 f_law_block (aCons (xVar 0) (aCons (xVar 1) (aCons (xC (.int (4))) aNil)))) aNil))) (gNm 3))))
    (sRt (xA tupleG (aCons (xSl (xVar 3) oNone (oSome (xC (.int (12))))) aNil)))))
def f_law_program : Fn := fnF 6 b_law_program
def b_law_rest : Sx :=
  (sSq (sAs (xCall 3 f_law_program (aCons (xVar 1) (aCons (x2 ixG (xA lstG (aCons (xC (.int (16))) (aCons (xC (.int (3))) aNil))) (xCall 2 f_law_take (aCons (xVar 1) (aCons (xC (.int (2))) aNil)))) (aCons (xC (.int (6))) aNil)))) (gNm 2))
    (sSq (sAs (xCall 1 f_law_inputs (aCons (xVar 1) aNil)) (gNm 3))
    (sSq (sAs (xCall 2 f_run (aCons (xVar 2) (aCons (xVar 3) aNil))) (gNm 4))
    (sRt (xAn (x2 eqG (xVar 4) (xCall 2 f_law_run (aCons (xVar 2) (aCons (xVar 3) aNil)))) (xCall 1 f_law_all_whole (aCons (xVar 4) aNil)))))))
def b_law : Sx :=
  (sSq (sAs (xCall 1 f_law_start (aCons (xVar 0) aNil)) (gNm 1))
    (sSq (sAs (xCall 3 f_law_program (aCons (xVar 1) (aCons (x2 ixG (xA lstG (aCons (xC (.int (16))) (aCons (xC (.int (3))) aNil))) (xCall 2 f_law_take (aCons (xVar 1) (aCons (xC (.int (2))) aNil)))) (aCons (xC (.int (6))) aNil)))) (gNm 2))
    (sSq (sAs (xCall 1 f_law_inputs (aCons (xVar 1) aNil)) (gNm 3))
    (sSq (sAs (xCall 2 f_run (aCons (xVar 2) (aCons (xVar 3) aNil))) (gNm 4))
    (sRt (xAn (x2 eqG (xVar 4) (xCall 2 f_law_run (aCons (xVar 2) (aCons (xVar 3) aNil)))) (xCall 1 f_law_all_whole (aCons (xVar 4) aNil))))))))
def f_law : Fn := fnF 5 b_law
end Gen
end

section
set_option maxRecDepth 100000
set_option linter.all false
set_option Elab.async false
namespace Gen
open Rf L2
theorem mod_ok (x : Int) : (-18446744073709551616 < x % 2147483647 ∧ x % 2147483647 < 18446744073709551616) = True := by
  have := Int.emod_nonneg x (show (2147483647 : Int) ≠ 0 by decide)
  have := Int.emod_lt_of_pos x (show (0 : Int) < 2147483647 by decide)
  simp only [eq_iff_iff, iff_true]
  omega
theorem nab10 : (10 : Int).natAbs = 10 := rfl
local macro_rules | `(tactic| walk_at "ev") => `(tactic| simp only [e_var, xLcP_nm, e_c, e_1, e_2, e_A, e_aNil, e_aCons, e_call, e_bl, e_tru, e_nt, e_an, e_or, e_ys, e_xnt, e_xan, e_xor, e_xif, e_oNone, e_oSome, e_sl, e_nx, e_brk, e_cnt, e_sq, e_ex, e_rt, e_rn, e_if, e_as, e_nm, e_gix, e_gsNil, e_gsCons, e_gseqT, e_gseqR, e_fd, e_for, e_any, e_rg, e_en, e_zp, e_lc, e_m, e_get, e_meth, e_make, e_fn, ix_int, ix_t, ix_r, set_r, atI_at, ixN_0, ixN_1, ixN_2, ixN_3, mod_ok,
  startE, addG, subG, mulG, divG, modG, powG, cmpG, ltG, leG, gtG, geG, intG, lenG, lenB, eqG, eqB, neG, truG, tupG, lstG, negG, Option.bind_some, Option.bind_none, Option.map_some, Option.map_none, List.map_cons, List.map_nil, List.length_cons, List.length_nil, List.length_map, List.length_set, List.replicate, List.cons_append, List.nil_append, List.getElem?_cons_zero, List.getElem?_cons_succ, List.set_cons_zero, List.set_cons_succ, List.set_set, List.getElem?_set_self, List.getElem?_set_ne, ne_eq, not_false_eq_true, Nat.reduceAdd, Nat.reduceSub, Nat.reduceEqDiff, Nat.reduceLeDiff, Nat.reduceLT, Nat.reducePow, Int.reducePow, Int.reduceNeg, Int.reduceLT, Int.reduceLE, Int.reduceToNat, nab10, and_self, or_true, true_or, true_and, and_true, ↓reduceIte, Nat.add_zero, Nat.zero_add, Nat.sub_self, decide_eq_true_eq, decide_true, decide_false, Bool.false_eq_true, Bool.not_true, Bool.not_false, *])
structure Cur (m : Mem) (i j : Nat) (ns : List Int) (a n t : Int) : Prop where
  ne : i ≠ j
  at_ : m[i]? = some (.lst [.ref j, .int a, .int n, .int t, .int 20])
  cells : m[j]? = some (.lst (ns.map PV.int))
  ha : 0 ≤ a
  hn : 0 ≤ n
  ht : 0 ≤ t
theorem atI_neg {ns : List Int} (h : ns ≠ []) : ∃ y, atI (ns.map PV.int) (-1) = some (.int y) := by
  refine ⟨ns.getLast h, ?_⟩
  have := List.dropLast_concat_getLast h
  conv => lhs; rw [← this]
  rw [List.map_append]
  exact L2.atI_last _ _
theorem fill_ok {m : Mem} {i j : Nat} {ns : List Int} {a n t : Int} (c : Cur m i j ns a n t) : ∃ v a' t', f_law_fill [.ref i] m = some (.int v, m.set i (.lst [.ref j, .int a', .int n, .int t', .int 20])) ∧ 0 ≤ v ∧ 0 ≤ a' ∧ 0 ≤ t' := by
  obtain ⟨ne, c1, c2, ha, hn, ht⟩ := c
  have hi := (List.getElem?_eq_some_iff.mp c1).1
  have e18 : (10 : Int) ^ (18 : Int).toNat = 1000000000000000000 := by decide
  have nonneg : ∀ x : Int, 0 ≤ x % 2305843009213693951 + 2305843009213693951 := fun x => by
    have := Int.emod_nonneg x (show (2305843009213693951 : Int) ≠ 0 by decide)
    omega
  by_cases hl : a < (ns.length : Int)
  · obtain ⟨x, hx⟩ : ∃ x, (ns.map PV.int)[a.toNat]? = some (.int x) := ⟨ns[a.toNat]'(by omega), by simp⟩
    have hne : (ns.map PV.int).isEmpty = false := by cases ns with | nil => simp at hl; omega | cons _ _ => rfl
    obtain ⟨y, hy⟩ := atI_neg (ns := ns) (by rintro rfl; simp at hl; omega)
    by_cases hx0 : x < 0
    · by_cases hb : (1000000000000000000 : Int) ≤ 0 - 1 - x
      · refine' ⟨_, _, _, ?_, ?_, ?_, ?_⟩
        rotate_left 3
        · unfold f_law_fill b_law_fill
          walk_at "ev"
          rfl
        all_goals omega
      · by_cases hz : (ns.length : Int) ≤ a + 1
        · refine' ⟨_, _, _, ?_, ?_, ?_, ?_⟩
          rotate_left 3
          · unfold f_law_fill b_law_fill
            walk_at "ev"
            rfl
          · exact nonneg _
          all_goals omega
        · refine' ⟨_, _, _, ?_, ?_, ?_, ?_⟩
          rotate_left 3
          · unfold f_law_fill b_law_fill
            walk_at "ev"
            rfl
          · exact nonneg _
          all_goals omega
    · by_cases hb : (1000000000000000000 : Int) ≤ x
      · refine' ⟨_, _, _, ?_, ?_, ?_, ?_⟩
        rotate_left 3
        · unfold f_law_fill b_law_fill
          walk_at "ev"
          rfl
        all_goals omega
      · by_cases hz : (ns.length : Int) ≤ a + 1
        · refine' ⟨_, _, _, ?_, ?_, ?_, ?_⟩
          rotate_left 3
          · unfold f_law_fill b_law_fill
            walk_at "ev"
            rfl
          · exact nonneg _
          all_goals omega
        · refine' ⟨_, _, _, ?_, ?_, ?_, ?_⟩
          rotate_left 3
          · unfold f_law_fill b_law_fill
            walk_at "ev"
            rfl
          · exact nonneg _
          all_goals omega
  · have hz : (ns.length : Int) ≤ a := by omega
    cases hns : ns with
    | nil =>
      subst hns
      have hne : (List.map PV.int ([] : List Int)).isEmpty = true := rfl
      have hne2 : ([] : List PV).isEmpty = true := rfl
      have hl0 : ¬ a < ((0 : Nat) : Int) := hl
      refine' ⟨_, _, _, ?_, ?_, ?_, ?_⟩
      rotate_left 3
      · unfold f_law_fill b_law_fill
        walk_at "ev"
        rfl
      · exact nonneg _
      all_goals omega
    | cons z zs =>
      have hne : (ns.map PV.int).isEmpty = false := by rw [hns]; rfl
      obtain ⟨y, hy⟩ := atI_neg (ns := ns) (by rw [hns]; exact nofun)
      clear hns
      refine' ⟨_, _, _, ?_, ?_, ?_, ?_⟩
      rotate_left 3
      · unfold f_law_fill b_law_fill
        walk_at "ev"
        rfl
      · exact nonneg _
      all_goals omega
def Fr (i : Nat) (m m' : Mem) : Prop := m.length ≤ m'.length ∧ ∀ k, k < m.length → k ≠ i → m'[k]? = m[k]?
theorem Fr.refl {i : Nat} {m : Mem} : Fr i m m := ⟨Nat.le_refl _, fun _ _ _ => rfl⟩
theorem Fr.trans {i : Nat} {m m1 m2 : Mem} (a : Fr i m m1) (b : Fr i m1 m2) : Fr i m m2 := ⟨Nat.le_trans a.1 b.1, fun k hk hn => (b.2 k (Nat.lt_of_lt_of_le hk a.1) hn).trans (a.2 k hk hn)⟩
theorem Fr.set {i : Nat} {m : Mem} {o : Ob} : Fr i m (m.set i o) := ⟨by simp, fun k _ hn => by rw [List.getElem?_set_ne (Ne.symm hn)]⟩
theorem Fr.app {i : Nat} {m : Mem} {l : List Ob} : Fr i m (m ++ l) := ⟨by simp, fun k hk _ => by rw [List.getElem?_append_left hk]⟩
/-- the cursor at i over the cells at j -/
def Cu (m : Mem) (i j : Nat) (ns : List Int) : Prop := ∃ a n t, Cur m i j ns a n t
theorem Cu.fr {m m' : Mem} {i j : Nat} {ns : List Int} (c : Cu m i j ns) (f : Fr i m m') (h : m'[i]? = m[i]?) : Cu m' i j ns := by
  obtain ⟨a, n, t, ne, c1, c2, h1, h2, h3⟩ := c
  exact ⟨a, n, t, ne, by rw [h, c1], by rw [f.2 j (List.getElem?_eq_some_iff.mp c2).1 (Ne.symm ne), c2], h1, h2, h3⟩
theorem Cu.lt {m : Mem} {i j : Nat} {ns : List Int} (c : Cu m i j ns) : i < m.length := by
  obtain ⟨a, n, t, ne, c1, c2, h1, h2, h3⟩ := c
  exact (List.getElem?_eq_some_iff.mp c1).1
theorem take_ok {m : Mem} {i j : Nat} {ns : List Int} (c : Cu m i j ns) {many : Int} (h : 0 < many) (h2 : many < 18446744073709551616) : ∃ d m', f_law_take [.ref i, .int many] m = some (.int d, m') ∧ 0 ≤ d ∧ d < many ∧ Cu m' i j ns ∧ Fr i m m' := by
  obtain ⟨a, n, t, c⟩ := c
  obtain ⟨v, a', t', e, hv, ha', ht'⟩ := fill_ok c
  obtain ⟨ne, c1, c2, ha, hn, ht⟩ := c
  have hi := (List.getElem?_eq_some_iff.mp c1).1
  by_cases hl : n < many
  · refine' ⟨v % many, _, ?_, Int.emod_nonneg _ (by omega), Int.emod_lt_of_pos _ h, ⟨a', v / many, t', ne, ?_, ?_, ha', Int.ediv_nonneg hv (by omega), ht'⟩, ?_⟩
    · unfold f_law_take b_law_take
      walk_at "ev"
      rfl
    · rw [List.getElem?_set_self hi]
    · rw [List.getElem?_set_ne ne, c2]
    · exact Fr.set
  · refine' ⟨n % many, _, ?_, Int.emod_nonneg _ (by omega), Int.emod_lt_of_pos _ h, ⟨a, n / many, t, ne, ?_, ?_, ha, Int.ediv_nonneg hn (by omega), ht⟩, ?_⟩
    · unfold f_law_take b_law_take
      walk_at "ev"
      rfl
    · rw [List.getElem?_set_self hi]
    · rw [List.getElem?_set_ne ne, c2]
    · exact Fr.set
end Gen
end

section
set_option maxRecDepth 100000
set_option linter.all false
set_option Elab.async false
namespace Gen
open Rf L2
local macro_rules | `(tactic| walk_at "ev") => `(tactic| simp only [e_var, xLcP_nm, e_c, e_1, e_2, e_A, e_aNil, e_aCons, e_call, e_bl, e_tru, e_nt, e_an, e_or, e_ys, e_xnt, e_xan, e_xor, e_xif, e_oNone, e_oSome, e_sl, e_nx, e_brk, e_cnt, e_sq, e_ex, e_rt, e_rn, e_if, e_as, e_nm, e_gix, e_gsNil, e_gsCons, e_gseqT, e_gseqR, e_fd, e_for, e_any, e_rg, e_en, e_zp, e_lc, e_m, e_get, e_meth, e_make, e_fn, ix_int, ix_t, ix_r, set_r, atI_at, ixN_0, ixN_1, ixN_2, ixN_3, mod_ok,
  startE, addG, subG, mulG, divG, modG, powG, cmpG, ltG, leG, gtG, geG, intG, lenG, lenB, eqG, eqB, neG, truG, tupG, lstG, negG, Option.bind_some, Option.bind_none, Option.map_some, Option.map_none, List.map_cons, List.map_nil, List.length_cons, List.length_nil, List.length_map, List.length_set, List.replicate, List.cons_append, List.nil_append, List.getElem?_cons_zero, List.getElem?_cons_succ, List.set_cons_zero, List.set_cons_succ, List.set_set, List.getElem?_set_self, List.getElem?_set_ne, ne_eq, not_false_eq_true, Nat.reduceAdd, Nat.reduceSub, Nat.reduceEqDiff, Nat.reduceLeDiff, Nat.reduceLT, Nat.reducePow, Int.reducePow, Int.reduceNeg, Int.reduceLT, Int.reduceLE, Int.reduceToNat, nab10, and_self, or_true, true_or, true_and, and_true, ↓reduceIte, Nat.add_zero, Nat.zero_add, Nat.sub_self, decide_eq_true_eq, decide_true, decide_false, Bool.false_eq_true, Bool.not_true, Bool.not_false, *])
theorem Fr.get {i k : Nat} {m m' : Mem} {o : Ob} (f : Fr i m m') (h : m[k]? = some o) (hk : k ≠ i) : m'[k]? = some o := (f.2 k (List.getElem?_eq_some_iff.mp h).1 hk).trans h
theorem Cu.app {m : Mem} {i j : Nat} {ns : List Int} {l : List Ob} (c : Cu m i j ns) : Cu (m ++ l) i j ns := c.fr Fr.app (by rw [List.getElem?_append_left c.lt])
def Bd (n : Int) : Prop := -4611686018427387904 ≤ n ∧ n ≤ 4611686018427387904
theorem integer_ok {m : Mem} {i j : Nat} {ns : List Int} (c : Cu m i j ns) : ∃ d m', f_law_integer [.ref i] m = some (.int d, m') ∧ Bd d ∧ Cu m' i j ns ∧ Fr i m m' := by
  obtain ⟨d1, m1, e1, l1, u1, c1, f1⟩ := take_ok c (many := 9) (by decide) (by decide)
  obtain ⟨d2, m2, e2, l2, u2, c2, f2⟩ := take_ok c1 (many := 20) (by decide) (by decide)
  obtain ⟨d3, m3, e3, l3, u3, c3, f3⟩ := take_ok c2 (many := 4294967296) (by decide) (by decide)
  have c4 := c3.app (l := [.lst [.int (d1 - 4), .int d2, .int (d3 - 2147483648), .int 2147483647]])
  have c5 := c4.app (l := [.lst [.int 0, .int 0, .int 1, .int 2, .int 2, .int 3]])
  obtain ⟨d6, m6, e6, l6, u6, c6, f6⟩ := take_ok c5 (many := 6) (by decide) (by decide)
  have hlt := c3.lt
  have g1 : m6[m3.length]? = some (.lst [.int (d1 - 4), .int d2, .int (d3 - 2147483648), .int 2147483647]) := f6.get (by rw [List.getElem?_append_left (by simp)]; simp) (by omega)
  have g2 : m6[m3.length + 1]? = some (.lst [.int 0, .int 0, .int 1, .int 2, .int 2, .int 3]) := f6.get (by rw [List.getElem?_append_right (by simp)]; simp) (by omega)
  have hz : (4 : Nat) ≤ PySem.sizeLine := by decide
  have hz6 : (6 : Nat) ≤ PySem.sizeLine := by decide
  have hL : (m3 ++ [Ob.lst [.int (d1 - 4), .int d2, .int (d3 - 2147483648), .int 2147483647]]).length = m3.length + 1 := by simp
  have fr := ((f1.trans f2).trans f3).trans ((Fr.app (l := [.lst [.int (d1 - 4), .int d2, .int (d3 - 2147483648), .int 2147483647]])).trans ((Fr.app (l := [.lst [.int 0, .int 0, .int 1, .int 2, .int 2, .int 3]])).trans f6))
  have main : ∃ d, Bd d ∧ f_law_integer [.ref i] m = some (.int d, m6) := by
    have h6 : d6 = 0 ∨ d6 = 1 ∨ d6 = 2 ∨ d6 = 3 ∨ d6 = 4 ∨ d6 = 5 := by omega
    rcases h6 with rfl | rfl | rfl | rfl | rfl | rfl
    · refine ⟨d1 - 4, by unfold Bd; omega, ?_⟩
      unfold f_law_integer b_law_integer
      walk_at "ev"
    · refine ⟨d1 - 4, by unfold Bd; omega, ?_⟩
      unfold f_law_integer b_law_integer
      walk_at "ev"
    · refine ⟨d2, by unfold Bd; omega, ?_⟩
      unfold f_law_integer b_law_integer
      walk_at "ev"
    · refine ⟨d3 - 2147483648, by unfold Bd; omega, ?_⟩
      unfold f_law_integer b_law_integer
      walk_at "ev"
    · refine ⟨d3 - 2147483648, by unfold Bd; omega, ?_⟩
      unfold f_law_integer b_law_integer
      walk_at "ev"
    · refine ⟨2147483647, by unfold Bd; omega, ?_⟩
      unfold f_law_integer b_law_integer
      walk_at "ev"
  obtain ⟨d, h1, h2⟩ := main
  exact ⟨d, m6, h2, h1, c6, fr⟩
end Gen
end

section
set_option maxRecDepth 100000
set_option linter.all false
set_option Elab.async false
namespace Gen
open Rf L2
local macro_rules | `(tactic| walk_at "ev") => `(tactic| simp only [e_var, xLcP_nm, e_c, e_1, e_2, e_A, e_aNil, e_aCons, e_call, e_bl, e_tru, e_nt, e_an, e_or, e_ys, e_xnt, e_xan, e_xor, e_xif, e_oNone, e_oSome, e_sl, e_nx, e_brk, e_cnt, e_sq, e_ex, e_rt, e_rn, e_if, e_as, e_nm, e_gix, e_gsNil, e_gsCons, e_gseqT, e_gseqR, e_fd, e_for, e_any, e_rg, e_en, e_zp, e_lc, e_m, e_get, e_meth, e_make, e_fn, ix_int, ix_t, ix_r, set_r, atI_at, ixN_0, ixN_1, ixN_2, ixN_3, mod_ok, sne, 
  startE, addG, subG, mulG, divG, modG, powG, cmpG, ltG, leG, gtG, geG, intG, lenG, lenB, eqG, eqB, neG, truG, tupG, lstG, negG, Option.bind_some, Option.bind_none, Option.map_some, Option.map_none, List.map_cons, List.map_nil, List.length_cons, List.length_nil, List.length_map, List.length_set, List.replicate, List.cons_append, List.nil_append, List.getElem?_cons_zero, List.getElem?_cons_succ, List.set_cons_zero, List.set_cons_succ, List.set_set, List.getElem?_set_self, List.getElem?_set_ne, ne_eq, not_false_eq_true, Nat.reduceAdd, Nat.reduceSub, Nat.reduceEqDiff, Nat.reduceLeDiff, Nat.reduceLT, Nat.reducePow, Int.reducePow, Int.reduceNeg, Int.reduceLT, Int.reduceLE, Int.reduceToNat, nab10, and_self, or_true, true_or, true_and, and_true, ↓reduceIte, Nat.add_zero, Nat.zero_add, Nat.sub_self, decide_eq_true_eq, decide_true, decide_false, Bool.false_eq_true, Bool.not_true, Bool.not_false, *])
def Opd (p : PV) : Prop := (∃ k : Int, p = .tup [.str "reg", .int k] ∧ 0 ≤ k ∧ k < 16) ∨ ∃ n, p = .tup [.str "int", .int n] ∧ Bd n
def Ari (k : PySem.Str) : Prop := k = "add" ∨ k = "and" ∨ k = "less" ∨ k = "mul" ∨ k = "sub"
inductive Ins : PV → Prop
  | out {a : PV} : Opd a → Ins (.tup [.str "out", a])
  | load {d : Int} {a : PV} : 0 ≤ d → d < 16 → Opd a → Ins (.tup [.str "load", .int d, a])
  | store {a b : PV} : Opd a → Opd b → Ins (.tup [.str "store", a, b])
  | ari {k : PySem.Str} {d : Int} {a b : PV} : Ari k → 0 ≤ d → d < 16 → Opd a → Opd b → Ins (.tup [.str k, .int d, a, b])
inductive Stm : PV → Prop
  | one {p : PV} : Ins p → Stm p
  | loop {n : PV} {ps : List PV} : Opd n → (∀ p ∈ ps, Ins p) → ps.length ≤ 100 → Stm (.tup [.str "loop", n, .tup ps])
theorem two_le : (2 : Nat) ≤ PySem.sizeLine := by decide
theorem three_le : (3 : Nat) ≤ PySem.sizeLine := by decide
theorem four_le : (4 : Nat) ≤ PySem.sizeLine := by decide
theorem one_le : (1 : Nat) ≤ PySem.sizeLine := by decide
theorem twelve_le : (12 : Nat) ≤ PySem.sizeLine := by decide
theorem operand_ok {m : Mem} {i j : Nat} {ns : List Int} (c : Cu m i j ns) {many : Int} (h : 0 < many) (h2 : many ≤ 16) : ∃ p m', f_law_operand [.ref i, .int many] m = some (p, m') ∧ Opd p ∧ Cu m' i j ns ∧ Fr i m m' := by
  have z2 := two_le
  obtain ⟨d1, m1, e1, l1, u1, c1, f1⟩ := take_ok c (many := 3) (by decide) (by decide)
  by_cases h0 : d1 = 0
  · obtain ⟨d2, m2, e2, b2, c2, f2⟩ := integer_ok c1
    refine ⟨.tup [.str "int", .int d2], m2, ?_, .inr ⟨d2, rfl, b2⟩, c2, f1.trans f2⟩
    subst h0
    unfold f_law_operand b_law_operand
    walk_at "ev"
  · obtain ⟨d2, m2, e2, l2, u2, c2, f2⟩ := take_ok c1 (many := many) h (by omega)
    refine ⟨.tup [.str "reg", .int d2], m2, ?_, .inl ⟨d2, rfl, l2, by omega⟩, c2, f1.trans f2⟩
    unfold f_law_operand b_law_operand
    walk_at "ev"
theorem instruction_ok {m : Mem} {i j : Nat} {ns : List Int} (c : Cu m i j ns) {many : Int} (h : 0 < many) (h2 : many ≤ 16) : ∃ p m', f_law_instruction [.ref i, .int many] m = some (p, m') ∧ Ins p ∧ Cu m' i j ns ∧ Fr i m m' := by
  have z1 := one_le
  have z2 := two_le
  have z3 := three_le
  have z4 := four_le
  have z12 := twelve_le
  have c0 := c.app (l := [.lst [.str "add", .str "and", .str "less", .str "load", .str "mul", .str "out", .str "store", .str "sub", .str "add", .str "out", .str "load", .str "store"]])
  have f0 := Fr.app (i := i) (m := m) (l := [.lst [.str "add", .str "and", .str "less", .str "load", .str "mul", .str "out", .str "store", .str "sub", .str "add", .str "out", .str "load", .str "store"]])
  obtain ⟨d1, m1, e1, l1, u1, c1, f1⟩ := take_ok c0 (many := 12) (by decide) (by decide)
  have hlt := c.lt
  have g1 := f1.get (k := m.length) (o := .lst [.str "add", .str "and", .str "less", .str "load", .str "mul", .str "out", .str "store", .str "sub", .str "add", .str "out", .str "load", .str "store"]) (by simp) (by omega)
  -- out
  obtain ⟨po, mo, eo, wo, co, fo⟩ := operand_ok c1 h h2
  -- place
  have cp0 := c1.app (l := [.lst [.int 3, .int 40]])
  have fp0 := Fr.app (i := i) (m := m1) (l := [.lst [.int 3, .int 40]])
  obtain ⟨d2, m2, e2, l2, u2, c2, f2⟩ := take_ok cp0 (many := 2) (by decide) (by decide)
  have hlt1 := c1.lt
  have g2 := f2.get (k := m1.length) (o := .lst [.int 3, .int 40]) (by simp) (by omega)
  obtain ⟨q, hq, hq1, hq2⟩ : ∃ q : Int, [PV.int 3, PV.int 40][d2.toNat]? = some (.int q) ∧ 0 < q ∧ q ≤ 40 := by
    have : d2 = 0 ∨ d2 = 1 := by omega
    rcases this with rfl | rfl
    · exact ⟨3, rfl, by decide, by decide⟩
    · exact ⟨40, rfl, by decide, by decide⟩
  obtain ⟨d3, m3, e3, l3, u3, c3, f3⟩ := take_ok c2 (many := q) hq1 (by omega)
  have wp : Opd (.tup [.str "int", .int (d3 - 1)]) := .inr ⟨d3 - 1, rfl, by unfold Bd; omega⟩
  have F3 := (f0.trans f1).trans (fp0.trans (f2.trans f3))
  -- load
  obtain ⟨d4, m4, e4, l4, u4, c4, f4⟩ := take_ok c3 (many := many) h (by omega)
  obtain ⟨p5, m5, e5, w5, c5, f5⟩ := operand_ok c4 h h2
  have c6 := c5.app (l := [.lst [.tup [.str "int", .int (d3 - 1)], p5]])
  have f6 := Fr.app (i := i) (m := m5) (l := [.lst [.tup [.str "int", .int (d3 - 1)], p5]])
  obtain ⟨d7, m7, e7, l7, u7, c7, f7⟩ := take_ok c6 (many := 2) (by decide) (by decide)
  have hlt5 := c5.lt
  have g7 := f7.get (k := m5.length) (o := .lst [.tup [.str "int", .int (d3 - 1)], p5]) (by simp) (by omega)
  obtain ⟨p7, hp7, w7⟩ : ∃ p7, [PV.tup [.str "int", .int (d3 - 1)], p5][d7.toNat]? = some p7 ∧ Opd p7 := by
    have : d7 = 0 ∨ d7 = 1 := by omega
    rcases this with rfl | rfl
    · exact ⟨_, rfl, wp⟩
    · exact ⟨_, rfl, w5⟩
  -- store
  obtain ⟨p8, m8, e8, w8, c8, f8⟩ := operand_ok c3 h h2
  have c9 := c8.app (l := [.lst [.tup [.str "int", .int (d3 - 1)], p8]])
  have f9 := Fr.app (i := i) (m := m8) (l := [.lst [.tup [.str "int", .int (d3 - 1)], p8]])
  obtain ⟨d10, m10, e10, l10, u10, c10, f10⟩ := take_ok c9 (many := 2) (by decide) (by decide)
  have hlt8 := c8.lt
  have g10 := f10.get (k := m8.length) (o := .lst [.tup [.str "int", .int (d3 - 1)], p8]) (by simp) (by omega)
  obtain ⟨p10, hp10, w10⟩ : ∃ p10, [PV.tup [.str "int", .int (d3 - 1)], p8][d10.toNat]? = some p10 ∧ Opd p10 := by
    have : d10 = 0 ∨ d10 = 1 := by omega
    rcases this with rfl | rfl
    · exact ⟨_, rfl, wp⟩
    · exact ⟨_, rfl, w8⟩
  obtain ⟨p11, m11, e11, w11, c11, f11⟩ := operand_ok c10 h h2
  -- arithmetic
  obtain ⟨p13, m13, e13, w13, c13, f13⟩ := operand_ok c5 h h2
  have ar : ∀ (k : PySem.Str), Ari k → [PV.str "add", PV.str "and", PV.str "less", PV.str "load", PV.str "mul", PV.str "out", PV.str "store", PV.str "sub", PV.str "add", PV.str "out", PV.str "load", PV.str "store"][d1.toNat]? = some (.str k) → f_law_instruction [.ref i, .int many] m = some (.tup [.str k, .int d4, p5, p13], m13) := fun k hk hg => by
    have n1 : ¬ k = "out" := by rcases hk with rfl | rfl | rfl | rfl | rfl <;> simp only [sne, not_false_eq_true]
    have n2 : ¬ k = "load" := by rcases hk with rfl | rfl | rfl | rfl | rfl <;> simp only [sne, not_false_eq_true]
    have n3 : ¬ k = "store" := by rcases hk with rfl | rfl | rfl | rfl | rfl <;> simp only [sne, not_false_eq_true]
    clear hk
    unfold f_law_instruction b_law_instruction
    walk_at "ev"
  have FA := F3.trans (f4.trans (f5.trans f13))
  have fin : ∀ (k : PySem.Str), Ari k → [PV.str "add", PV.str "and", PV.str "less", PV.str "load", PV.str "mul", PV.str "out", PV.str "store", PV.str "sub", PV.str "add", PV.str "out", PV.str "load", PV.str "store"][d1.toNat]? = some (.str k) → ∃ p m', f_law_instruction [.ref i, .int many] m = some (p, m') ∧ Ins p ∧ Cu m' i j ns ∧ Fr i m m' := fun k hk hg =>
    ⟨_, _, ar k hk hg, .ari hk l4 (by omega) w5 w13, c13, FA⟩
  have hout : [PV.str "add", PV.str "and", PV.str "less", PV.str "load", PV.str "mul", PV.str "out", PV.str "store", PV.str "sub", PV.str "add", PV.str "out", PV.str "load", PV.str "store"][d1.toNat]? = some (.str "out") → ∃ p m', f_law_instruction [.ref i, .int many] m = some (p, m') ∧ Ins p ∧ Cu m' i j ns ∧ Fr i m m' := fun hg =>
    ⟨.tup [.str "out", po], mo, by
      unfold f_law_instruction b_law_instruction
      walk_at "ev", .out wo, co, (f0.trans f1).trans fo⟩
  have hload : [PV.str "add", PV.str "and", PV.str "less", PV.str "load", PV.str "mul", PV.str "out", PV.str "store", PV.str "sub", PV.str "add", PV.str "out", PV.str "load", PV.str "store"][d1.toNat]? = some (.str "load") → ∃ p m', f_law_instruction [.ref i, .int many] m = some (p, m') ∧ Ins p ∧ Cu m' i j ns ∧ Fr i m m' := fun hg =>
    ⟨.tup [.str "load", .int d4, p7], m7, by
      unfold f_law_instruction b_law_instruction
      walk_at "ev", .load l4 (by omega) w7, c7, F3.trans (f4.trans (f5.trans (f6.trans f7)))⟩
  have hstore : [PV.str "add", PV.str "and", PV.str "less", PV.str "load", PV.str "mul", PV.str "out", PV.str "store", PV.str "sub", PV.str "add", PV.str "out", PV.str "load", PV.str "store"][d1.toNat]? = some (.str "store") → ∃ p m', f_law_instruction [.ref i, .int many] m = some (p, m') ∧ Ins p ∧ Cu m' i j ns ∧ Fr i m m' := fun hg =>
    ⟨.tup [.str "store", p10, p11], m11, by
      unfold f_law_instruction b_law_instruction
      walk_at "ev", .store w10 w11, c11, F3.trans (f8.trans (f9.trans (f10.trans f11)))⟩
  have h6 : d1 = 0 ∨ d1 = 1 ∨ d1 = 2 ∨ d1 = 3 ∨ d1 = 4 ∨ d1 = 5 ∨ d1 = 6 ∨ d1 = 7 ∨ d1 = 8 ∨ d1 = 9 ∨ d1 = 10 ∨ d1 = 11 := by omega
  rcases h6 with e | e | e | e | e | e | e | e | e | e | e | e
  · exact fin "add" (.inl rfl) (by rw [e]; rfl)
  · exact fin "and" (.inr (.inl rfl)) (by rw [e]; rfl)
  · exact fin "less" (.inr (.inr (.inl rfl))) (by rw [e]; rfl)
  · exact hload (by rw [e]; rfl)
  · exact fin "mul" (.inr (.inr (.inr (.inl rfl)))) (by rw [e]; rfl)
  · exact hout (by rw [e]; rfl)
  · exact hstore (by rw [e]; rfl)
  · exact fin "sub" (.inr (.inr (.inr (.inr rfl)))) (by rw [e]; rfl)
  · exact fin "add" (.inl rfl) (by rw [e]; rfl)
  · exact hout (by rw [e]; rfl)
  · exact hload (by rw [e]; rfl)
  · exact hstore (by rw [e]; rfl)
end Gen
end

section
set_option maxRecDepth 100000
set_option linter.all false
set_option Elab.async false
namespace Gen
open Rf L2
local macro_rules | `(tactic| walk_at "ev") => `(tactic| simp only [e_var, xLcP_nm, e_c, e_1, e_2, e_A, e_aNil, e_aCons, e_call, e_bl, e_tru, e_nt, e_an, e_or, e_ys, e_xnt, e_xan, e_xor, e_xif, e_oNone, e_oSome, e_sl, e_nx, e_brk, e_cnt, e_sq, e_ex, e_rt, e_rn, e_if, e_as, e_nm, e_gix, e_gsNil, e_gsCons, e_gseqT, e_gseqR, e_fd, e_for, e_any, e_rg, e_en, e_zp, e_lc, e_m, e_get, e_meth, e_make, e_fn, ix_int, ix_t, ix_r, set_r, atI_at, ixN_0, ixN_1, ixN_2, ixN_3, mod_ok, sne, rngG, okG_nil, tupleG, listG, itemsB, PX_nog, PX_wipe, 
  startE, addG, subG, mulG, divG, modG, powG, cmpG, ltG, leG, gtG, geG, intG, lenG, lenB, eqG, eqB, neG, truG, tupG, lstG, negG, Option.bind_some, Option.bind_none, Option.map_some, Option.map_none, List.map_cons, List.map_nil, List.length_cons, List.length_nil, List.length_map, List.length_set, List.replicate, List.cons_append, List.nil_append, List.getElem?_cons_zero, List.getElem?_cons_succ, List.set_cons_zero, List.set_cons_succ, List.set_set, List.getElem?_set_self, List.getElem?_set_ne, ne_eq, not_false_eq_true, Nat.reduceAdd, Nat.reduceSub, Nat.reduceEqDiff, Nat.reduceLeDiff, Nat.reduceLT, Nat.reducePow, Int.reducePow, Int.reduceNeg, Int.reduceLT, Int.reduceLE, Int.reduceToNat, nab10, and_self, or_true, true_or, true_and, and_true, ↓reduceIte, Nat.add_zero, Nat.zero_add, Nat.sub_self, decide_eq_true_eq, decide_true, decide_false, Bool.false_eq_true, Bool.not_true, Bool.not_false, *])
theorem okG0 {m : Mem} : okG [] m = true := rfl
theorem nog {n : Nat} : (∀ g ∈ ([] : List (Nat × Ob)), g.1 < n) = True := by simp
theorem wipe_1 {env : Env} {v : Nat} : wipeE env [v] = env.set v none := rfl
theorem lc_ok {i j sl : Nat} {ns : List Int} {te : Ex} {P : PV → Prop} {env : Env} (hte : ∀ (v : PV) (m : Mem), Cu m i j ns → ∃ p m', te (env.set sl (some v)) m = some (p, m') ∧ P p ∧ Cu m' i j ns ∧ Fr i m m') :
    ∀ (items : List PV) (m : Mem) (D : Nat) (acc : List PV), Cu m i j ns → D ≠ i → D ≠ j → m[D]? = some (.lst acc) → acc.length + items.length < PySem.sizeLine →
      ∃ out m', lcL sl tYs te [] D env items m acc = some (acc ++ out, m') ∧ (∀ p ∈ out, P p) ∧ out.length = items.length ∧ Cu m' i j ns ∧ m'[D]? = some (.lst (acc ++ out)) ∧ m.length ≤ m'.length ∧ ∀ k, k < m.length → k ≠ i → k ≠ D → m'[k]? = m[k]?
  | [], m, D, acc, c, h1, h2, h3, h4 => ⟨[], m, by rw [List.append_nil]; rfl, nofun, rfl, c, by rw [List.append_nil]; exact h3, Nat.le_refl _, fun _ _ _ _ => rfl⟩
  | v :: items, m, D, acc, c, h1, h2, h3, h4 => by
    obtain ⟨p, m1, e1, w1, c1, f1⟩ := hte v m c
    rw [List.length_cons] at h4
    have g1 := f1.get h3 h1
    have hl : acc.length < PySem.sizeLine := by omega
    have hD := (List.getElem?_eq_some_iff.mp g1).1
    have c2 : Cu (m1.set D (.lst (acc ++ [p]))) i j ns := by
      obtain ⟨a, n, t, ne, q1, q2, b1, b2, b3⟩ := c1
      exact ⟨a, n, t, ne, by rw [List.getElem?_set_ne h1]; exact q1, by rw [List.getElem?_set_ne h2]; exact q2, b1, b2, b3⟩
    obtain ⟨out, m2, e2, w2, l2, c3, g2, b2, k2⟩ := lc_ok hte items (m1.set D (.lst (acc ++ [p]))) D (acc ++ [p]) c2 h1 h2 (by rw [List.getElem?_set_self hD]) (by rw [List.length_append, List.length_singleton]; omega)
    refine ⟨p :: out, m2, ?_, ?_, by rw [List.length_cons, List.length_cons, l2], c3, ?_, ?_, fun k hk hi hd => ?_⟩
    · unfold lcL
      rw [show acc ++ p :: out = acc ++ [p] ++ out by simp, ← e2]
      simp only [tYs, Option.bind_some, if_true]
      rw [e1, Option.bind_some, if_pos ⟨rfl, g1, hl⟩]
    · intro q hq
      rcases List.mem_cons.mp hq with rfl | hq
      · exact w1
      · exact w2 q hq
    · rw [g2]; simp
    · rw [List.length_set] at b2; exact Nat.le_trans f1.1 b2
    · rw [k2 k (by rw [List.length_set]; exact Nat.lt_of_lt_of_le hk f1.1) hi hd, List.getElem?_set_ne (Ne.symm hd), f1.2 k hk hi]
theorem lc_pure {sl D : Nat} {te : Ex} {f : PV → PV} {Q : PV → Prop} {env : Env} {gd : List (Nat × Ob)} (hte : ∀ (p : PV) (m : Mem), Q p → te (env.set sl (some p)) m = some (f p, m)) (hg : ∀ g ∈ gd, g.1 < D) :
    ∀ (items : List PV) (m : Mem) (acc : List PV), (∀ p ∈ items, Q p) → okG gd m = true → m[D]? = some (.lst acc) → acc.length + items.length < PySem.sizeLine →
      lcL sl tYs te gd D env items m acc = some (acc ++ items.map f, m.set D (.lst (acc ++ items.map f)))
  | [], m, acc, h1, h2, h3, h4 => by
    unfold lcL
    rw [List.map_nil, List.append_nil]
    congr 2
    apply List.ext_getElem?
    intro k
    by_cases hk : k = D
    · subst hk; rw [List.getElem?_set_self (List.getElem?_eq_some_iff.mp h3).1, h3]
    · rw [List.getElem?_set_ne (Ne.symm hk)]
  | p :: items, m, acc, h1, h2, h3, h4 => by
    rw [List.length_cons] at h4
    have hD := (List.getElem?_eq_some_iff.mp h3).1
    have ih := lc_pure hte hg items (m.set D (.lst (acc ++ [f p]))) (acc ++ [f p]) (fun q hq => h1 q (List.mem_cons_of_mem _ hq)) (okG_set h2 hg) (by rw [List.getElem?_set_self hD]) (by rw [List.length_append, List.length_singleton]; omega)
    unfold lcL
    simp only [tYs, Option.bind_some, if_true]
    rw [hte p m (h1 p List.mem_cons_self), Option.bind_some, if_pos ⟨h2, h3, by omega⟩]
    rw [ih, List.set_set]
    simp
theorem cut_pre (xs : List PV) (k : Nat) : cutP xs none (some (k : Int)) = xs.take k := by
  unfold cutP
  rw [HT.sIx_none, HT.sIx_nat]
  rw [List.drop_zero, Nat.sub_zero]
  by_cases h : k ≤ xs.length
  · rw [Nat.min_eq_left h]
  · rw [Nat.min_eq_right (by omega), List.take_of_length_le (Nat.le_refl _), List.take_of_length_le (by omega)]
theorem rangeP_len (lo : Int) (n : Nat) : (rangeP lo n).length = n := by unfold rangeP; simp
theorem small_le {n : Nat} (h : n ≤ 1000) : n < PySem.sizeLine := Nat.lt_of_le_of_lt h (by decide)

theorem fr_low {i D : Nat} {m m' : Mem} (h : m.length ≤ D) (hb : m.length ≤ m'.length) (k : ∀ q, q < m.length → q ≠ i → q ≠ D → m'[q]? = m[q]?) : Fr i m m' := ⟨hb, fun q hq hn => k q hq hn (by omega)⟩
theorem comp_ok {i j sl : Nat} {ns : List Int} {te : Ex} {P : PV → Prop} {env : Env} {m : Mem} (hte : ∀ (v : PV) (m : Mem), Cu m i j ns → ∃ p m', te (env.set sl (some v)) m = some (p, m') ∧ P p ∧ Cu m' i j ns ∧ Fr i m m') (c : Cu m i j ns) (n : Nat) (hn : n ≤ 1000) :
    ∃ out m', lcL sl tYs te [] m.length env (rangeP 0 n) (m ++ [.lst []]) [] = some (out, m') ∧ (∀ p ∈ out, P p) ∧ out.length = n ∧ Cu m' i j ns ∧ m'[m.length]? = some (.lst out) ∧ Fr i m m' := by
  have hlt := c.lt
  have hj : j < m.length := by
    obtain ⟨a, b, t, ne, c1, c2, _⟩ := c
    exact (List.getElem?_eq_some_iff.mp c2).1
  obtain ⟨out, m', e, w, l, c', g, b, k⟩ := lc_ok hte (rangeP 0 n) (m ++ [.lst []]) m.length [] c.app (by omega) (by omega) (by simp) (by rw [rangeP_len]; exact small_le (by simpa using hn))
  refine ⟨out, m', by simpa using e, w, by rw [l, rangeP_len], c', by simpa using g, ?_⟩
  rw [List.length_append, List.length_singleton] at b k
  refine ⟨by omega, fun q hq hn => ?_⟩
  rw [k q (by omega) hn (by omega), List.getElem?_append_left hq]
theorem block_ok {m : Mem} {i j : Nat} {ns : List Int} (c : Cu m i j ns) {many most : Int} (h : 0 < many) (h2 : many ≤ 16) (h3 : 0 ≤ most) (h4 : most ≤ 100) : ∃ ps m', f_law_block [.ref i, .int many, .int most] m = some (.tup ps, m') ∧ (∀ p ∈ ps, Ins p) ∧ (ps.length : Int) ≤ most ∧ Cu m' i j ns ∧ Fr i m m' := by
  obtain ⟨d, m1, e1, l1, u1, c1, f1⟩ := take_ok c (many := most + 1) (by omega) (by omega)
  obtain ⟨out, m2, e2, w2, l2, c2, g2, f2⟩ := comp_ok (sl := 3) (te := xCall 2 f_law_instruction (aCons (xVar 0) (aCons (xVar 1) aNil))) (P := Ins) (env := [some (.ref i), some (.int many), some (.int most), none]) (fun v m c => by
    obtain ⟨p, m', e, w, c', f⟩ := instruction_ok c h h2
    exact ⟨p, m', by walk_at "ev", w, c', f⟩) c1 d.toNat (by omega)
  have b1 : (-4611686018427387904 ≤ d) := by omega
  have b2 : d < 4611686018427387904 := by omega
  refine ⟨out, m2, ?_, w2, by omega, c2, f1.trans f2⟩
  unfold f_law_block b_law_block
  walk_at "ev"
end Gen
end

section
set_option maxRecDepth 100000
set_option linter.all false
set_option Elab.async false
namespace Gen
open Rf L2
local macro_rules | `(tactic| walk_at "ev") => `(tactic| simp only [e_var, xLcP_nm, e_c, e_1, e_2, e_A, e_aNil, e_aCons, e_call, e_bl, e_tru, e_nt, e_an, e_or, e_ys, e_xnt, e_xan, e_xor, e_xif, e_oNone, e_oSome, e_sl, e_nx, e_brk, e_cnt, e_sq, e_ex, e_rt, e_rn, e_if, e_as, e_nm, e_gix, e_gsNil, e_gsCons, e_gseqT, e_gseqR, e_fd, e_for, e_any, e_rg, e_en, e_zp, e_lc, e_m, e_get, e_meth, e_make, e_fn, ix_int, ix_t, ix_r, set_r, atI_at, ixN_0, ixN_1, ixN_2, ixN_3, mod_ok, sne, rngG, okG_nil, tupleG, listG, itemsB, PX_nog, PX_wipe, 
  startE, addG, subG, mulG, divG, modG, powG, cmpG, ltG, leG, gtG, geG, intG, lenG, lenB, eqG, eqB, neG, truG, tupG, lstG, negG, Option.bind_some, Option.bind_none, Option.map_some, Option.map_none, List.map_cons, List.map_nil, List.length_cons, List.length_nil, List.length_map, List.length_set, List.replicate, List.cons_append, List.nil_append, List.getElem?_cons_zero, List.getElem?_cons_succ, List.set_cons_zero, List.set_cons_succ, List.set_set, List.getElem?_set_self, List.getElem?_set_ne, ne_eq, not_false_eq_true, Nat.reduceAdd, Nat.reduceSub, Nat.reduceEqDiff, Nat.reduceLeDiff, Nat.reduceLT, Nat.reducePow, Int.reducePow, Int.reduceNeg, Int.reduceLT, Int.reduceLE, Int.reduceToNat, nab10, and_self, or_true, true_or, true_and, and_true, ↓reduceIte, Nat.add_zero, Nat.zero_add, Nat.sub_self, decide_eq_true_eq, decide_true, decide_false, Bool.false_eq_true, Bool.not_true, Bool.not_false, *])
theorem inputs_ok {m : Mem} {i j : Nat} {ns : List Int} (c : Cu m i j ns) : ∃ ps m', f_law_inputs [.ref i] m = some (.tup ps, m') ∧ (∀ p ∈ ps, ∃ n, p = .int n ∧ Bd n) ∧ ps.length ≤ 16 ∧ Cu m' i j ns ∧ Fr i m m' := by
  obtain ⟨d, m1, e1, l1, u1, c1, f1⟩ := take_ok c (many := 17) (by decide) (by decide)
  obtain ⟨out, m2, e2, w2, l2, c2, g2, f2⟩ := comp_ok (sl := 1) (te := xCall 1 f_law_integer (aCons (xVar 0) aNil)) (P := fun p => ∃ n, p = .int n ∧ Bd n) (env := [some (.ref i), none]) (fun v m c => by
    obtain ⟨p, m', e, w, c', f⟩ := integer_ok c
    exact ⟨.int p, m', by walk_at "ev", ⟨p, rfl, w⟩, c', f⟩) c1 d.toNat (by omega)
  have b1 : (-4611686018427387904 ≤ d) := by omega
  have b2 : d < 4611686018427387904 := by omega
  refine ⟨out, m2, ?_, w2, by omega, c2, f1.trans f2⟩
  unfold f_law_inputs b_law_inputs
  walk_at "ev"
theorem five_le : (5 : Nat) ≤ PySem.sizeLine := by decide
theorem start_ok {ns : List Int} (h : ns.length ≤ 63) : ∃ i j m', f_law_start [.ref 0] [.rol (ns.map PV.int)] = some (.ref i, m') ∧ Cu m' i j ns := by
  have z5 := five_le
  have hc : cutP (ns.map PV.int) none (some 63) = ns.map PV.int := by
    have := cut_pre (ns.map PV.int) 63
    rw [List.take_of_length_le (by simpa using h)] at this
    exact this
  have e := lc_pure (sl := 1) (D := 2) (te := xA intG (aCons (xVar 1) aNil)) (f := fun p => p) (Q := fun p => ∃ n, p = .int n) (env := [some (.ref 0), none]) (gd := [(1, .lst (ns.map PV.int))])
    (fun p m ⟨n, hp⟩ => by subst hp; walk_at "ev") (by simp) (ns.map PV.int) [.rol (ns.map PV.int), .lst (ns.map PV.int), .lst []] [] (by simp) (by simp [okG]) (by simp) (by simp; exact small_le (by omega))
  rw [List.map_id', List.nil_append] at e
  have hk : okG [(1, Ob.lst (ns.map PV.int))] [.rol (ns.map PV.int), .lst (ns.map PV.int)] = true := by simp [okG]
  have hg : (∀ g ∈ [((1 : Nat), Ob.lst (ns.map PV.int))], g.1 < 2) = True := by simp
  have e3 : ([Ob.rol (ns.map PV.int), .lst (ns.map PV.int), .lst []] : Mem).set 2 (.lst (ns.map PV.int)) = [Ob.rol (ns.map PV.int), .lst (ns.map PV.int), .lst (ns.map PV.int)] := rfl
  rw [e3] at e
  refine ⟨3, 2, [.rol (ns.map PV.int), .lst (ns.map PV.int), .lst (ns.map PV.int), .lst [.ref 2, .int 0, .int 0, .int 0, .int 20]], ?_, 0, 0, 0, by decide, rfl, rfl, by decide, by decide, by decide⟩
  unfold f_law_start b_law_start
  have es : ∀ m : Mem, m = [Ob.rol (ns.map PV.int)] → slG (.ref 0) none (some 63) m = some (.ref 1, m ++ [.lst (ns.map PV.int)]) := fun m hm => by
    subst hm
    simp only [slG, List.getElem?_cons_zero, hc, List.length_cons, List.length_nil]
  have es' := es _ rfl
  have ea : ∀ m : Mem, m = [Ob.rol (ns.map PV.int), .lst (ns.map PV.int)] → anyQ (.ref 1) m = some ⟨ns.map PV.int, [(1, .lst (ns.map PV.int))]⟩ := fun m hm => by subst hm; rfl
  have ea' := ea _ rfl
  walk_at "ev"
end Gen
end

section
set_option maxRecDepth 100000
set_option linter.all false
set_option Elab.async false
namespace Gen
open Rf L2
local macro_rules | `(tactic| walk_at "ev") => `(tactic| simp only [e_var, xLcP_nm, e_c, e_1, e_2, e_A, e_aNil, e_aCons, e_call, e_bl, e_tru, e_nt, e_an, e_or, e_ys, e_xnt, e_xan, e_xor, e_xif, e_oNone, e_oSome, e_sl, e_nx, e_brk, e_cnt, e_sq, e_ex, e_rt, e_rn, e_if, e_as, e_nm, e_gix, e_gsNil, e_gsCons, e_gseqT, e_gseqR, e_fd, e_for, e_any, e_rg, e_en, e_zp, e_lc, e_m, e_get, e_meth, e_make, e_fn, ix_int, ix_t, ix_r, set_r, atI_at, ixN_0, ixN_1, ixN_2, ixN_3, mod_ok, sne, rngG, okG_nil, tupleG, listG, itemsB, PX_nog, PX_wipe, 
  startE, addG, subG, mulG, divG, modG, powG, cmpG, ltG, leG, gtG, geG, intG, lenG, lenB, eqG, eqB, neG, truG, tupG, lstG, negG, Option.bind_some, Option.bind_none, Option.map_some, Option.map_none, List.map_cons, List.map_nil, List.length_cons, List.length_nil, List.length_map, List.length_set, List.replicate, List.cons_append, List.nil_append, List.getElem?_cons_zero, List.getElem?_cons_succ, List.set_cons_zero, List.set_cons_succ, List.set_set, List.getElem?_set_self, List.getElem?_set_ne, ne_eq, not_false_eq_true, Nat.reduceAdd, Nat.reduceSub, Nat.reduceEqDiff, Nat.reduceLeDiff, Nat.reduceLT, Nat.reducePow, Int.reducePow, Int.reduceNeg, Int.reduceLT, Int.reduceLE, Int.reduceToNat, nab10, and_self, or_true, true_or, true_and, and_true, ↓reduceIte, Nat.add_zero, Nat.zero_add, Nat.sub_self, decide_eq_true_eq, decide_true, decide_false, Bool.false_eq_true, Bool.not_true, Bool.not_false, *])
/-- the list that the loop grows -/
structure Gr (m : Mem) (i j F : Nat) (acc : List PV) : Prop where
  at_ : m[F]? = some (.lst acc)
  ni : F ≠ i
  nj : F ≠ j
  ok : ∀ p ∈ acc, Stm p
def turnB : Sx := sIf (tBl (x2 eqG (xCall 2 f_law_take (aCons (xVar 0) (aCons (xC (.int (3))) aNil))) (xC (.int (0))))) (sSq (sAs (x2 ixG (xA lstG (aCons (xA tupG (aCons (xC (.str "int")) (aCons (x2 subG (xCall 2 f_law_take (aCons (xVar 0) (aCons (xC (.int (7))) aNil))) (xC (.int (1)))) aNil))) (aCons (xA tupG (aCons (xC (.str "reg")) (aCons (xCall 2 f_law_take (aCons (xVar 0) (aCons (xVar 1) aNil))) aNil))) (aCons (xA tupG (aCons (xC (.str "int")) (aCons (x2 ixG (xA lstG (aCons (xCall 2 f_law_take (aCons (xVar 0) (aCons (xC (.int (50))) aNil))) (aCons (x2 subG (xC (.int (0))) (xCall 2 f_law_take (aCons (xVar 0) (aCons (xC (.int (2000))) aNil)))) (aCons (x2 addG (xC (.int (40))) (xCall 2 f_law_take (aCons (xVar 0) (aCons (x2 powG (xC (.int (10))) (xC (.int (9)))) aNil)))) aNil)))) (xCall 2 f_law_take (aCons (xVar 0) (aCons (xC (.int (3))) aNil)))) aNil))) aNil)))) (xCall 2 f_law_take (aCons (xVar 0) (aCons (xC (.int (3))) aNil)))) (gNm 5))
    (sEx (xM chkL appG (xVar 3) (aCons (xA tupG (aCons (xC (.str "loop")) (aCons (xVar 5) (aCons (x2 addG (xA tupG (aCons (xCall 2 f_law_instruction (aCons (xVar 0) (aCons (xVar 1) aNil))) aNil)) (xCall 3 f_law_block (aCons (xVar 0) (aCons (xVar 1) (aCons (x2 subG (xVar 2) (xC (.int (1)))) aNil))))) aNil)))) aNil)))) (sAs (x2 addG (xVar 3) (xA listG (aCons (xCall 3 f_law_block (aCons (xVar 0) (aCons (xVar 1) (aCons (xC (.int (4))) aNil)))) aNil))) (gNm 3))
theorem program_eq : b_law_program = sSq (sAs (xA lstG aNil) (gNm 3)) (sSq (sFor (iRg (aCons (xCall 2 f_law_take (aCons (xVar 0) (aCons (xC (.int (5))) aNil))) aNil)) (gNm 4) turnB) (sRt (xA tupleG (aCons (xSl (xVar 3) oNone (oSome (xC (.int (12))))) aNil)))) := rfl
theorem turn_ok {m : Mem} {i j F : Nat} {ns : List Int} {acc : List PV} (c : Cu m i j ns) (g : Gr m i j F acc) {many : Int} (h : 0 < many) (h2 : many ≤ 16) (hl : acc.length ≤ 100) (v : PV) (x5 : Option PV) :
    ∃ env' m' F' acc' x5', turnB [some (.ref i), some (.int many), some (.int 6), some (.ref F), some v, x5] m = some (.nx, [some (.ref i), some (.int many), some (.int 6), some (.ref F'), some v, x5'], m') ∧ env' = F' ∧ Cu m' i j ns ∧ Gr m' i j F' acc' ∧ acc'.length ≤ acc.length + 4 := by
  have z1 := one_le
  have z2 := two_le
  have z3 := three_le
  obtain ⟨d0, m0, e0, l0, u0, c0, f0⟩ := take_ok c (many := 3) (by decide) (by decide)
  have hj : j < m0.length := by
    obtain ⟨a, b, t, ne, q1, q2, _⟩ := c0
    exact (List.getElem?_eq_some_iff.mp q2).1
  by_cases hd : d0 = 0
  · subst hd
    obtain ⟨d1, m1, e1, l1, u1, c1, f1⟩ := take_ok c0 (many := 7) (by decide) (by decide)
    obtain ⟨d2, m2, e2, l2, u2, c2, f2⟩ := take_ok c1 (many := many) h (by omega)
    obtain ⟨d3, m3, e3, l3, u3, c3, f3⟩ := take_ok c2 (many := 50) (by decide) (by decide)
    obtain ⟨d4, m4, e4, l4, u4, c4, f4⟩ := take_ok c3 (many := 2000) (by decide) (by decide)
    obtain ⟨d5, m5, e5, l5, u5, c5, f5⟩ := take_ok c4 (many := 1000000000) (by decide) (by decide)
    have c6' := c5.app (l := [.lst [.int d3, .int (0 - d4), .int (40 + d5)]])
    obtain ⟨d6, m6, e6, l6, u6, c6, f6⟩ := take_ok c6' (many := 3) (by decide) (by decide)
    have hlt5 := c5.lt
    have g6 := f6.get (k := m5.length) (o := .lst [.int d3, .int (0 - d4), .int (40 + d5)]) (by simp) (by omega)
    obtain ⟨q, hq, hb⟩ : ∃ q, [PV.int d3, PV.int (0 - d4), PV.int (40 + d5)][d6.toNat]? = some (.int q) ∧ Bd q := by
      have : d6 = 0 ∨ d6 = 1 ∨ d6 = 2 := by omega
      rcases this with rfl | rfl | rfl
      · exact ⟨_, rfl, by unfold Bd; omega⟩
      · exact ⟨_, rfl, by unfold Bd; omega⟩
      · exact ⟨_, rfl, by unfold Bd; omega⟩
    have c7' := c6.app (l := [.lst [.tup [.str "int", .int (d1 - 1)], .tup [.str "reg", .int d2], .tup [.str "int", .int q]]])
    obtain ⟨d7, m7, e7, l7, u7, c7, f7⟩ := take_ok c7' (many := 3) (by decide) (by decide)
    have hlt6 := c6.lt
    have g7 := f7.get (k := m6.length) (o := .lst [.tup [.str "int", .int (d1 - 1)], .tup [.str "reg", .int d2], .tup [.str "int", .int q]]) (by simp) (by omega)
    obtain ⟨n, hn, wn⟩ : ∃ n, [PV.tup [.str "int", .int (d1 - 1)], PV.tup [.str "reg", .int d2], PV.tup [.str "int", .int q]][d7.toNat]? = some n ∧ Opd n := by
      have : d7 = 0 ∨ d7 = 1 ∨ d7 = 2 := by omega
      rcases this with rfl | rfl | rfl
      · exact ⟨_, rfl, .inr ⟨_, rfl, by unfold Bd; omega⟩⟩
      · exact ⟨_, rfl, .inl ⟨_, rfl, l2, by omega⟩⟩
      · exact ⟨_, rfl, .inr ⟨_, rfl, hb⟩⟩
    obtain ⟨p8, m8, e8, w8, c8, f8⟩ := instruction_ok c7 h h2
    obtain ⟨ps, m9, e9, w9, n9, c9, f9⟩ := block_ok c8 h h2 (most := 5) (by decide) (by decide)
    have F7 : Fr i m m7 := f0.trans (f1.trans (f2.trans (f3.trans (f4.trans (f5.trans (Fr.app.trans (f6.trans (Fr.app.trans f7))))))))
    have F9 := F7.trans (f8.trans f9)
    have k7 := F7.get g.at_ g.ni
    have k9 := F9.get g.at_ g.ni
    have ch : chkL (.ref F) m7 = true := by unfold chkL lstB; simp only [k7]; rfl
    have hsz : 1 + ps.length ≤ PySem.sizeLine := by have := small_le (n := 1 + ps.length) (by omega); omega
    have hac : acc.length < PySem.sizeLine := small_le (by omega)
    have ap : appG (.ref F) [.tup [.str "loop", n, .tup ([p8] ++ ps)]] m9 = some (.non, m9.set F (.lst (acc ++ [.tup [.str "loop", n, .tup ([p8] ++ ps)]]))) := by
      unfold appG
      simp only [k9]
      rw [if_pos hac]
    have hF := (List.getElem?_eq_some_iff.mp k9).1
    refine ⟨F, m9.set F (.lst (acc ++ [.tup [.str "loop", n, .tup ([p8] ++ ps)]])), F, acc ++ [.tup [.str "loop", n, .tup ([p8] ++ ps)]], some n, ?_, rfl, ?_, ⟨by rw [List.getElem?_set_self hF], g.ni, g.nj, ?_⟩, by simp⟩
    · unfold turnB
      clear F7 F9 f0 f1 f2 f3 f4 f5 f6 f7 f8 f9 c0 c1 c2 c3 c4 c5 c6' c6 c7' c7 c8 c9 g wn w8 w9
      rw [List.singleton_append] at ap ⊢
      have e11 : (6 : Int) - 1 = 5 := by decide
      walk_at "ev"
    · obtain ⟨a, b, t, ne, q1, q2, b1, b2, b3⟩ := c9
      exact ⟨a, b, t, ne, by rw [List.getElem?_set_ne g.ni]; exact q1, by rw [List.getElem?_set_ne g.nj]; exact q2, b1, b2, b3⟩
    · intro p hp
      rcases List.mem_append.mp hp with hp | hp
      · exact g.ok p hp
      · rw [List.mem_singleton] at hp
        subst hp
        refine .loop wn (fun p hp => ?_) (by simp; omega)
        rcases List.mem_append.mp hp with hp | hp
        · rw [List.mem_singleton] at hp; subst hp; exact w8
        · exact w9 p hp
  · obtain ⟨ps, m1, e1, w1, n1, c1, f1⟩ := block_ok c0 h h2 (most := 4) (by decide) (by decide)
    have k0 := f0.get g.at_ g.ni
    have k1 := f1.get k0 g.ni
    have hlt1 := c1.lt
    have hF1 := (List.getElem?_eq_some_iff.mp k1).1
    have hj1 : j < m1.length := Nat.lt_of_lt_of_le hj f1.1
    have k2 : (m1 ++ [Ob.lst ps])[F]? = some (.lst acc) := by rw [List.getElem?_append_left hF1]; exact k1
    have k3 : (m1 ++ [Ob.lst ps])[m1.length]? = some (.lst ps) := by simp
    have hsz : acc.length + ps.length ≤ PySem.sizeLine := by have := small_le (n := acc.length + ps.length) (by omega); omega
    have hL : (m1 ++ [Ob.lst ps]).length = m1.length + 1 := by simp
    refine ⟨m1.length + 1, m1 ++ [Ob.lst ps] ++ [.lst (acc ++ ps)], m1.length + 1, acc ++ ps, x5, ?_, rfl, (c1.app).app, ⟨by rw [List.getElem?_append_right (by simp)]; simp, by omega, by omega, ?_⟩, by rw [List.length_append]; omega⟩
    · unfold turnB
      clear f0 f1 c0 c1 g w1
      walk_at "ev"
    · intro p hp
      rcases List.mem_append.mp hp with hp | hp
      · exact g.ok p hp
      · exact .one (w1 p hp)
theorem turns_ok {i j : Nat} {ns : List Int} {many : Int} (h : 0 < many) (h2 : many ≤ 16) : ∀ (items : List PV) (m : Mem) (F : Nat) (acc : List PV) (x4 x5 : Option PV), Cu m i j ns → Gr m i j F acc → acc.length + 4 * items.length ≤ 100 →
    ∃ m' F' acc' y4 y5, forL (gNm 4) turnB [] items [some (.ref i), some (.int many), some (.int 6), some (.ref F), x4, x5] m = some (.nx, [some (.ref i), some (.int many), some (.int 6), some (.ref F'), y4, y5], m') ∧ Cu m' i j ns ∧ Gr m' i j F' acc'
  | [], m, F, acc, x4, x5, c, g, hl => ⟨m, F, acc, x4, x5, rfl, c, g⟩
  | v :: items, m, F, acc, x4, x5, c, g, hl => by
    rw [List.length_cons] at hl
    obtain ⟨_, m1, F1, acc1, y5, e1, _, c1, g1, b1⟩ := turn_ok c g h h2 (by omega) v x5
    obtain ⟨m2, F2, acc2, z4, z5, e2, c2, g2⟩ := turns_ok h h2 items m1 F1 acc1 (some v) y5 c1 g1 (by omega)
    refine ⟨m2, F2, acc2, z4, z5, ?_, c2, g2⟩
    unfold forL
    simp only [e_nm, Option.bind_some, List.set_cons_succ, List.set_cons_zero, e1, okG_nil, if_true]
    exact e2
theorem program_ok {m : Mem} {i j : Nat} {ns : List Int} (c : Cu m i j ns) {many : Int} (h : 0 < many) (h2 : many ≤ 16) : ∃ ps m', f_law_program [.ref i, .int many, .int 6] m = some (.tup ps, m') ∧ (∀ p ∈ ps, Stm p) ∧ ps.length ≤ 12 ∧ Cu m' i j ns := by
  have hlt := c.lt
  have hj : j < m.length := by
    obtain ⟨a, b, t, ne, q1, q2, _⟩ := c
    exact (List.getElem?_eq_some_iff.mp q2).1
  have c0 := c.app (l := [.lst []])
  obtain ⟨d1, m1, e1, l1, u1, c1, f1⟩ := take_ok c0 (many := 5) (by decide) (by decide)
  have g1 : Gr m1 i j m.length [] := ⟨f1.get (by simp) (by omega), by omega, by omega, nofun⟩
  obtain ⟨m2, F, acc, y4, y5, e2, c2, g2⟩ := turns_ok h h2 (rangeP 0 d1.toNat) m1 m.length [] none none c1 g1 (by rw [rangeP_len]; simp; omega)
  have k2 := g2.at_
  have hc : cutP acc none (some 12) = acc.take 12 := cut_pre acc 12
  have es : slG (.ref F) none (some 12) m2 = some (.ref m2.length, m2 ++ [.lst (acc.take 12)]) := by
    simp only [slG, k2, hc]
  have k3 : (m2 ++ [Ob.lst (acc.take 12)])[m2.length]? = some (.lst (acc.take 12)) := by simp
  have z0 : (0 : Nat) ≤ PySem.sizeLine := Nat.zero_le _
  have b1 : (-4611686018427387904 ≤ d1) := by omega
  have b2 : d1 < 4611686018427387904 := by omega
  refine ⟨acc.take 12, m2 ++ [.lst (acc.take 12)], ?_, fun p hp => g2.ok p (List.mem_of_mem_take hp), by rw [List.length_take]; omega, c2.app⟩
  unfold f_law_program
  rw [program_eq]
  walk_at "ev"
end Gen
end

section
set_option maxRecDepth 100000
set_option linter.all false
set_option Elab.async false
namespace Gen
open PySem Builtin
/-! ### the 32 bits of and -/
theorem nat_and_half (a b : Nat) : a &&& b = 2 * ((a / 2) &&& (b / 2)) + (a % 2) * (b % 2) := by
  have h1 := Nat.and_div_two (a := a) (b := b)
  have h2 : (a &&& b) % 2 = (a % 2) * (b % 2) := by
    have h := Nat.and_mod_two_eq_one (a := a) (b := b)
    have ha := Nat.mod_two_eq_zero_or_one a
    have hb := Nat.mod_two_eq_zero_or_one b
    have hab := Nat.mod_two_eq_zero_or_one (a &&& b)
    rcases ha with ha | ha <;> rcases hb with hb | hb <;> rcases hab with hab | hab <;> simp [ha, hb, hab] at h ⊢
  have h3 := Nat.div_add_mod (a &&& b) 2
  rw [h1, h2] at h3
  exact h3.symm
theorem nat_or_half (a b : Nat) : a ||| b = 2 * ((a / 2) ||| (b / 2)) + (1 - (1 - a % 2) * (1 - b % 2)) := by
  have h1 := Nat.or_div_two (a := a) (b := b)
  have h2 : (a ||| b) % 2 = 1 - (1 - a % 2) * (1 - b % 2) := by
    have h := Nat.or_mod_two_eq_one (a := a) (b := b)
    have ha := Nat.mod_two_eq_zero_or_one a
    have hb := Nat.mod_two_eq_zero_or_one b
    have hab := Nat.mod_two_eq_zero_or_one (a ||| b)
    rcases ha with ha | ha <;> rcases hb with hb | hb <;> rcases hab with hab | hab <;> simp [ha, hb, hab] at h ⊢
  have h3 := Nat.div_add_mod (a ||| b) 2
  rw [h1, h2] at h3
  exact h3.symm
theorem and_half (x y : Int) : bitAnd x y = 2 * bitAnd (x / 2) (y / 2) + (x % 2) * (y % 2) := by
  have px : 0 ≤ x ∨ x < 0 := by omega
  have py : 0 ≤ y ∨ y < 0 := by omega
  have two : ∀ z : Int, z % 2 = 0 ∨ z % 2 = 1 := fun z => by omega
  rcases px with px | px <;> rcases py with py | py
  · have e1 : decide (0 ≤ x) = true := decide_eq_true px
    have e2 : decide (0 ≤ y) = true := decide_eq_true py
    have e3 : decide (0 ≤ x / 2) = true := decide_eq_true (by omega)
    have e4 : decide (0 ≤ y / 2) = true := decide_eq_true (by omega)
    simp only [bitAnd, e1, e2, e3, e4]
    have h := nat_and_half x.toNat y.toNat
    have a1 : (x / 2).toNat = x.toNat / 2 := by omega
    have a2 : (y / 2).toNat = y.toNat / 2 := by omega
    rw [a1, a2]
    have b1 : x % 2 = ((x.toNat % 2 : Nat) : Int) := by omega
    have b2 : y % 2 = ((y.toNat % 2 : Nat) : Int) := by omega
    rw [b1, b2, ← Int.natCast_mul]
    omega
  · have e1 : decide (0 ≤ x) = true := decide_eq_true px
    have e2 : decide (0 ≤ y) = false := decide_eq_false (by omega)
    have e3 : decide (0 ≤ x / 2) = true := decide_eq_true (by omega)
    have e4 : decide (0 ≤ y / 2) = false := decide_eq_false (by omega)
    simp only [bitAnd, e1, e2, e3, e4, bitNot]
    have h := nat_and_half x.toNat (-y - 1).toNat
    have a1 : (x / 2).toNat = x.toNat / 2 := by omega
    have a2 : (-(y / 2) - 1).toNat = (-y - 1).toNat / 2 := by omega
    rw [a1, a2]
    rcases two x with bx | bx <;> rcases two y with bY | bY
    · have c1 : x.toNat % 2 = 0 := by omega
      rw [c1] at h; rw [bx]; omega
    · have c1 : x.toNat % 2 = 0 := by omega
      rw [c1] at h; rw [bx]; omega
    · have c1 : x.toNat % 2 = 1 := by omega
      have c2 : (-y - 1).toNat % 2 = 1 := by omega
      rw [c1, c2] at h; rw [bx, bY]; omega
    · have c1 : x.toNat % 2 = 1 := by omega
      have c2 : (-y - 1).toNat % 2 = 0 := by omega
      rw [c1, c2] at h; rw [bx, bY]; omega
  · have e1 : decide (0 ≤ x) = false := decide_eq_false (by omega)
    have e2 : decide (0 ≤ y) = true := decide_eq_true py
    have e3 : decide (0 ≤ x / 2) = false := decide_eq_false (by omega)
    have e4 : decide (0 ≤ y / 2) = true := decide_eq_true (by omega)
    simp only [bitAnd, e1, e2, e3, e4, bitNot]
    have h := nat_and_half y.toNat (-x - 1).toNat
    have a1 : (y / 2).toNat = y.toNat / 2 := by omega
    have a2 : (-(x / 2) - 1).toNat = (-x - 1).toNat / 2 := by omega
    rw [a1, a2]
    rcases two y with bY | bY <;> rcases two x with bx | bx
    · have c1 : y.toNat % 2 = 0 := by omega
      rw [c1] at h; rw [bY]; omega
    · have c1 : y.toNat % 2 = 0 := by omega
      rw [c1] at h; rw [bY]; omega
    · have c1 : y.toNat % 2 = 1 := by omega
      have c2 : (-x - 1).toNat % 2 = 1 := by omega
      rw [c1, c2] at h; rw [bx, bY]; omega
    · have c1 : y.toNat % 2 = 1 := by omega
      have c2 : (-x - 1).toNat % 2 = 0 := by omega
      rw [c1, c2] at h; rw [bx, bY]; omega
  · have e1 : decide (0 ≤ x) = false := decide_eq_false (by omega)
    have e2 : decide (0 ≤ y) = false := decide_eq_false (by omega)
    have e3 : decide (0 ≤ x / 2) = false := decide_eq_false (by omega)
    have e4 : decide (0 ≤ y / 2) = false := decide_eq_false (by omega)
    simp only [bitAnd, e1, e2, e3, e4, bitNot]
    have h := nat_or_half (-x - 1).toNat (-y - 1).toNat
    have a1 : (-(x / 2) - 1).toNat = (-x - 1).toNat / 2 := by omega
    have a2 : (-(y / 2) - 1).toNat = (-y - 1).toNat / 2 := by omega
    rw [a1, a2]
    rcases two y with bY | bY <;> rcases two x with bx | bx
    · have c1 : (-y - 1).toNat % 2 = 1 := by omega
      have c2 : (-x - 1).toNat % 2 = 1 := by omega
      rw [c1, c2] at h; rw [bx, bY]; omega
    · have c1 : (-y - 1).toNat % 2 = 1 := by omega
      have c2 : (-x - 1).toNat % 2 = 0 := by omega
      rw [c1, c2] at h; rw [bx, bY]; omega
    · have c1 : (-y - 1).toNat % 2 = 0 := by omega
      have c2 : (-x - 1).toNat % 2 = 1 := by omega
      rw [c1, c2] at h; rw [bx, bY]; omega
    · have c1 : (-y - 1).toNat % 2 = 0 := by omega
      have c2 : (-x - 1).toNat % 2 = 0 := by omega
      rw [c1, c2] at h; rw [bx, bY]; omega
/-- the low n bits of and -/
def gb : Nat → Int → Int → Int
  | 0, _, _ => 0
  | n + 1, x, y => (x % 2) * (y % 2) + 2 * gb n (x / 2) (y / 2)
theorem bit_cases (x y : Int) : (x % 2) * (y % 2) = 0 ∨ (x % 2) * (y % 2) = 1 := by
  have hx : x % 2 = 0 ∨ x % 2 = 1 := by omega
  have hy : y % 2 = 0 ∨ y % 2 = 1 := by omega
  rcases hx with hx | hx <;> rcases hy with hy | hy <;> simp [hx, hy]
theorem mod_pow_succ (t e : Int) (n : Nat) (h : e = 0 ∨ e = 1) : (2 * t + e) % 2 ^ (n + 1) = 2 * (t % 2 ^ n) + e := by
  have hp : (0 : Int) < 2 ^ n := Int.pow_pos (by decide)
  have h1 := Int.emod_add_mul_ediv t (2 ^ n)
  have h2 := Int.emod_nonneg t (Int.ne_of_gt hp)
  have h3 := Int.emod_lt_of_pos t hp
  generalize t % 2 ^ n = r at *
  generalize t / 2 ^ n = q at *
  have e2 : (2 : Int) ^ (n + 1) = 2 * 2 ^ n := by rw [Int.pow_succ, Int.mul_comm]
  rw [e2]
  generalize (2 : Int) ^ n = p at *
  have e3 : 2 * t + e = (2 * r + e) + (2 * p) * q := by rw [← h1]; rw [Int.mul_add, Int.mul_assoc]; omega
  rw [e3, Int.add_mul_emod_self_left]
  exact Int.emod_eq_of_lt (by omega) (by omega)
theorem gb_mod : ∀ (n : Nat) (x y : Int), bitAnd x y % 2 ^ n = gb n x y
  | 0, x, y => by simp [gb]
  | n + 1, x, y => by
    rw [and_half x y, mod_pow_succ _ _ _ (bit_cases x y), gb_mod n]
    simp only [gb]
    omega
/-- bit n of both -/
def bb (n : Nat) (x y : Int) : Int := (x / 2 ^ n % 2) * (y / 2 ^ n % 2)
theorem bb_succ (n : Nat) (x y : Int) : bb n (x / 2) (y / 2) = bb (n + 1) x y := by
  unfold bb
  have e : (2 : Int) ^ (n + 1) = 2 * 2 ^ n := by rw [Int.pow_succ, Int.mul_comm]
  rw [e, ← Int.ediv_ediv_of_nonneg (by decide), ← Int.ediv_ediv_of_nonneg (by decide)]
theorem gb_last : ∀ (n : Nat) (x y : Int), gb (n + 1) x y = gb n x y + bb n x y * 2 ^ n
  | 0, x, y => by simp [gb, bb]
  | n + 1, x, y => by
    have ih := gb_last n (x / 2) (y / 2)
    rw [bb_succ] at ih
    have e : gb (n + 1 + 1) x y = (x % 2) * (y % 2) + 2 * gb (n + 1) (x / 2) (y / 2) := rfl
    have e1 : gb (n + 1) x y = (x % 2) * (y % 2) + 2 * gb n (x / 2) (y / 2) := rfl
    rw [e, ih, e1, Int.pow_succ]
    have : bb (n + 1) x y * (2 ^ n * 2) = 2 * (bb (n + 1) x y * 2 ^ n) := by rw [← Int.mul_assoc, Int.mul_comm]
    rw [this]
    omega
theorem half_mod (x : Int) (n : Nat) : (x % 2 ^ (n + 1)) % 2 = x % 2 ∧ (x % 2 ^ (n + 1)) / 2 = (x / 2) % 2 ^ n := by
  have h : x = 2 * (x / 2) + x % 2 := by omega
  have e := mod_pow_succ (x / 2) (x % 2) n (by omega)
  rw [← h] at e
  rw [e]
  omega
theorem gb_low : ∀ (n : Nat) (x y : Int), gb n (x % 2 ^ n) (y % 2 ^ n) = gb n x y
  | 0, x, y => rfl
  | n + 1, x, y => by
    obtain ⟨h1, h2⟩ := half_mod x n
    obtain ⟨h3, h4⟩ := half_mod y n
    simp only [gb]
    rw [h1, h2, h3, h4, gb_low n]
theorem and_32 (x y : Int) : gb 32 (x % 4294967296) (y % 4294967296) = bitAnd x y % 4294967296 := by
  have e : (4294967296 : Int) = 2 ^ 32 := by decide
  rw [e, gb_mod, gb_low]
end Gen
end

section
set_option maxRecDepth 100000
set_option linter.all false
set_option Elab.async false
namespace Gen
open Rf L2
local macro_rules | `(tactic| walk_at "ev") => `(tactic| simp only [e_var, xLcP_nm, e_c, e_1, e_2, e_A, e_aNil, e_aCons, e_call, e_bl, e_tru, e_nt, e_an, e_or, e_ys, e_xnt, e_xan, e_xor, e_xif, e_oNone, e_oSome, e_sl, e_nx, e_brk, e_cnt, e_sq, e_ex, e_rt, e_rn, e_if, e_as, e_nm, e_gix, e_gsNil, e_gsCons, e_gseqT, e_gseqR, e_fd, e_for, e_any, e_rg, e_en, e_zp, e_lc, e_m, e_get, e_meth, e_make, e_fn, ix_int, ix_t, ix_r, set_r, atI_at, ixN_0, ixN_1, ixN_2, ixN_3, mod_ok, sne, strb, snb, e_fld, okG_1, andG, minG, maxG, List.lookup_cons, rngG, okG_nil, tupleG, listG, itemsB, PX_nog, PX_wipe, 
  startE, addG, subG, mulG, divG, modG, powG, cmpG, ltG, leG, gtG, geG, intG, lenG, lenB, eqG, eqB, neG, truG, tupG, lstG, negG, Option.bind_some, Option.bind_none, Option.map_some, Option.map_none, List.map_cons, List.map_nil, List.length_cons, List.length_nil, List.length_map, List.length_set, List.replicate, List.cons_append, List.nil_append, List.getElem?_cons_zero, List.getElem?_cons_succ, List.set_cons_zero, List.set_cons_succ, List.set_set, List.getElem?_set_self, List.getElem?_set_ne, ne_eq, not_false_eq_true, Nat.reduceAdd, Nat.reduceSub, Nat.reduceEqDiff, Nat.reduceLeDiff, Nat.reduceLT, Nat.reducePow, Int.reducePow, Int.reduceNeg, Int.reduceLT, Int.reduceLE, Int.reduceToNat, nab10, and_self, or_true, true_or, true_and, and_true, ↓reduceIte, Nat.add_zero, Nat.zero_add, Nat.sub_self, decide_eq_true_eq, decide_true, decide_false, Bool.false_eq_true, Bool.not_true, Bool.not_false, *])
def W (n : Int) : Int := (n + 2147483648) % 4294967296 - 2147483648
theorem W_bd (n : Int) : Bd (W n) := by unfold W Bd; omega
def opV (k : PySem.Str) (a b : Int) : Int := if k = "add" then W (a + b) else if k = "sub" then W (a - b) else if k = "mul" then W (a * b) else if k = "less" then (if a < b then 1 else 0) else W (PySem.Builtin.bitAnd a b)
theorem opV_bd (k : PySem.Str) (a b : Int) : Bd (opV k a b) := by
  unfold opV
  split
  · exact W_bd _
  split
  · exact W_bd _
  split
  · exact W_bd _
  split
  · split <;> (unfold Bd; omega)
  · exact W_bd _
theorem wrapped_ok (n : Int) (m : Mem) : f_law_wrapped [.int n] m = some (.int (W n), m) := by
  unfold f_law_wrapped b_law_wrapped W
  walk_at "ev"
theorem wrap_ok (n : Int) (m : Mem) : f_wrap [.int n] m = some (.int (W n), m) := by
  unfold f_wrap b_wrap
  walk_at "ev"
  unfold W
  congr 3
theorem operate_ok {k : PySem.Str} (hk : Ari k) {a b : Int} (ha : Bd a) (m : Mem) : f_operate [.str k, .int a, .int b] m = some (.int (opV k a b), m) := by
  have w := fun n => wrap_ok n m
  have a1 : -18446744073709551616 < a := by unfold Bd at ha; omega
  have a2 : a < 18446744073709551616 := by unfold Bd at ha; omega
  unfold f_operate b_operate
  rcases hk with rfl | rfl | rfl | rfl | rfl
  · unfold opV; walk_at "ev"
  · unfold opV; walk_at "ev"
  · by_cases h : a < b
    · unfold opV; walk_at "ev"
    · unfold opV; walk_at "ev"
  · unfold opV; walk_at "ev"
  · unfold opV; walk_at "ev"
def andB : Sx := (sSq (sIf (tAn (tBl (x2 eqG (x2 modG (xA intG (aCons (x2 divG (xVar 1) (xVar 4)) aNil)) (xC (.int (2)))) (xC (.int (1))))) (tBl (x2 eqG (x2 modG (xA intG (aCons (x2 divG (xVar 2) (xVar 4)) aNil)) (xC (.int (2)))) (xC (.int (1)))))) (sAs (x2 addG (xVar 3) (xVar 4)) (gNm 3)) sNx)
    (sAs (x2 mulG (xVar 4) (xC (.int (2)))) (gNm 4)))
theorem andB_ok {k : PySem.Str} {A B s p : Int} {v : PV} {m : Mem} (hp : 0 < p) (hp2 : p < 18446744073709551616) : andB [some (.str k), some (.int A), some (.int B), some (.int s), some (.int p), some v] m = some (.nx, [some (.str k), some (.int A), some (.int B), some (.int (s + (A / p % 2) * (B / p % 2) * p)), some (.int (p * 2)), some v], m) := by
  have hA : A / p % 2 = 0 ∨ A / p % 2 = 1 := by omega
  have hB : B / p % 2 = 0 ∨ B / p % 2 = 1 := by omega
  have z01 : ¬ (0 : Int) = 1 := by decide
  have e0 : s + 0 * p = s := by omega
  have e1 : s + 1 * p = s + p := by omega
  unfold andB
  rcases hA with hA | hA
  · rw [hA, Int.zero_mul]
    walk_at "ev"
  · rcases hB with hB | hB
    · rw [hB, Int.mul_zero]
      walk_at "ev"
    · rw [hA, hB, Int.one_mul]
      walk_at "ev"
theorem andL_ok {k : PySem.Str} {A B : Int} {m : Mem} : ∀ (items : List PV) (n : Nat) (x5 : Option PV), n + items.length ≤ 32 → ∃ y5, forL (gNm 5) andB [] items [some (.str k), some (.int A), some (.int B), some (.int (gb n A B)), some (.int (2 ^ n)), x5] m = some (.nx, [some (.str k), some (.int A), some (.int B), some (.int (gb (n + items.length) A B)), some (.int (2 ^ (n + items.length))), y5], m)
  | [], n, x5, h => ⟨x5, rfl⟩
  | v :: items, n, x5, h => by
    rw [List.length_cons] at h
    have hp : (0 : Int) < 2 ^ n := Int.pow_pos (by decide)
    have hp2 : (2 : Int) ^ n < 18446744073709551616 := by
      have h1 : (2 : Nat) ^ n ≤ 2 ^ 32 := Nat.pow_le_pow_right (by decide) (by omega)
      have h2 : ((2 ^ n : Nat) : Int) ≤ ((2 ^ 32 : Nat) : Int) := Int.ofNat_le.mpr h1
      rw [Int.natCast_pow] at h2
      have h3 : ((2 ^ 32 : Nat) : Int) = 4294967296 := by decide
      rw [h3] at h2
      have h4 : ((2 : Nat) : Int) ^ n = (2 : Int) ^ n := rfl
      omega
    obtain ⟨y5, ih⟩ := andL_ok items (n + 1) (some v) (by omega)
    refine ⟨y5, ?_⟩
    rw [e_forC, e_nm, Option.bind_some]
    simp only [List.set_cons_succ, List.set_cons_zero]
    rw [andB_ok hp hp2, Option.bind_some]
    simp only [okG_nil, if_true]
    have e1 : gb n A B + A / 2 ^ n % 2 * (B / 2 ^ n % 2) * 2 ^ n = gb (n + 1) A B := (gb_last n A B).symm
    have e2 : (2 : Int) ^ n * 2 = 2 ^ (n + 1) := (Int.pow_succ 2 n).symm
    rw [e1, e2, ih, List.length_cons]
    have e3 : n + 1 + items.length = n + (items.length + 1) := by omega
    rw [e3]
theorem computed_ok {k : PySem.Str} (hk : Ari k) {a b : Int} (ha : Bd a) (m : Mem) : f_law_computed [.str k, .int a, .int b] m = some (.int (opV k a b), m) := by
  have w := fun n => wrapped_ok n m
  have a1 : -18446744073709551616 < a := by unfold Bd at ha; omega
  have a2 : a < 18446744073709551616 := by unfold Bd at ha; omega
  rcases hk with rfl | rfl | rfl | rfl | rfl
  · unfold f_law_computed b_law_computed opV; walk_at "ev"
  · obtain ⟨y5, e⟩ := andL_ok (k := "and") (A := a % 4294967296) (B := b % 4294967296) (m := m) (rangeP 0 32) 0 none (by rw [rangeP_len]; decide)
    rw [rangeP_len, Nat.zero_add, and_32] at e
    have g0 : gb 0 (a % 4294967296) (b % 4294967296) = 0 := rfl
    have p0 : (2 : Int) ^ 0 = 1 := rfl
    rw [g0, p0] at e
    have hW : W (PySem.Builtin.bitAnd a b % 4294967296) = W (PySem.Builtin.bitAnd a b) := by unfold W; omega
    have e' : ∀ env mm, forL (gNm 5) andB [] (rangeP 0 32) env mm = forL (gNm 5) (sSq (sIf (tAn (tBl (x2 eqG (x2 modG (xA intG (aCons (x2 divG (xVar 1) (xVar 4)) aNil)) (xC (.int (2)))) (xC (.int (1))))) (tBl (x2 eqG (x2 modG (xA intG (aCons (x2 divG (xVar 2) (xVar 4)) aNil)) (xC (.int (2)))) (xC (.int (1)))))) (sAs (x2 addG (xVar 3) (xVar 4)) (gNm 3)) sNx) (sAs (x2 mulG (xVar 4) (xC (.int (2)))) (gNm 4))) [] (rangeP 0 32) env mm := fun _ _ => rfl
    rw [e'] at e
    clear e'
    unfold f_law_computed b_law_computed opV
    walk_at "ev"
  · by_cases h : a < b
    · unfold f_law_computed b_law_computed opV; walk_at "ev"
    · unfold f_law_computed b_law_computed opV; walk_at "ev"
  · unfold f_law_computed b_law_computed opV; walk_at "ev"
  · unfold f_law_computed b_law_computed opV; walk_at "ev"
end Gen
end

section
set_option maxRecDepth 100000
set_option linter.all false
set_option Elab.async false
namespace Gen
open Rf L2
local macro_rules | `(tactic| walk_at "ev") => `(tactic| simp only [e_var, xLcP_nm, e_c, e_1, e_2, e_A, e_aNil, e_aCons, e_call, e_bl, e_tru, e_nt, e_an, e_or, e_ys, e_xnt, e_xan, e_xor, e_xif, e_oNone, e_oSome, e_sl, e_nx, e_brk, e_cnt, e_sq, e_ex, e_rt, e_rn, e_if, e_as, e_nm, e_gix, e_gsNil, e_gsCons, e_gseqT, e_gseqR, e_fd, e_for, e_any, e_rg, e_en, e_zp, e_lc, e_m, e_get, e_meth, e_make, e_fn, ix_int, ix_t, ix_r, set_r, atI_at, ixN_0, ixN_1, ixN_2, ixN_3, mod_ok, sne, strb, snb, e_fld, okG_1, andG, minG, maxG, List.lookup_cons, rngG, okG_nil, tupleG, listG, itemsB, PX_nog, PX_wipe, 
  startE, addG, subG, mulG, divG, modG, powG, cmpG, ltG, leG, gtG, geG, intG, lenG, lenB, eqG, eqB, neG, truG, tupG, lstG, negG, Option.bind_some, Option.bind_none, Option.map_some, Option.map_none, List.map_cons, List.map_nil, List.length_cons, List.length_nil, List.length_map, List.length_set, List.replicate, List.cons_append, List.nil_append, List.getElem?_cons_zero, List.getElem?_cons_succ, List.set_cons_zero, List.set_cons_succ, List.set_set, List.getElem?_set_self, List.getElem?_set_ne, ne_eq, not_false_eq_true, Nat.reduceAdd, Nat.reduceSub, Nat.reduceEqDiff, Nat.reduceLeDiff, Nat.reduceLT, Nat.reducePow, Int.reducePow, Int.reduceNeg, Int.reduceLT, Int.reduceLE, Int.reduceToNat, nab10, and_self, or_true, true_or, true_and, and_true, ↓reduceIte, Nat.add_zero, Nat.zero_add, Nat.sub_self, decide_eq_true_eq, decide_true, decide_false, Bool.false_eq_true, Bool.not_true, Bool.not_false, *])
structure Sta where
  R : Nat → Int
  C : Nat → Int
  O : List Int
def ls (f : Nat → Int) : List PV := (List.range 16).map fun k => PV.int (f k)
def fset (f : Nat → Int) (k : Nat) (v : Int) : Nat → Int := fun j => if j = k then v else f j
theorem ls_len (f : Nat → Int) : (ls f).length = 16 := by unfold ls; simp
theorem ls_get {f : Nat → Int} {k : Nat} (h : k < 16) : (ls f)[k]? = some (.int (f k)) := by unfold ls; simp [h]
theorem ls_set {f : Nat → Int} {k : Nat} {v : Int} (h : k < 16) : (ls f).set k (.int v) = ls (fset f k v) := by
  apply List.ext_getElem?
  intro j
  by_cases e : j = k
  · subst e
    rw [List.getElem?_set_self (by rw [ls_len]; exact h), ls_get h]
    unfold fset
    rw [if_pos rfl]
  · rw [List.getElem?_set_ne (Ne.symm e)]
    by_cases hj : j < 16
    · rw [ls_get hj, ls_get hj]
      unfold fset
      rw [if_neg e]
    · rw [List.getElem?_eq_none (by rw [ls_len]; omega), List.getElem?_eq_none (by rw [ls_len]; omega)]
def valO (S : Sta) : PV → Int
  | .tup [.str t, .int k] => if t = "reg" then S.R k.toNat else k
  | _ => 0
def stepV : PV → Sta → Sta
  | .tup [.str _, a], S => { S with O := S.O ++ [valO S a] }
  | .tup [.str k, x, y], S => if k = "load" then (match x with
      | .int d => { S with R := fset S.R d.toNat (S.C (valO S y % 16).toNat) }
      | _ => S) else { S with C := fset S.C (valO S x % 16).toNat (valO S y) }
  | .tup [.str k, .int d, a, b], S => { S with R := fset S.R d.toNat (opV k (valO S a) (valO S b)) }
  | _, S => S
def BS (S : Sta) : Prop := (∀ k, Bd (S.R k)) ∧ ∀ k, Bd (S.C k)
theorem valO_bd {S : Sta} {o : PV} (h : BS S) (ho : Opd o) : Bd (valO S o) := by
  rcases ho with ⟨k, rfl, h0, h1⟩ | ⟨n, rfl, hn⟩
  · show Bd (if ("reg" : PySem.Str) = "reg" then S.R k.toNat else k)
    rw [if_pos rfl]
    exact h.1 _
  · show Bd (if ("int" : PySem.Str) = "reg" then S.R n.toNat else n)
    rw [if_neg (by simp only [sne, not_false_eq_true])]
    exact hn
theorem fset_bd {f : Nat → Int} {k : Nat} {v : Int} (h : ∀ j, Bd (f j)) (hv : Bd v) : ∀ j, Bd (fset f k v j) := fun j => by
  unfold fset
  split
  · exact hv
  · exact h j
theorem step_load {S : Sta} {d : Int} {a : PV} : stepV (.tup [.str "load", .int d, a]) S = { S with R := fset S.R d.toNat (S.C (valO S a % 16).toNat) } := by
  simp only [stepV, if_true]
theorem step_store {S : Sta} {a b : PV} : stepV (.tup [.str "store", a, b]) S = { S with C := fset S.C (valO S a % 16).toNat (valO S b) } := by
  simp only [stepV, sne, if_false]
theorem step_out {S : Sta} {a : PV} : stepV (.tup [.str "out", a]) S = { S with O := S.O ++ [valO S a] } := rfl
theorem step_ari {S : Sta} {k : PySem.Str} {d : Int} {a b : PV} : stepV (.tup [.str k, .int d, a, b]) S = { S with R := fset S.R d.toNat (opV k (valO S a) (valO S b)) } := rfl
theorem step_bs {S : Sta} {p : PV} (h : BS S) (hp : Ins p) : BS (stepV p S) := by
  cases hp with
  | out ha => rw [step_out]; exact h
  | load h0 h1 ha => rw [step_load]; exact ⟨fset_bd h.1 (h.2 _), h.2⟩
  | store ha hb => rw [step_store]; exact ⟨h.1, fset_bd h.2 (valO_bd h hb)⟩
  | ari hk h0 h1 ha hb => rw [step_ari]; exact ⟨fset_bd h.1 (opV_bd _ _ _), h.2⟩
theorem step_len {S : Sta} {p : PV} (hp : Ins p) : (stepV p S).O.length ≤ S.O.length + 1 := by
  cases hp with
  | out ha => rw [step_out]; simp
  | load h0 h1 ha => rw [step_load]; simp
  | store ha hb => rw [step_store]; simp
  | ari hk h0 h1 ha hb => rw [step_ari]; simp
/-! ### the law's own run -/
structure LS (m : Mem) (r c o : Nat) (S : Sta) : Prop where
  rc : r ≠ c
  ro : r ≠ o
  co : c ≠ o
  R : m[r]? = some (.lst (ls S.R))
  C : m[c]? = some (.lst (ls S.C))
  O : m[o]? = some (.lst (S.O.map PV.int))
theorem LS.app {m : Mem} {r c o : Nat} {S : Sta} {l : List Ob} (h : LS m r c o S) : LS (m ++ l) r c o S := by
  obtain ⟨a1, a2, a3, b1, b2, b3⟩ := h
  refine ⟨a1, a2, a3, ?_, ?_, ?_⟩
  · rw [List.getElem?_append_left (List.getElem?_eq_some_iff.mp b1).1, b1]
  · rw [List.getElem?_append_left (List.getElem?_eq_some_iff.mp b2).1, b2]
  · rw [List.getElem?_append_left (List.getElem?_eq_some_iff.mp b3).1, b3]
theorem value_ok {m : Mem} {r c o : Nat} {S : Sta} (h : LS m r c o S) {p : PV} (hp : Opd p) : f_law_value [p, .ref r] m = some (.int (valO S p), m) := by
  have hR := h.R
  rcases hp with ⟨k, rfl, h0, h1⟩ | ⟨n, rfl, hn⟩
  · have g : (ls S.R)[k.toNat]? = some (.int (S.R k.toNat)) := ls_get (by omega)
    have e : valO S (.tup [.str "reg", .int k]) = S.R k.toNat := by
      show (if ("reg" : PySem.Str) = "reg" then S.R k.toNat else k) = _
      rw [if_pos rfl]
    rw [e]
    clear h
    unfold f_law_value b_law_value
    walk_at "ev"
  · have e : valO S (.tup [.str "int", .int n]) = n := by
      show (if ("int" : PySem.Str) = "reg" then S.R n.toNat else n) = _
      rw [if_neg (by simp only [sne, not_false_eq_true])]
    rw [e]
    clear h
    unfold f_law_value b_law_value
    walk_at "ev"
theorem put_nil {m : Mem} {rs r c : Nat} (h : m[rs]? = some (.lst [])) : f_law_put [.ref rs, .ref r, .ref c] m = some (.bl true, m) := by
  have ha : anyQ (.ref rs) m = some ⟨[], [(rs, .lst [])]⟩ := by simp only [anyQ, sqOf, h]
  unfold f_law_put b_law_put
  walk_at "ev"
  simp only [e_forN, Option.bind_some, e_rt, e_c]
theorem put_cell {m : Mem} {rs q r c : Nat} {C : Nat → Int} {k v : Int} (h : m[rs]? = some (.lst [.ref q])) (hq : m[q]? = some (.lst [.str "cell", .int k, .int v])) (hc : m[c]? = some (.lst (ls C))) (h0 : 0 ≤ k) (h1 : k < 16) (hne : c ≠ rs) :
    f_law_put [.ref rs, .ref r, .ref c] m = some (.bl true, m.set c (.lst (ls (fset C k.toNat v)))) := by
  have ha : anyQ (.ref rs) m = some ⟨[.ref q], [(rs, .lst [.ref q])]⟩ := by simp only [anyQ, sqOf, h]
  have hx : ixN (ls C).length k = some k.toNat := by rw [ls_len]; exact ixN_at h0 h1
  have hs : (ls C).set k.toNat (.int v) = ls (fset C k.toNat v) := ls_set (by omega)
  have hk : okG [(rs, .lst [.ref q])] (m.set c (.lst (ls (fset C k.toNat v)))) = true := by
    rw [okG_1, List.getElem?_set_ne hne, h]; simp
  unfold f_law_put b_law_put
  walk_at "ev"
  simp only [e_forN, e_forC, e_nm, Option.bind_some, List.set_cons_succ, List.set_cons_zero]
  walk_at "ev"
theorem put_reg {m : Mem} {rs q r c : Nat} {R : Nat → Int} {k v : Int} (h : m[rs]? = some (.lst [.ref q])) (hq : m[q]? = some (.lst [.str "reg", .int k, .int v])) (hr : m[r]? = some (.lst (ls R))) (h0 : 0 ≤ k) (h1 : k < 16) (hne : r ≠ rs) :
    f_law_put [.ref rs, .ref r, .ref c] m = some (.bl true, m.set r (.lst (ls (fset R k.toNat v)))) := by
  have ha : anyQ (.ref rs) m = some ⟨[.ref q], [(rs, .lst [.ref q])]⟩ := by simp only [anyQ, sqOf, h]
  have hx : ixN (ls R).length k = some k.toNat := by rw [ls_len]; exact ixN_at h0 h1
  have hs : (ls R).set k.toNat (.int v) = ls (fset R k.toNat v) := ls_set (by omega)
  have hk : okG [(rs, .lst [.ref q])] (m.set r (.lst (ls (fset R k.toNat v)))) = true := by
    rw [okG_1, List.getElem?_set_ne hne, h]; simp
  unfold f_law_put b_law_put
  walk_at "ev"
  simp only [e_forN, e_forC, e_nm, Option.bind_some, List.set_cons_succ, List.set_cons_zero]
  walk_at "ev"
theorem LS.setR {m : Mem} {r c o : Nat} {S : Sta} (h : LS m r c o S) (f : Nat → Int) : LS (m.set r (.lst (ls f))) r c o { S with R := f } := by
  obtain ⟨a1, a2, a3, b1, b2, b3⟩ := h
  exact ⟨a1, a2, a3, by rw [List.getElem?_set_self (List.getElem?_eq_some_iff.mp b1).1], by rw [List.getElem?_set_ne a1]; exact b2, by rw [List.getElem?_set_ne a2]; exact b3⟩
theorem LS.setC {m : Mem} {r c o : Nat} {S : Sta} (h : LS m r c o S) (f : Nat → Int) : LS (m.set c (.lst (ls f))) r c o { S with C := f } := by
  obtain ⟨a1, a2, a3, b1, b2, b3⟩ := h
  exact ⟨a1, a2, a3, by rw [List.getElem?_set_ne (Ne.symm a1)]; exact b1, by rw [List.getElem?_set_self (List.getElem?_eq_some_iff.mp b2).1], by rw [List.getElem?_set_ne a3]; exact b3⟩
theorem LS.setO {m : Mem} {r c o : Nat} {S : Sta} (h : LS m r c o S) (O : List Int) : LS (m.set o (.lst (O.map PV.int))) r c o { S with O := O } := by
  obtain ⟨a1, a2, a3, b1, b2, b3⟩ := h
  exact ⟨a1, a2, a3, by rw [List.getElem?_set_ne (Ne.symm a2)]; exact b1, by rw [List.getElem?_set_ne (Ne.symm a3)]; exact b2, by rw [List.getElem?_set_self (List.getElem?_eq_some_iff.mp b3).1]⟩
def putB : Sx := (sEx (xCall 3 f_law_put (aCons (xCall 4 f_law_results (aCons (xVar 9) (aCons (xVar 3) (aCons (xVar 4) (aCons (xVar 5) aNil))))) (aCons (xVar 3) (aCons (xVar 4) aNil)))))
theorem putB_ok {m : Mem} {r c o : Nat} {S : Sta} (h : LS m r c o S) (hb : BS S) (hl : S.O.length < PySem.sizeLine) {p : PV} (hp : Ins p) {x0 x1 x2 x6 x7 x8 : Option PV} :
    ∃ m', putB [x0, x1, x2, some (.ref r), some (.ref c), some (.ref o), x6, x7, x8, some p] m = some (.nx, [x0, x1, x2, some (.ref r), some (.ref c), some (.ref o), x6, x7, x8, some p], m') ∧ LS m' r c o (stepV p S) := by
  have z0 : (0 : Nat) ≤ PySem.sizeLine := Nat.zero_le _
  have z1 := one_le
  have z3 := three_le
  have hR := h.R
  have hC := h.C
  have hO := h.O
  have lr := (List.getElem?_eq_some_iff.mp hR).1
  have lc := (List.getElem?_eq_some_iff.mp hC).1
  have lo := (List.getElem?_eq_some_iff.mp hO).1
  -- what the results say of a register or a cell
  have pr : ∀ (k v : Int), 0 ≤ k → k < 16 → ∀ x : Mem, x = m ++ [.lst [.str "reg", .int k, .int v]] ++ [.lst [.ref m.length]] → f_law_put [.ref (m.length + 1), .ref r, .ref c] x = some (.bl true, x.set r (.lst (ls (fset S.R k.toNat v)))) := fun k v h0 h1 x hx => by
    subst hx
    exact put_reg (q := m.length) (by rw [List.getElem?_append_right (by simp)]; simp) (by rw [List.getElem?_append_left (by simp)]; simp) h.app.app.R h0 h1 (by omega)
  have pc : ∀ (k v : Int), 0 ≤ k → k < 16 → ∀ x : Mem, x = m ++ [.lst [.str "cell", .int k, .int v]] ++ [.lst [.ref m.length]] → f_law_put [.ref (m.length + 1), .ref r, .ref c] x = some (.bl true, x.set c (.lst (ls (fset S.C k.toNat v)))) := fun k v h0 h1 x hx => by
    subst hx
    exact put_cell (q := m.length) (by rw [List.getElem?_append_right (by simp)]; simp) (by rw [List.getElem?_append_left (by simp)]; simp) h.app.app.C h0 h1 (by omega)
  have hL : ∀ y : Ob, (m ++ [y]).length = m.length + 1 := fun y => by simp
  cases hp with
  | out ha =>
    rename_i a
    have v := value_ok h ha
    have ch : chkL (.ref o) m = true := by unfold chkL lstB; simp only [hO]; rfl
    have ap : appG (.ref o) [.int (valO S a)] m = some (.non, m.set o (.lst ((S.O ++ [valO S a]).map PV.int))) := by
      unfold appG
      simp only [hO]
      rw [if_pos (by rw [List.length_map]; exact hl)]
      simp
    have pn := put_nil (m := m.set o (.lst ((S.O ++ [valO S a]).map PV.int)) ++ [.lst []]) (rs := m.length) (r := r) (c := c) (by rw [List.getElem?_append_right (by simp)]; simp)
    refine ⟨_, ?_, (h.setO (S.O ++ [valO S a])).app (l := [.lst []])⟩
    clear h hb pr pc hL
    unfold putB f_law_results b_law_results
    walk_at "ev"
  | load h0 h1 ha =>
    rename_i d a
    have v := value_ok h ha
    have g0 : 0 ≤ valO S a % 16 := by omega
    have g : (ls S.C)[(valO S a % 16).toNat]? = some (.int (S.C (valO S a % 16).toNat)) := ls_get (by omega)
    have pp := pr d (S.C (valO S a % 16).toNat) h0 h1 _ rfl
    refine ⟨_, ?_, by rw [step_load]; exact ((h.app (l := [.lst [.str "reg", .int d, .int (S.C (valO S a % 16).toNat)]])).app (l := [.lst [.ref m.length]])).setR _⟩
    · clear h hb pr pc
      unfold putB f_law_results b_law_results
      walk_at "ev"
  | store ha hb' =>
    rename_i a b
    have v1 := value_ok h ha
    have v2 := value_ok h hb'
    have pp := pc (valO S a % 16) (valO S b) (by omega) (by omega) _ rfl
    refine ⟨_, ?_, by rw [step_store]; exact ((h.app (l := [.lst [.str "cell", .int (valO S a % 16), .int (valO S b)]])).app (l := [.lst [.ref m.length]])).setC _⟩
    · clear h hb pr pc
      unfold putB f_law_results b_law_results
      walk_at "ev"
  | ari hk h0 h1 ha hb' =>
    rename_i k d a b
    have v1 := value_ok h ha
    have v2 := value_ok h hb'
    have cp := computed_ok hk (valO_bd hb ha) m (b := valO S b)
    have pp := pr d (opV k (valO S a) (valO S b)) h0 h1 _ rfl
    have n1 : ¬ k = "out" := by rcases hk with rfl | rfl | rfl | rfl | rfl <;> simp only [sne, not_false_eq_true]
    have n2 : ¬ k = "load" := by rcases hk with rfl | rfl | rfl | rfl | rfl <;> simp only [sne, not_false_eq_true]
    have n3 : ¬ k = "store" := by rcases hk with rfl | rfl | rfl | rfl | rfl <;> simp only [sne, not_false_eq_true]
    refine ⟨_, ?_, by rw [step_ari]; exact ((h.app (l := [.lst [.str "reg", .int d, .int (opV k (valO S a) (valO S b))]])).app (l := [.lst [.ref m.length]])).setR _⟩
    · clear h hb pr pc hk
      unfold putB f_law_results b_law_results
      walk_at "ev"
end Gen
end

section
set_option maxRecDepth 100000
set_option linter.all false
set_option Elab.async false
namespace Gen
open Rf L2
local macro_rules | `(tactic| walk_at "ev") => `(tactic| simp only [e_var, xLcP_nm, notNG, reduceCtorEq, decide_false, Bool.not_false, if_true, e_c, e_1, e_2, e_A, e_aNil, e_aCons, e_call, e_bl, e_tru, e_nt, e_an, e_or, e_ys, e_xnt, e_xan, e_xor, e_xif, e_oNone, e_oSome, e_sl, e_nx, e_brk, e_cnt, e_sq, e_ex, e_rt, e_rn, e_if, e_as, e_nm, e_gix, e_gsNil, e_gsCons, e_gseqT, e_gseqR, e_fd, e_for, e_any, e_rg, e_en, e_zp, e_lc, e_m, e_get, e_meth, e_make, e_fn, ix_int, ix_t, ix_r, set_r, atI_at, ixN_0, ixN_1, ixN_2, ixN_3, mod_ok, sne, strb, snb, e_fld, okG_1, andG, minG, maxG, List.lookup_cons, rngG, okG_nil, tupleG, listG, itemsB, PX_nog, PX_wipe, 
  startE, addG, subG, mulG, divG, modG, powG, cmpG, ltG, leG, gtG, geG, intG, lenG, lenB, eqG, eqB, neG, truG, tupG, lstG, negG, Option.bind_some, Option.bind_none, Option.map_some, Option.map_none, List.map_cons, List.map_nil, List.length_cons, List.length_nil, List.length_map, List.length_set, List.replicate, List.cons_append, List.nil_append, List.getElem?_cons_zero, List.getElem?_cons_succ, List.set_cons_zero, List.set_cons_succ, List.set_set, List.getElem?_set_self, List.getElem?_set_ne, ne_eq, not_false_eq_true, Nat.reduceAdd, Nat.reduceSub, Nat.reduceEqDiff, Nat.reduceLeDiff, Nat.reduceLT, Nat.reducePow, Int.reducePow, Int.reduceNeg, Int.reduceLT, Int.reduceLE, Int.reduceToNat, nab10, and_self, or_true, true_or, true_and, and_true, ↓reduceIte, Nat.add_zero, Nat.zero_add, Nat.sub_self, decide_eq_true_eq, decide_true, decide_false, Bool.false_eq_true, Bool.not_true, Bool.not_false, *])
/-! ### the program's run -/
def RD (kvs : List (Key × PV)) (R : Nat → Int) : Prop := ∀ k : Nat, (valP kvs (.inl (k : Int))).getD (.int 0) = .int (R k)
structure PS (m : Mem) (s a b c : Nat) (S : Sta) (kvs : List (Key × PV)) : Prop where
  sa : s ≠ a
  sb : s ≠ b
  sc : s ≠ c
  ab : a ≠ b
  ac : a ≠ c
  bc : b ≠ c
  I : m[s]? = some (.ins 0 [("registers", .ref a), ("cells", .ref b), ("outputs", .ref c)])
  D : m[a]? = some (.dic kvs)
  C : m[b]? = some (.lst (ls S.C))
  O : m[c]? = some (.lst (S.O.map PV.int))
  R : RD kvs S.R
theorem valP_put {kvs : List (Key × PV)} {k j : Key} {v : PV} : valP (putP kvs k v) j = if j = k then some v else valP kvs j := by
  have mp : ∀ l : List (Key × PV), valP (l.map fun kv => if kv.1 = k then (kv.1, v) else kv) j = (valP l j).map fun x => if j = k then v else x := by
    intro l
    induction l with
    | nil => rfl
    | cons p l ih =>
      rw [List.map_cons]
      unfold valP at ih ⊢
      rw [List.find?_cons, List.find?_cons]
      by_cases e : p.1 = j
      · by_cases e2 : p.1 = k
        · have e3 : j = k := e.symm.trans e2
          subst e3
          simp [e]
        · have e3 : ¬ j = k := fun z => e2 (e.trans z)
          simp [e2, e, e3]
      · by_cases e2 : p.1 = k
        · have : ¬ k = j := fun z => e (e2.trans z)
          simp [e2, this]
          simpa using ih
        · simp [e, e2]
          simpa using ih
  unfold putP
  split
  · rename_i h
    rw [mp]
    by_cases e : j = k
    · subst e
      simp only [if_true]
      obtain ⟨p, h1, h2⟩ := List.any_eq_true.mp h
      have h2 := of_decide_eq_true h2
      have : (valP kvs j).isSome = true := by
        unfold valP
        rw [Option.isSome_map, List.find?_isSome]
        exact ⟨p, h1, decide_eq_true h2⟩
      cases z : valP kvs j with
      | none => rw [z] at this; cases this
      | some _ => rfl
    · simp only [e, if_false]
      cases valP kvs j <;> rfl
  · rename_i h
    unfold valP
    rw [List.find?_append]
    by_cases e : j = k
    · subst e
      rw [if_pos rfl]
      have : kvs.find? (fun kv => decide (kv.1 = j)) = none := by
        rw [List.find?_eq_none]
        intro p hp hq
        exact h (List.any_eq_true.mpr ⟨p, hp, hq⟩)
      rw [this]
      simp
    · rw [if_neg e]
      have : ¬ k = j := fun z => e z.symm
      simp [this]
theorem RD.put {kvs : List (Key × PV)} {R : Nat → Int} (h : RD kvs R) {k : Nat} {v : Int} : RD (putP kvs (.inl (k : Int)) (.int v)) (fset R k v) := fun j => by
  rw [valP_put]
  unfold fset
  by_cases e : j = k
  · subst e; rw [if_pos rfl, if_pos rfl]; rfl
  · rw [if_neg e, if_neg (fun z => e (by have := Sum.inl.inj z; omega))]
    exact h j
theorem putP_len {kvs : List (Key × PV)} {k : Key} {v : PV} : (putP kvs k v).length ≤ kvs.length + 1 := by
  unfold putP
  split <;> simp
theorem snb2 : (("begin" : PySem.Str) == "registers") = false ∧ (("begin" : PySem.Str) == "cells") = false ∧ (("begin" : PySem.Str) == "outputs") = false ∧ (("finish" : PySem.Str) == "registers") = false ∧ (("finish" : PySem.Str) == "cells") = false ∧ (("finish" : PySem.Str) == "outputs") = false := by
  (repeat' apply And.intro) <;> decide +kernel
theorem PS.ins {m : Mem} {s a b c : Nat} {S : Sta} {kvs : List (Key × PV)} (h : PS m s a b c S kvs) : insG 0 "worth" (.ref s) m = true ∧ insG 0 "execute" (.ref s) m = true ∧ insG 0 "execute_loop" (.ref s) m = true ∧ insG 0 "told" (.ref s) m = true ∧ insG 0 "begin" (.ref s) m = true ∧ insG 0 "finish" (.ref s) m = true := by
  have e : ∀ f : PySem.Str, (List.lookup f [(("registers" : PySem.Str), PV.ref a), ("cells", PV.ref b), ("outputs", PV.ref c)]).isNone = true → insG 0 f (.ref s) m = true := fun f hf => by
    unfold insG
    simp only [h.I, decide_true, Bool.true_and]
    exact hf
  refine ⟨e _ ?_, e _ ?_, e _ ?_, e _ ?_, e _ ?_, e _ ?_⟩ <;> simp only [List.lookup_cons, List.lookup_nil, snb, snb2, Option.isNone_none]
theorem worth_ok {m : Mem} {s a b c : Nat} {S : Sta} {kvs : List (Key × PV)} (h : PS m s a b c S kvs) {p : PV} (hp : Opd p) : f_State_worth [.ref s, p] m = some (.int (valO S p), m) := by
  have hI := h.I
  have hD := h.D
  rcases hp with ⟨k, rfl, h0, h1⟩ | ⟨n, rfl, hn⟩
  · have e : valO S (.tup [.str "reg", .int k]) = S.R k.toNat := by
      show (if ("reg" : PySem.Str) = "reg" then S.R k.toNat else k) = _
      rw [if_pos rfl]
    have g : (valP kvs (.inl k)).getD (.int 0) = .int (S.R k.toNat) := by
      have := h.R k.toNat
      rwa [Int.toNat_of_nonneg h0] at this
    have dB : dicB (.ref a) m = some kvs := by simp only [dicB, hD]
    have kO : keyOf (.int k) = some (.inl k) := rfl
    rw [e]
    clear h
    unfold f_State_worth b_State_worth
    walk_at "ev"
    simp only [Option.isSome_some, if_true, Option.bind_some, Option.map_some, e_c, dB, kO, g]
  · have e : valO S (.tup [.str "int", .int n]) = n := by
      show (if ("int" : PySem.Str) = "reg" then S.R n.toNat else n) = _
      rw [if_neg (by simp only [sne, not_false_eq_true])]
    rw [e]
    clear h
    unfold f_State_worth b_State_worth
    walk_at "ev"
theorem execute_ok {m : Mem} {s a b c : Nat} {S : Sta} {kvs : List (Key × PV)} (h : PS m s a b c S kvs) (hb : BS S) (hl : S.O.length < PySem.sizeLine) (hk' : kvs.length < PySem.sizeLine) {p : PV} (hp : Ins p) :
    ∃ m' kvs', f_State_execute [.ref s, p] m = some (.non, m') ∧ PS m' s a b c (stepV p S) kvs' ∧ kvs'.length ≤ kvs.length + 1 := by
  have hI := h.I
  have hD := h.D
  have hC := h.C
  have hO := h.O
  have la := (List.getElem?_eq_some_iff.mp hD).1
  have lb := (List.getElem?_eq_some_iff.mp hC).1
  have lc := (List.getElem?_eq_some_iff.mp hO).1
  have z3 : (3 ≤ PySem.sizeLine) = True := eq_true (Nat.le_trans (show 3 ≤ 1000000 by decide) (by decide))
  have i1 := h.ins.1
  have i5 := h.ins.2.2.2.2.1
  have i6 := h.ins.2.2.2.2.2
  have setA : ∀ (d v : Int), 0 ≤ d → PS (m.set a (.dic (putP kvs (.inl d) (.int v)))) s a b c { S with R := fset S.R d.toNat v } (putP kvs (.inl d) (.int v)) := fun d v h0 => by
    obtain ⟨a1, a2, a3, a4, a5, a6, b1, b2, b3, b4, b5⟩ := h
    refine ⟨a1, a2, a3, a4, a5, a6, by rw [List.getElem?_set_ne (Ne.symm a1)]; exact b1, by rw [List.getElem?_set_self la], by rw [List.getElem?_set_ne a4]; exact b3, by rw [List.getElem?_set_ne a5]; exact b4, ?_⟩
    have := b5.put (k := d.toNat) (v := v)
    rwa [Int.toNat_of_nonneg h0] at this
  cases hp with
  | out ha =>
    rename_i x
    have v := worth_ok h ha
    have ch : chkL (.ref c) m = true := by unfold chkL lstB; simp only [hO]; rfl
    have ap : appG (.ref c) [.int (valO S x)] m = some (.non, m.set c (.lst ((S.O ++ [valO S x]).map PV.int))) := by
      unfold appG
      simp only [hO]
      rw [if_pos (by rw [List.length_map]; exact hl)]
      simp
    refine ⟨m.set c (.lst ((S.O ++ [valO S x]).map PV.int)), kvs, ?_, ?_, by omega⟩
    · have hg : f_State_begin [.ref s, .tup [.str "out", x]] m = some (.non, m.set c (.lst ((S.O ++ [valO S x]).map PV.int))) := by
        clear h hb setA i5 i6
        unfold f_State_begin b_State_begin
        walk_at "ev"
      clear h hb setA i1 i6 v ch ap hI hD hC hO
      unfold f_State_execute b_State_execute
      walk_at "ev"
    · obtain ⟨a1, a2, a3, a4, a5, a6, b1, b2, b3, b4, b5⟩ := h
      exact ⟨a1, a2, a3, a4, a5, a6, by rw [List.getElem?_set_ne (Ne.symm a3)]; exact b1, by rw [List.getElem?_set_ne (Ne.symm a5)]; exact b2, by rw [List.getElem?_set_ne (Ne.symm a6)]; exact b3, by rw [List.getElem?_set_self lc]; rfl, b5⟩
  | load h0 h1 ha =>
    rename_i d x
    have v := worth_ok h ha
    have g0 : 0 ≤ valO S x % 16 := by omega
    have g : (ls S.C)[(valO S x % 16).toNat]? = some (.int (S.C (valO S x % 16).toNat)) := ls_get (by omega)
    have kO : keyOf (.int d) = some (.inl d) := rfl
    refine ⟨_, _, ?_, by rw [step_load]; exact setA d (S.C (valO S x % 16).toNat) h0, putP_len⟩
    have hg : f_State_begin [.ref s, .tup [.str "load", .int d, x]] m = some (.tup [.str "reg", .int d, .int (S.C (valO S x % 16).toNat)], m) := by
      clear h hb setA i5 i6
      unfold f_State_begin b_State_begin
      walk_at "ev"
    have hf : f_State_finish [.ref s, .tup [.str "reg", .int d, .int (S.C (valO S x % 16).toNat)]] m = some (.non, m.set a (.dic (putP kvs (.inl d) (.int (S.C (valO S x % 16).toNat))))) := by
      clear h hb setA i1 i5 i6 v hg g g0
      unfold f_State_finish b_State_finish
      walk_at "ev"
    clear h hb setA i1 v g g0 hI hD hC hO
    unfold f_State_execute b_State_execute
    walk_at "ev"
  | store ha hb' =>
    rename_i x y
    have v1 := worth_ok h ha
    have v2 := worth_ok h hb'
    have hx : ixN (ls S.C).length (valO S x % 16) = some (valO S x % 16).toNat := by rw [ls_len]; exact ixN_at (by omega) (by show _ < ((16 : Nat) : Int); omega)
    have hs : (ls S.C).set (valO S x % 16).toNat (.int (valO S y)) = ls (fset S.C (valO S x % 16).toNat (valO S y)) := ls_set (by omega)
    refine ⟨m.set b (.lst (ls (fset S.C (valO S x % 16).toNat (valO S y)))), kvs, ?_, ?_, by omega⟩
    · have hg : f_State_begin [.ref s, .tup [.str "store", x, y]] m = some (.tup [.str "cell", .int (valO S x % 16), .int (valO S y)], m) := by
        clear h hb setA i5 i6 hs hx
        unfold f_State_begin b_State_begin
        walk_at "ev"
      have hf : f_State_finish [.ref s, .tup [.str "cell", .int (valO S x % 16), .int (valO S y)]] m = some (.non, m.set b (.lst (ls (fset S.C (valO S x % 16).toNat (valO S y))))) := by
        clear h hb setA i1 i5 i6 v1 v2 hg
        unfold f_State_finish b_State_finish
        walk_at "ev"
      clear h hb setA i1 v1 v2 hs hx hI hD hC hO
      unfold f_State_execute b_State_execute
      walk_at "ev"
    · rw [step_store]
      obtain ⟨a1, a2, a3, a4, a5, a6, b1, b2, b3, b4, b5⟩ := h
      exact ⟨a1, a2, a3, a4, a5, a6, by rw [List.getElem?_set_ne (Ne.symm a2)]; exact b1, by rw [List.getElem?_set_ne (Ne.symm a4)]; exact b2, by rw [List.getElem?_set_self lb], by rw [List.getElem?_set_ne a6]; exact b4, b5⟩
  | ari hk h0 h1 ha hb' =>
    rename_i k d x y
    have v1 := worth_ok h ha
    have v2 := worth_ok h hb'
    have cp := operate_ok hk (valO_bd hb ha) m (b := valO S y)
    have n1 : ¬ k = "out" := by rcases hk with rfl | rfl | rfl | rfl | rfl <;> simp only [sne, not_false_eq_true]
    have n2 : ¬ k = "load" := by rcases hk with rfl | rfl | rfl | rfl | rfl <;> simp only [sne, not_false_eq_true]
    have n3 : ¬ k = "store" := by rcases hk with rfl | rfl | rfl | rfl | rfl <;> simp only [sne, not_false_eq_true]
    have kO : keyOf (.int d) = some (.inl d) := rfl
    refine ⟨_, _, ?_, by rw [step_ari]; exact setA d (opV k (valO S x) (valO S y)) h0, putP_len⟩
    have hg : f_State_begin [.ref s, .tup [.str k, .int d, x, y]] m = some (.tup [.str "reg", .int d, .int (opV k (valO S x) (valO S y))], m) := by
      clear h hb setA i5 i6 hk
      unfold f_State_begin b_State_begin
      walk_at "ev"
    have hf : f_State_finish [.ref s, .tup [.str "reg", .int d, .int (opV k (valO S x) (valO S y))]] m = some (.non, m.set a (.dic (putP kvs (.inl d) (.int (opV k (valO S x) (valO S y)))))) := by
      clear h hb setA i1 i5 i6 v1 v2 hg cp hk
      unfold f_State_finish b_State_finish
      walk_at "ev"
    clear h hb setA hk i1 v1 v2 cp hI hD hC hO
    unfold f_State_execute b_State_execute
    walk_at "ev"
end Gen
end

section
set_option maxRecDepth 100000
set_option linter.all false
set_option Elab.async false
namespace Gen
open Rf L2
local macro_rules | `(tactic| walk_at "ev") => `(tactic| simp only [e_var, xLcP_nm, maxL_two, notNG, reduceCtorEq, decide_false, Bool.not_false, if_true, e_c, e_1, e_2, e_A, e_aNil, e_aCons, e_call, e_bl, e_tru, e_nt, e_an, e_or, e_ys, e_xnt, e_xan, e_xor, e_xif, e_oNone, e_oSome, e_sl, e_nx, e_brk, e_cnt, e_sq, e_ex, e_rt, e_rn, e_if, e_as, e_nm, e_gix, e_gsNil, e_gsCons, e_gseqT, e_gseqR, e_fd, e_for, e_any, e_rg, e_en, e_zp, e_lc, e_m, e_get, e_meth, e_make, e_fn, ix_int, ix_t, ix_r, set_r, atI_at, ixN_0, ixN_1, ixN_2, ixN_3, mod_ok, sne, strb, snb, e_fld, okG_1, andG, minG, maxG, List.lookup_cons, rngG, okG_nil, tupleG, listG, itemsB, PX_nog, PX_wipe, 
  startE, addG, subG, mulG, divG, modG, powG, cmpG, ltG, leG, gtG, geG, intG, lenG, lenB, eqG, eqB, neG, truG, tupG, lstG, negG, Option.bind_some, Option.bind_none, Option.map_some, Option.map_none, List.map_cons, List.map_nil, List.length_cons, List.length_nil, List.length_map, List.length_set, List.replicate, List.cons_append, List.nil_append, List.getElem?_cons_zero, List.getElem?_cons_succ, List.set_cons_zero, List.set_cons_succ, List.set_set, List.getElem?_set_self, List.getElem?_set_ne, ne_eq, not_false_eq_true, Nat.reduceAdd, Nat.reduceSub, Nat.reduceEqDiff, Nat.reduceLeDiff, Nat.reduceLT, Nat.reducePow, Int.reducePow, Int.reduceNeg, Int.reduceLT, Int.reduceLE, Int.reduceToNat, nab10, and_self, or_true, true_or, true_and, and_true, ↓reduceIte, Nat.add_zero, Nat.zero_add, Nat.sub_self, decide_eq_true_eq, decide_true, decide_false, Bool.false_eq_true, Bool.not_true, Bool.not_false, *])
local macro_rules | `(tactic| walk_at "ev2") => `(tactic| simp only [List.append_assoc, List.length_append, gapp, gapp0, putFP, mulG, slG, e_var, xLcP_nm, maxL_two, notNG, reduceCtorEq, decide_false, Bool.not_false, if_true, e_c, e_1, e_2, e_A, e_aNil, e_aCons, e_call, e_bl, e_tru, e_nt, e_an, e_or, e_ys, e_xnt, e_xan, e_xor, e_xif, e_oNone, e_oSome, e_sl, e_nx, e_brk, e_cnt, e_sq, e_ex, e_rt, e_rn, e_if, e_as, e_nm, e_gix, e_gsNil, e_gsCons, e_gseqT, e_gseqR, e_fd, e_for, e_any, e_rg, e_en, e_zp, e_lc, e_m, e_get, e_meth, e_make, e_fn, ix_int, ix_t, ix_r, set_r, atI_at, ixN_0, ixN_1, ixN_2, ixN_3, mod_ok, sne, strb, snb, e_fld, okG_1, andG, minG, maxG, List.lookup_cons, rngG, okG_nil, tupleG, listG, itemsB, PX_nog, PX_wipe, 
  startE, addG, subG, mulG, divG, modG, powG, cmpG, ltG, leG, gtG, geG, intG, lenG, lenB, eqG, eqB, neG, truG, tupG, lstG, negG, Option.bind_some, Option.bind_none, Option.map_some, Option.map_none, List.map_cons, List.map_nil, List.length_cons, List.length_nil, List.length_map, List.length_set, List.replicate, List.cons_append, List.nil_append, List.getElem?_cons_zero, List.getElem?_cons_succ, List.set_cons_zero, List.set_cons_succ, List.set_set, List.getElem?_set_self, List.getElem?_set_ne, ne_eq, not_false_eq_true, Nat.reduceAdd, Nat.reduceSub, Nat.reduceEqDiff, Nat.reduceLeDiff, Nat.reduceLT, Nat.reducePow, Int.reducePow, Int.reduceNeg, Int.reduceLT, Int.reduceLE, Int.reduceToNat, nab10, and_self, or_true, true_or, true_and, and_true, ↓reduceIte, Nat.add_zero, Nat.zero_add, Nat.sub_self, decide_eq_true_eq, decide_true, decide_false, Bool.false_eq_true, Bool.not_true, Bool.not_false, *])
def bodyV (ps : List PV) (S : Sta) : Sta := ps.foldl (fun S p => stepV p S) S
def turnsV : Nat → List PV → Sta → Sta
  | 0, _, S => S
  | n + 1, ps, S => turnsV n ps (bodyV ps S)
def tv (n : Int) : Int := if n < 0 then 0 else if 40 < n then 40 else n
theorem tv_b (n : Int) : 0 ≤ tv n ∧ tv n ≤ 40 := by unfold tv; split <;> (try split) <;> omega
def stmV (p : PV) (S : Sta) : Sta := match p with
  | .tup [.str k, n, .tup ps] => if k = "loop" then turnsV (tv (valO S n)).toNat ps S else stepV p S
  | p => stepV p S
theorem body_bs : ∀ {ps : List PV} {S : Sta}, BS S → (∀ p ∈ ps, Ins p) → BS (bodyV ps S)
  | [], S, h, _ => h
  | p :: ps, S, h, hp => body_bs (ps := ps) (step_bs h (hp p List.mem_cons_self)) fun q hq => hp q (List.mem_cons_of_mem _ hq)
theorem body_len : ∀ {ps : List PV} {S : Sta}, (∀ p ∈ ps, Ins p) → (bodyV ps S).O.length ≤ S.O.length + ps.length
  | [], S, _ => Nat.le_refl _
  | p :: ps, S, hp => by
    have h1 := body_len (ps := ps) (S := stepV p S) fun q hq => hp q (List.mem_cons_of_mem _ hq)
    have h2 := step_len (S := S) (hp p List.mem_cons_self)
    rw [List.length_cons]
    show (bodyV ps (stepV p S)).O.length ≤ _
    omega
theorem turns_bs : ∀ {n : Nat} {ps : List PV} {S : Sta}, BS S → (∀ p ∈ ps, Ins p) → BS (turnsV n ps S)
  | 0, ps, S, h, _ => h
  | n + 1, ps, S, h, hp => turns_bs (n := n) (body_bs h hp) hp
theorem turns_len : ∀ {n : Nat} {ps : List PV} {S : Sta}, (∀ p ∈ ps, Ins p) → (turnsV n ps S).O.length ≤ S.O.length + n * ps.length
  | 0, ps, S, _ => by simp [turnsV]
  | n + 1, ps, S, hp => by
    have h1 := turns_len (n := n) (S := bodyV ps S) hp
    have h2 := body_len (S := S) hp
    rw [Nat.succ_mul]
    show (turnsV n ps (bodyV ps S)).O.length ≤ _
    omega
theorem Ins.head {p : PV} (h : Ins p) : ∃ k r, p = .tup (.str k :: r) ∧ ¬ k = "loop" := by
  cases h with
  | out ha => exact ⟨_, _, rfl, by simp only [sne, not_false_eq_true]⟩
  | load h0 h1 ha => exact ⟨_, _, rfl, by simp only [sne, not_false_eq_true]⟩
  | store ha hb => exact ⟨_, _, rfl, by simp only [sne, not_false_eq_true]⟩
  | ari hk h0 h1 ha hb => exact ⟨_, _, rfl, by rcases hk with rfl | rfl | rfl | rfl | rfl <;> simp only [sne, not_false_eq_true]⟩
theorem stm_not {k : PySem.Str} {r : List PV} {S : Sta} (hk : ¬ k = "loop") : stmV (.tup (.str k :: r)) S = stepV (.tup (.str k :: r)) S := by
  unfold stmV
  split
  · rename_i k' n ps heq
    obtain ⟨e1, e2⟩ := List.cons.inj (PV.tup.inj heq)
    obtain rfl := PV.str.inj e1
    subst e2
    rw [if_neg hk]
  · rfl
theorem stm_one {p : PV} {S : Sta} (h : Ins p) : stmV p S = stepV p S := by
  obtain ⟨k, r, rfl, hk⟩ := h.head
  exact stm_not hk
theorem stm_loop {n : PV} {ps : List PV} {S : Sta} : stmV (.tup [.str "loop", n, .tup ps]) S = turnsV (tv (valO S n)).toNat ps S := by
  unfold stmV
  simp only [if_true]
theorem stm_bs {p : PV} {S : Sta} (h : BS S) (hp : Stm p) : BS (stmV p S) := by
  cases hp with
  | one hi => rw [stm_one hi]; exact step_bs h hi
  | loop hn hi hl => rw [stm_loop]; exact turns_bs h hi
theorem stm_len {p : PV} {S : Sta} (hp : Stm p) : (stmV p S).O.length ≤ S.O.length + 4000 := by
  cases hp with
  | one hi => rw [stm_one hi]; have := step_len (S := S) hi; omega
  | loop hn hi hl =>
    rw [stm_loop]
    rename_i n ps
    have h1 := turns_len (n := (tv (valO S n)).toNat) (S := S) hi
    have h2 := tv_b (valO S n)
    have h3 : (tv (valO S n)).toNat * ps.length ≤ 40 * 100 := Nat.mul_le_mul (by omega) hl
    omega
theorem big_lt {n : Nat} (h : n ≤ 1000000) : n < PySem.sizeLine := Nat.lt_of_le_of_lt h (by decide)
/-! the law's loops -/
theorem lbody_ok {r c o : Nat} {x0 x1 x2 x6 x7 x8 : Option PV} : ∀ (ps : List PV) (m : Mem) (S : Sta) (x9 : Option PV), LS m r c o S → BS S → (∀ p ∈ ps, Ins p) → S.O.length + ps.length ≤ 1000000 →
    ∃ m' y9, forL (gNm 9) putB [] ps [x0, x1, x2, some (.ref r), some (.ref c), some (.ref o), x6, x7, x8, x9] m = some (.nx, [x0, x1, x2, some (.ref r), some (.ref c), some (.ref o), x6, x7, x8, y9], m') ∧ LS m' r c o (bodyV ps S)
  | [], m, S, x9, h, hb, hp, hl => ⟨m, x9, rfl, h⟩
  | p :: ps, m, S, x9, h, hb, hp, hl => by
    rw [List.length_cons] at hl
    have hi := hp p List.mem_cons_self
    obtain ⟨m1, e1, h1⟩ := putB_ok h hb (big_lt (by omega)) hi (x0 := x0) (x1 := x1) (x2 := x2) (x6 := x6) (x7 := x7) (x8 := x8)
    have := step_len (S := S) hi
    obtain ⟨m2, y9, e2, h2⟩ := lbody_ok (x0 := x0) (x1 := x1) (x2 := x2) (x6 := x6) (x7 := x7) (x8 := x8) ps m1 (stepV p S) (some p) h1 (step_bs hb hi) (fun q hq => hp q (List.mem_cons_of_mem _ hq)) (by omega)
    refine ⟨m2, y9, ?_, h2⟩
    rw [e_forC, e_nm, Option.bind_some]
    simp only [List.set_cons_succ, List.set_cons_zero, e1, Option.bind_some, okG_nil, if_true]
    exact e2
theorem lturns_ok {r c o : Nat} {ps : List PV} {x0 x1 x2 x7 : Option PV} (hp : ∀ p ∈ ps, Ins p) : ∀ (ts : List PV) (m : Mem) (S : Sta) (x8 x9 : Option PV), LS m r c o S → BS S → S.O.length + ts.length * ps.length ≤ 1000000 →
    ∃ m' y8 y9, forL (gNm 8) (sFor (iAny (xVar 6)) (gNm 9) putB) [] ts [x0, x1, x2, some (.ref r), some (.ref c), some (.ref o), some (.tup ps), x7, x8, x9] m = some (.nx, [x0, x1, x2, some (.ref r), some (.ref c), some (.ref o), some (.tup ps), x7, y8, y9], m') ∧ LS m' r c o (turnsV ts.length ps S)
  | [], m, S, x8, x9, h, hb, hl => ⟨m, x8, x9, rfl, h⟩
  | t :: ts, m, S, x8, x9, h, hb, hl => by
    rw [List.length_cons, Nat.succ_mul] at hl
    obtain ⟨m1, z9, e1, h1⟩ := lbody_ok (x0 := x0) (x1 := x1) (x2 := x2) (x6 := some (.tup ps)) (x7 := x7) (x8 := some t) ps m S x9 h hb hp (by omega)
    have := body_len (S := S) hp
    obtain ⟨m2, y8, y9, e2, h2⟩ := lturns_ok hp ts m1 (bodyV ps S) (some t) z9 h1 (body_bs hb hp) (by omega)
    refine ⟨m2, y8, y9, ?_, h2⟩
    have ha : anyQ (.tup ps) m = some ⟨ps, []⟩ := rfl
    rw [e_forC, e_nm, Option.bind_some]
    simp only [List.set_cons_succ, List.set_cons_zero, e_for, e_any, e_var, List.getElem?_cons_zero, List.getElem?_cons_succ, Option.bind_some, Option.map_some, ha, e1, okG_nil, if_true]
    exact e2
def stmB : Sx := (sSq (sAs (xA tupG (aCons (xVar 2) aNil)) (gNm 6))
    (sSq (sAs (xC (.int (1))) (gNm 7))
    (sSq (sIf (tBl (x2 eqG (x2 ixG (xVar 2) (xC (.int (0)))) (xC (.str "loop")))) (sSq (sAs (x2 ixG (xVar 2) (xC (.int (2)))) (gNm 6))
    (sAs (xCall 1 f_law_turns (aCons (xCall 2 f_law_value (aCons (x2 ixG (xVar 2) (xC (.int (1)))) (aCons (xVar 3) aNil))) aNil)) (gNm 7))) sNx)
    (sFor (iRg (aCons (xVar 7) aNil)) (gNm 8) (sFor (iAny (xVar 6)) (gNm 9) putB)))))
theorem lturnsV (n : Int) (m : Mem) : f_law_turns [.int n] m = some (.int (tv n), m) := by
  unfold f_law_turns b_law_turns tv
  by_cases h : 40 < n
  · have h0 : ¬ n < 0 := by omega
    have h2 : (40 : Int) > 0 := by decide
    walk_at "ev"
  · by_cases h0 : n < 0
    · have h2 : ¬ n > 0 := by omega
      walk_at "ev"
    · by_cases h2 : n > 0
      · walk_at "ev"
      · have e : n = 0 := by omega
        subst e
        walk_at "ev"
theorem stmB_ok {r c o : Nat} {m : Mem} {S : Sta} (h : LS m r c o S) (hb : BS S) (hl : S.O.length ≤ 500000) {p : PV} (hp : Stm p) {x0 x1 x6 x7 x8 x9 : Option PV} :
    ∃ m' y6 y7 y8 y9, stmB [x0, x1, some p, some (.ref r), some (.ref c), some (.ref o), x6, x7, x8, x9] m = some (.nx, [x0, x1, some p, some (.ref r), some (.ref c), some (.ref o), y6, y7, y8, y9], m') ∧ LS m' r c o (stmV p S) := by
  have z1 := one_le
  cases hp with
  | one hi =>
    obtain ⟨k, rr, rfl, hk⟩ := hi.head
    obtain ⟨m', y8, y9, e, h'⟩ := lturns_ok (x0 := x0) (x1 := x1) (x2 := some (.tup (.str k :: rr))) (x7 := some (.int 1)) (ps := [.tup (.str k :: rr)]) (fun q hq => by rw [List.mem_singleton] at hq; subst hq; exact hi) (rangeP 0 1) m S x8 x9 h hb (by rw [rangeP_len]; simp; omega)
    rw [rangeP_len] at h'
    refine ⟨m', some (.tup [.tup (.str k :: rr)]), some (.int 1), y8, y9, ?_, by rw [stm_one hi]; exact h'⟩
    clear h hb hi h'
    unfold stmB
    walk_at "ev"
  | loop hn hi hps =>
    rename_i n ps
    have v := value_ok h hn
    have t := lturnsV (valO S n) m
    have tb := tv_b (valO S n)
    have hmul : (tv (valO S n)).toNat * ps.length ≤ 40 * 100 := Nat.mul_le_mul (by omega) hps
    obtain ⟨m', y8, y9, e, h'⟩ := lturns_ok (x0 := x0) (x1 := x1) (x2 := some (.tup [.str "loop", n, .tup ps])) (x7 := some (.int (tv (valO S n)))) hi (rangeP 0 (tv (valO S n)).toNat) m S x8 x9 h hb (by rw [rangeP_len]; omega)
    rw [rangeP_len] at h'
    have b1 : -4611686018427387904 ≤ tv (valO S n) := by omega
    have b2 : tv (valO S n) < 4611686018427387904 := by omega
    refine ⟨m', some (.tup ps), some (.int (tv (valO S n))), y8, y9, ?_, by rw [stm_loop]; exact h'⟩
    clear h hb hi h' hn
    unfold stmB
    walk_at "ev"
def progV (ps : List PV) (S : Sta) : Sta := ps.foldl (fun S p => stmV p S) S
theorem lprog_ok {r c o : Nat} {x0 x1 : Option PV} : ∀ (ps : List PV) (m : Mem) (S : Sta) (x2 x6 x7 x8 x9 : Option PV), LS m r c o S → BS S → (∀ p ∈ ps, Stm p) → S.O.length + 4000 * ps.length ≤ 500000 →
    ∃ m' y2 y6 y7 y8 y9, forL (gNm 2) stmB [] ps [x0, x1, x2, some (.ref r), some (.ref c), some (.ref o), x6, x7, x8, x9] m = some (.nx, [x0, x1, y2, some (.ref r), some (.ref c), some (.ref o), y6, y7, y8, y9], m') ∧ LS m' r c o (progV ps S)
  | [], m, S, x2, x6, x7, x8, x9, h, hb, hp, hl => ⟨m, x2, x6, x7, x8, x9, rfl, h⟩
  | p :: ps, m, S, x2, x6, x7, x8, x9, h, hb, hp, hl => by
    rw [List.length_cons] at hl
    have hi := hp p List.mem_cons_self
    obtain ⟨m1, y6, y7, y8, y9, e1, h1⟩ := stmB_ok h hb (by omega) hi (x0 := x0) (x1 := x1) (x6 := x6) (x7 := x7) (x8 := x8) (x9 := x9)
    have := stm_len (S := S) hi
    obtain ⟨m2, z2, z6, z7, z8, z9, e2, h2⟩ := lprog_ok (x0 := x0) (x1 := x1) ps m1 (stmV p S) (some p) y6 y7 y8 y9 h1 (stm_bs hb hi) (fun q hq => hp q (List.mem_cons_of_mem _ hq)) (by omega)
    refine ⟨m2, z2, z6, z7, z8, z9, ?_, h2⟩
    rw [e_forC, e_nm, Option.bind_some]
    simp only [List.set_cons_succ, List.set_cons_zero, e1, Option.bind_some, okG_nil, if_true]
    exact e2
end Gen
end

section
set_option maxRecDepth 100000
set_option linter.all false
set_option Elab.async false
namespace Gen
open Rf L2
local macro_rules | `(tactic| walk_at "ev") => `(tactic| simp only [e_var, xLcP_nm, maxL_two, notNG, reduceCtorEq, decide_false, Bool.not_false, if_true, e_c, e_1, e_2, e_A, e_aNil, e_aCons, e_call, e_bl, e_tru, e_nt, e_an, e_or, e_ys, e_xnt, e_xan, e_xor, e_xif, e_oNone, e_oSome, e_sl, e_nx, e_brk, e_cnt, e_sq, e_ex, e_rt, e_rn, e_if, e_as, e_nm, e_gix, e_gsNil, e_gsCons, e_gseqT, e_gseqR, e_fd, e_for, e_any, e_rg, e_en, e_zp, e_lc, e_m, e_get, e_meth, e_make, e_fn, ix_int, ix_t, ix_r, set_r, atI_at, ixN_0, ixN_1, ixN_2, ixN_3, mod_ok, sne, strb, snb, e_fld, okG_1, andG, minG, maxG, List.lookup_cons, rngG, okG_nil, tupleG, listG, itemsB, PX_nog, PX_wipe, 
  startE, addG, subG, mulG, divG, modG, powG, cmpG, ltG, leG, gtG, geG, intG, lenG, lenB, eqG, eqB, neG, truG, tupG, lstG, negG, Option.bind_some, Option.bind_none, Option.map_some, Option.map_none, List.map_cons, List.map_nil, List.length_cons, List.length_nil, List.length_map, List.length_set, List.replicate, List.cons_append, List.nil_append, List.getElem?_cons_zero, List.getElem?_cons_succ, List.set_cons_zero, List.set_cons_succ, List.set_set, List.getElem?_set_self, List.getElem?_set_ne, ne_eq, not_false_eq_true, Nat.reduceAdd, Nat.reduceSub, Nat.reduceEqDiff, Nat.reduceLeDiff, Nat.reduceLT, Nat.reducePow, Int.reducePow, Int.reduceNeg, Int.reduceLT, Int.reduceLE, Int.reduceToNat, nab10, and_self, or_true, true_or, true_and, and_true, ↓reduceIte, Nat.add_zero, Nat.zero_add, Nat.sub_self, decide_eq_true_eq, decide_true, decide_false, Bool.false_eq_true, Bool.not_true, Bool.not_false, *])
local macro_rules | `(tactic| walk_at "ev2") => `(tactic| simp only [List.append_assoc, List.length_append, gapp, gapp0, putFP, mulG, slG, e_var, xLcP_nm, maxL_two, notNG, reduceCtorEq, decide_false, Bool.not_false, if_true, e_c, e_1, e_2, e_A, e_aNil, e_aCons, e_call, e_bl, e_tru, e_nt, e_an, e_or, e_ys, e_xnt, e_xan, e_xor, e_xif, e_oNone, e_oSome, e_sl, e_nx, e_brk, e_cnt, e_sq, e_ex, e_rt, e_rn, e_if, e_as, e_nm, e_gix, e_gsNil, e_gsCons, e_gseqT, e_gseqR, e_fd, e_for, e_any, e_rg, e_en, e_zp, e_lc, e_m, e_get, e_meth, e_make, e_fn, ix_int, ix_t, ix_r, set_r, atI_at, ixN_0, ixN_1, ixN_2, ixN_3, mod_ok, sne, strb, snb, e_fld, okG_1, andG, minG, maxG, List.lookup_cons, rngG, okG_nil, tupleG, listG, itemsB, PX_nog, PX_wipe, 
  startE, addG, subG, mulG, divG, modG, powG, cmpG, ltG, leG, gtG, geG, intG, lenG, lenB, eqG, eqB, neG, truG, tupG, lstG, negG, Option.bind_some, Option.bind_none, Option.map_some, Option.map_none, List.map_cons, List.map_nil, List.length_cons, List.length_nil, List.length_map, List.length_set, List.replicate, List.cons_append, List.nil_append, List.getElem?_cons_zero, List.getElem?_cons_succ, List.set_cons_zero, List.set_cons_succ, List.set_set, List.getElem?_set_self, List.getElem?_set_ne, ne_eq, not_false_eq_true, Nat.reduceAdd, Nat.reduceSub, Nat.reduceEqDiff, Nat.reduceLeDiff, Nat.reduceLT, Nat.reducePow, Int.reducePow, Int.reduceNeg, Int.reduceLT, Int.reduceLE, Int.reduceToNat, nab10, and_self, or_true, true_or, true_and, and_true, ↓reduceIte, Nat.add_zero, Nat.zero_add, Nat.sub_self, decide_eq_true_eq, decide_true, decide_false, Bool.false_eq_true, Bool.not_true, Bool.not_false, *])
/-! the program's loops -/
def exB : Sx := (sEx (xMeth 0 "execute" 1 f_State_execute (xVar 0) (aCons (xVar 4) aNil)))
theorem pbody_ok {s a b c : Nat} {x1 x2 x3 : Option PV} : ∀ (ps : List PV) (m : Mem) (S : Sta) (kvs : List (Key × PV)) (x4 : Option PV), PS m s a b c S kvs → BS S → (∀ p ∈ ps, Ins p) → S.O.length + ps.length ≤ 1000000 → kvs.length + ps.length ≤ 1000000 →
    ∃ m' kvs' y4, forL (gNm 4) exB [] ps [some (.ref s), x1, x2, x3, x4] m = some (.nx, [some (.ref s), x1, x2, x3, y4], m') ∧ PS m' s a b c (bodyV ps S) kvs' ∧ kvs'.length ≤ kvs.length + ps.length
  | [], m, S, kvs, x4, h, hb, hp, hl, hk => ⟨m, kvs, x4, rfl, h, by simp⟩
  | p :: ps, m, S, kvs, x4, h, hb, hp, hl, hk => by
    rw [List.length_cons] at hl hk
    have hi := hp p List.mem_cons_self
    obtain ⟨m1, kvs1, e1, h1, k1⟩ := execute_ok h hb (big_lt (by omega)) (big_lt (by omega)) hi
    have := step_len (S := S) hi
    obtain ⟨m2, kvs2, y4, e2, h2, k2⟩ := pbody_ok (x1 := x1) (x2 := x2) (x3 := x3) ps m1 (stepV p S) kvs1 (some p) h1 (step_bs hb hi) (fun q hq => hp q (List.mem_cons_of_mem _ hq)) (by omega) (by omega)
    refine ⟨m2, kvs2, y4, ?_, h2, by rw [List.length_cons]; omega⟩
    have i1 := h.ins.2.1
    have eb : exB [some (.ref s), x1, x2, x3, some p] m = some (.nx, [some (.ref s), x1, x2, x3, some p], m1) := by
      clear h hb hi h1 e2 h2
      unfold exB
      walk_at "ev"
    rw [e_forC, e_nm, Option.bind_some]
    simp only [List.set_cons_succ, List.set_cons_zero, eb, Option.bind_some, okG_nil, if_true]
    exact e2
theorem pturns_ok {s a b c : Nat} {ps : List PV} {x1 : Option PV} (hp : ∀ p ∈ ps, Ins p) : ∀ (ts : List PV) (m : Mem) (S : Sta) (kvs : List (Key × PV)) (x3 x4 : Option PV), PS m s a b c S kvs → BS S → S.O.length + ts.length * ps.length ≤ 1000000 → kvs.length + ts.length * ps.length ≤ 1000000 →
    ∃ m' kvs' y3 y4, forL (gNm 3) (sFor (iAny (xVar 2)) (gNm 4) exB) [] ts [some (.ref s), x1, some (.tup ps), x3, x4] m = some (.nx, [some (.ref s), x1, some (.tup ps), y3, y4], m') ∧ PS m' s a b c (turnsV ts.length ps S) kvs' ∧ kvs'.length ≤ kvs.length + ts.length * ps.length
  | [], m, S, kvs, x3, x4, h, hb, hl, hk => ⟨m, kvs, x3, x4, rfl, h, by simp⟩
  | t :: ts, m, S, kvs, x3, x4, h, hb, hl, hk => by
    rw [List.length_cons, Nat.succ_mul] at hl hk
    obtain ⟨m1, kvs1, z4, e1, h1, k1⟩ := pbody_ok (x1 := x1) (x2 := some (.tup ps)) (x3 := some t) ps m S kvs x4 h hb hp (by omega) (by omega)
    have := body_len (S := S) hp
    obtain ⟨m2, kvs2, y3, y4, e2, h2, k2⟩ := pturns_ok hp ts m1 (bodyV ps S) kvs1 (some t) z4 h1 (body_bs hb hp) (by omega) (by omega)
    refine ⟨m2, kvs2, y3, y4, ?_, h2, by rw [List.length_cons, Nat.succ_mul]; omega⟩
    have ha : anyQ (.tup ps) m = some ⟨ps, []⟩ := rfl
    rw [e_forC, e_nm, Option.bind_some]
    simp only [List.set_cons_succ, List.set_cons_zero, e_for, e_any, e_var, List.getElem?_cons_zero, List.getElem?_cons_succ, Option.bind_some, Option.map_some, ha, e1, okG_nil, if_true]
    exact e2
theorem pturnsV (n : Int) (m : Mem) : f_turns_of [.int n] m = some (.int (tv n), m) := by
  unfold f_turns_of b_turns_of tv
  by_cases h0 : n < 0
  · have h1 : (0 : Int) > n := h0
    have h2 : ¬ (40 : Int) < 0 := by decide
    walk_at "ev"
  · have h1 : ¬ (0 : Int) > n := h0
    by_cases h : 40 < n
    · walk_at "ev"
    · by_cases h3 : (40 : Int) < n
      · exact absurd h3 h
      · walk_at "ev"
theorem exloop_ok {s a b c : Nat} {m : Mem} {S : Sta} {kvs : List (Key × PV)} (h : PS m s a b c S kvs) (hb : BS S) (hl : S.O.length ≤ 500000) (hk : kvs.length ≤ 500000) {n : PV} (hn : Opd n) {ps : List PV} (hp : ∀ p ∈ ps, Ins p) (hps : ps.length ≤ 100) :
    ∃ m' kvs', f_State_execute_loop [.ref s, n, .tup ps] m = some (.non, m') ∧ PS m' s a b c (turnsV (tv (valO S n)).toNat ps S) kvs' ∧ kvs'.length ≤ kvs.length + 4000 := by
  have v := worth_ok h hn
  have t := pturnsV (valO S n) m
  have tb := tv_b (valO S n)
  have hmul : (tv (valO S n)).toNat * ps.length ≤ 40 * 100 := Nat.mul_le_mul (by omega) hps
  have i1 := h.ins.1
  obtain ⟨m', kvs', y3, y4, e, h', k'⟩ := pturns_ok (x1 := some n) hp (rangeP 0 (tv (valO S n)).toNat) m S kvs none none h hb (by rw [rangeP_len]; omega) (by rw [rangeP_len]; omega)
  rw [rangeP_len] at h' k'
  have b1 : -4611686018427387904 ≤ tv (valO S n) := by omega
  have b2 : tv (valO S n) < 4611686018427387904 := by omega
  refine ⟨m', kvs', ?_, h', by omega⟩
  have eq : b_State_execute_loop = sFor (iRg (aCons (xCall 1 f_turns_of (aCons (xMeth 0 "worth" 1 f_State_worth (xVar 0) (aCons (xVar 1) aNil)) aNil)) aNil)) (gNm 3) (sFor (iAny (xVar 2)) (gNm 4) exB) := rfl
  clear h hb h' hn hp
  unfold f_State_execute_loop
  rw [eq]
  walk_at "ev"
def runB : Sx := (sIf (tBl (x2 eqG (x2 ixG (xVar 3) (xC (.int (0)))) (xC (.str "loop")))) (sEx (xMeth 0 "execute_loop" 2 f_State_execute_loop (xVar 2) (aCons (x2 ixG (xVar 3) (xC (.int (1)))) (aCons (x2 ixG (xVar 3) (xC (.int (2)))) aNil)))) (sEx (xMeth 0 "execute" 1 f_State_execute (xVar 2) (aCons (xVar 3) aNil))))
theorem runB_ok {s a b c : Nat} {m : Mem} {S : Sta} {kvs : List (Key × PV)} (h : PS m s a b c S kvs) (hb : BS S) (hl : S.O.length ≤ 500000) (hk : kvs.length ≤ 500000) {p : PV} (hp : Stm p) {x0 x1 : Option PV} :
    ∃ m' kvs', runB [x0, x1, some (.ref s), some p] m = some (.nx, [x0, x1, some (.ref s), some p], m') ∧ PS m' s a b c (stmV p S) kvs' ∧ kvs'.length ≤ kvs.length + 4000 := by
  have i1 := h.ins.2.1
  have i2 := h.ins.2.2.1
  cases hp with
  | one hi =>
    obtain ⟨m', kvs', e, h', k'⟩ := execute_ok h hb (big_lt (by omega)) (big_lt (by omega)) hi
    refine ⟨m', kvs', ?_, by rw [stm_one hi]; exact h', by omega⟩
    obtain ⟨k, rr, rfl, hk⟩ := hi.head
    clear h hb hi h'
    unfold runB
    walk_at "ev"
  | loop hn hi hps =>
    obtain ⟨m', kvs', e, h', k'⟩ := exloop_ok h hb hl hk hn hi hps
    refine ⟨m', kvs', ?_, by rw [stm_loop]; exact h', by omega⟩
    clear h hb hi h' hn
    unfold runB
    walk_at "ev"
theorem pprog_ok {s a b c : Nat} {x0 x1 : Option PV} : ∀ (ps : List PV) (m : Mem) (S : Sta) (kvs : List (Key × PV)) (x3 : Option PV), PS m s a b c S kvs → BS S → (∀ p ∈ ps, Stm p) → S.O.length + 4000 * ps.length ≤ 500000 → kvs.length + 4000 * ps.length ≤ 500000 →
    ∃ m' kvs' y3, forL (gNm 3) runB [] ps [x0, x1, some (.ref s), x3] m = some (.nx, [x0, x1, some (.ref s), y3], m') ∧ PS m' s a b c (progV ps S) kvs'
  | [], m, S, kvs, x3, h, hb, hp, hl, hk => ⟨m, kvs, x3, rfl, h⟩
  | p :: ps, m, S, kvs, x3, h, hb, hp, hl, hk => by
    rw [List.length_cons] at hl hk
    have hi := hp p List.mem_cons_self
    obtain ⟨m1, kvs1, e1, h1, k1⟩ := runB_ok h hb (by omega) (by omega) hi (x0 := x0) (x1 := x1)
    have := stm_len (S := S) hi
    obtain ⟨m2, kvs2, z3, e2, h2⟩ := pprog_ok (x0 := x0) (x1 := x1) ps m1 (stmV p S) kvs1 (some p) h1 (stm_bs hb hi) (fun q hq => hp q (List.mem_cons_of_mem _ hq)) (by omega) (by omega)
    refine ⟨m2, kvs2, z3, ?_, h2⟩
    rw [e_forC, e_nm, Option.bind_some]
    simp only [List.set_cons_succ, List.set_cons_zero, e1, Option.bind_some, okG_nil, if_true]
    exact e2
theorem prog_bs : ∀ {ps : List PV} {S : Sta}, BS S → (∀ p ∈ ps, Stm p) → BS (progV ps S)
  | [], S, h, _ => h
  | p :: ps, S, h, hp => prog_bs (ps := ps) (stm_bs h (hp p List.mem_cons_self)) fun q hq => hp q (List.mem_cons_of_mem _ hq)
theorem prog_len : ∀ {ps : List PV} {S : Sta}, (∀ p ∈ ps, Stm p) → (progV ps S).O.length ≤ S.O.length + 4000 * ps.length
  | [], S, _ => Nat.le_refl _
  | p :: ps, S, hp => by
    have h1 := prog_len (ps := ps) (S := stmV p S) fun q hq => hp q (List.mem_cons_of_mem _ hq)
    have h2 := stm_len (S := S) (hp p List.mem_cons_self)
    rw [List.length_cons]
    show (progV ps (stmV p S)).O.length ≤ _
    omega
/-! the beginnings -/
def R0 (ps : List PV) : Nat → Int := fun k => match ps[k]? with
  | some (.int n) => n
  | _ => 0
def S0 (ps : List PV) : Sta := ⟨R0 ps, fun _ => 0, []⟩
theorem S0_bs {ps : List PV} (h : ∀ p ∈ ps, ∃ n, p = .int n ∧ Bd n) : BS (S0 ps) := by
  refine ⟨fun k => ?_, fun k => by show Bd 0; unfold Bd; omega⟩
  show Bd (R0 ps k)
  unfold R0
  split
  · rename_i n e
    obtain ⟨n', e1, e2⟩ := h _ (List.mem_of_getElem? e)
    cases e1
    exact e2
  · unfold Bd; omega
theorem flat_one (n : Nat) (x : PV) : (List.replicate n [x]).flatten = List.replicate n x := by
  induction n with
  | zero => rfl
  | succ n ih => rw [List.replicate_succ, List.flatten_cons, ih]; rfl
theorem regs_eq {ps : List PV} (h : ∀ p ∈ ps, ∃ n, p = .int n ∧ Bd n) (hl : ps.length ≤ 16) : ps ++ (List.replicate (16 - (ps.length : Int)).toNat [PV.int 0]).flatten = ls (R0 ps) := by
  rw [flat_one]
  apply List.ext_getElem?
  intro k
  by_cases hk : k < ps.length
  · rw [List.getElem?_append_left hk, ls_get (by omega)]
    obtain ⟨n, e1, e2⟩ := h ps[k] (List.getElem_mem hk)
    unfold R0
    rw [List.getElem?_eq_getElem hk, e1]
  · rw [List.getElem?_append_right (by omega), List.getElem?_replicate]
    by_cases h16 : k < 16
    · rw [if_pos (by omega), ls_get h16]
      unfold R0
      rw [List.getElem?_eq_none (by omega)]
    · rw [if_neg (by omega), List.getElem?_eq_none (by rw [ls_len]; omega)]
theorem zeros_eq : (List.replicate (16 : Int).toNat [PV.int 0]).flatten = ls (fun _ => 0) := by rw [flat_one]; rfl
theorem begin_ok {ps : List PV} (h : ∀ p ∈ ps, ∃ n, p = .int n ∧ Bd n) (hl : ps.length ≤ 16) (m : Mem) : ∃ q m', f_law_begin [.tup ps] m = some (.ref q, m') ∧ ∃ r c o, m'[q]? = some (.lst [.ref r, .ref c, .ref o]) ∧ LS m' r c o (S0 ps) := by
  have hc : cutP ps none (some 16) = ps := by
    have := cut_pre ps 16
    rw [List.take_of_length_le hl] at this
    exact this
  have hre := regs_eq h hl
  have hz : [[PV.int 0], [PV.int 0], [PV.int 0], [PV.int 0], [PV.int 0], [PV.int 0], [PV.int 0], [PV.int 0], [PV.int 0], [PV.int 0], [PV.int 0], [PV.int 0], [PV.int 0], [PV.int 0], [PV.int 0], [PV.int 0]].flatten = ls (fun _ => 0) := rfl
  have z0 : 0 ≤ PySem.sizeLine := Nat.zero_le _
  have z1 := one_le
  have z3 := three_le
  have b1 : -9223372036854775808 ≤ 16 - (ps.length : Int) := by omega
  have b2 : 16 - (ps.length : Int) < 9223372036854775808 := by omega
  have b3 : 1 * (16 - (ps.length : Int)).toNat ≤ PySem.sizeLine := by have := small_le (n := 1 * (16 - (ps.length : Int)).toNat) (by omega); omega
  have b4 : 1 * (16 : Nat) ≤ PySem.sizeLine := by decide
  have b5 : ps.length + ((List.replicate (16 - (ps.length : Int)).toNat [PV.int 0]).flatten).length ≤ PySem.sizeLine := by
    have := congrArg List.length hre
    rw [List.length_append, ls_len] at this
    rw [this]
    decide
  clear h
  refine ⟨m.length + 8, m ++ [.lst ps, .lst ps, .lst [.int 0], .lst (List.replicate (16 - (ps.length : Int)).toNat [PV.int 0]).flatten, .lst (ls (R0 ps)), .lst [.int 0], .lst (ls fun _ => 0), .lst [], .lst [.ref (m.length + 4), .ref (m.length + 6), .ref (m.length + 7)]], ?_, m.length + 4, m.length + 6, m.length + 7, by rw [gapp]; rfl, by omega, by omega, by omega, by rw [gapp]; rfl, by rw [gapp]; rfl, by rw [gapp]; rfl⟩
  unfold f_law_begin b_law_begin
  (walk_at "ev2") <;> rfl
end Gen
end

section
set_option maxRecDepth 100000
set_option linter.all false
set_option Elab.async false
namespace Gen
open Rf L2
local macro_rules | `(tactic| walk_at "ev") => `(tactic| simp only [e_var, xLcP_nm, maxL_two, notNG, reduceCtorEq, decide_false, Bool.not_false, if_true, e_c, e_1, e_2, e_A, e_aNil, e_aCons, e_call, e_bl, e_tru, e_nt, e_an, e_or, e_ys, e_xnt, e_xan, e_xor, e_xif, e_oNone, e_oSome, e_sl, e_nx, e_brk, e_cnt, e_sq, e_ex, e_rt, e_rn, e_if, e_as, e_nm, e_gix, e_gsNil, e_gsCons, e_gseqT, e_gseqR, e_fd, e_for, e_any, e_rg, e_en, e_zp, e_lc, e_m, e_get, e_meth, e_make, e_fn, ix_int, ix_t, ix_r, set_r, atI_at, ixN_0, ixN_1, ixN_2, ixN_3, mod_ok, sne, strb, snb, e_fld, okG_1, andG, minG, maxG, List.lookup_cons, rngG, okG_nil, tupleG, listG, itemsB, PX_nog, PX_wipe, 
  startE, addG, subG, mulG, divG, modG, powG, cmpG, ltG, leG, gtG, geG, intG, lenG, lenB, eqG, eqB, neG, truG, tupG, lstG, negG, Option.bind_some, Option.bind_none, Option.map_some, Option.map_none, List.map_cons, List.map_nil, List.length_cons, List.length_nil, List.length_map, List.length_set, List.replicate, List.cons_append, List.nil_append, List.getElem?_cons_zero, List.getElem?_cons_succ, List.set_cons_zero, List.set_cons_succ, List.set_set, List.getElem?_set_self, List.getElem?_set_ne, ne_eq, not_false_eq_true, Nat.reduceAdd, Nat.reduceSub, Nat.reduceEqDiff, Nat.reduceLeDiff, Nat.reduceLT, Nat.reducePow, Int.reducePow, Int.reduceNeg, Int.reduceLT, Int.reduceLE, Int.reduceToNat, nab10, and_self, or_true, true_or, true_and, and_true, ↓reduceIte, Nat.add_zero, Nat.zero_add, Nat.sub_self, decide_eq_true_eq, decide_true, decide_false, Bool.false_eq_true, Bool.not_true, Bool.not_false, *])
local macro_rules | `(tactic| walk_at "ev2") => `(tactic| simp only [List.append_assoc, List.length_append, gapp, gapp0, putFP, mulG, slG, e_var, xLcP_nm, maxL_two, notNG, reduceCtorEq, decide_false, Bool.not_false, if_true, e_c, e_1, e_2, e_A, e_aNil, e_aCons, e_call, e_bl, e_tru, e_nt, e_an, e_or, e_ys, e_xnt, e_xan, e_xor, e_xif, e_oNone, e_oSome, e_sl, e_nx, e_brk, e_cnt, e_sq, e_ex, e_rt, e_rn, e_if, e_as, e_nm, e_gix, e_gsNil, e_gsCons, e_gseqT, e_gseqR, e_fd, e_for, e_any, e_rg, e_en, e_zp, e_lc, e_m, e_get, e_meth, e_make, e_fn, ix_int, ix_t, ix_r, set_r, atI_at, ixN_0, ixN_1, ixN_2, ixN_3, mod_ok, sne, strb, snb, e_fld, okG_1, andG, minG, maxG, List.lookup_cons, rngG, okG_nil, tupleG, listG, itemsB, PX_nog, PX_wipe, 
  startE, addG, subG, mulG, divG, modG, powG, cmpG, ltG, leG, gtG, geG, intG, lenG, lenB, eqG, eqB, neG, truG, tupG, lstG, negG, Option.bind_some, Option.bind_none, Option.map_some, Option.map_none, List.map_cons, List.map_nil, List.length_cons, List.length_nil, List.length_map, List.length_set, List.replicate, List.cons_append, List.nil_append, List.getElem?_cons_zero, List.getElem?_cons_succ, List.set_cons_zero, List.set_cons_succ, List.set_set, List.getElem?_set_self, List.getElem?_set_ne, ne_eq, not_false_eq_true, Nat.reduceAdd, Nat.reduceSub, Nat.reduceEqDiff, Nat.reduceLeDiff, Nat.reduceLT, Nat.reducePow, Int.reducePow, Int.reduceNeg, Int.reduceLT, Int.reduceLE, Int.reduceToNat, nab10, and_self, or_true, true_or, true_and, and_true, ↓reduceIte, Nat.add_zero, Nat.zero_add, Nat.sub_self, decide_eq_true_eq, decide_true, decide_false, Bool.false_eq_true, Bool.not_true, Bool.not_false, *])
theorem enD_val : ∀ (ps : List PV) (i k : Nat), i ≤ k → valP (enD i ps) (.inl (k : Int)) = ps[k - i]?
  | [], i, k, h => by simp [enD, valP]
  | p :: ps, i, k, h => by
    unfold enD valP
    rw [List.find?_cons]
    by_cases e : i = k
    · subst e
      simp
    · have e1 : ¬ (Sum.inl (i : Int) : Key) = Sum.inl (k : Int) := fun z => e (by have := Sum.inl.inj z; omega)
      have ih := enD_val ps (i + 1) k (by omega)
      unfold valP at ih
      simp only [e1, decide_false]
      rw [ih]
      have e2 : k - i = (k - (i + 1)) + 1 := by omega
      rw [e2, List.getElem?_cons_succ]
theorem enD_len : ∀ (ps : List PV) (i : Nat), (enD i ps).length = ps.length
  | [], _ => rfl
  | p :: ps, i => by simp [enD, enD_len ps]
theorem RD0 {ps : List PV} (h : ∀ p ∈ ps, ∃ n, p = .int n ∧ Bd n) : RD (enD 0 ps) (R0 ps) := fun k => by
  rw [enD_val ps 0 k (Nat.zero_le _), Nat.sub_zero]
  unfold R0
  cases e : ps[k]? with
  | none => rfl
  | some p =>
    obtain ⟨n, rfl, _⟩ := h p (List.mem_of_getElem? e)
    rfl
theorem init_ok {ps : List PV} (h : ∀ p ∈ ps, ∃ n, p = .int n ∧ Bd n) (m : Mem) : ∃ m', f_State_init [.ref m.length, .tup ps] (m ++ [.ins 0 []]) = some (.non, m') ∧ PS m' m.length (m.length + 1) (m.length + 3) (m.length + 4) (S0 ps) (enD 0 ps) := by
  have z0 : 0 ≤ PySem.sizeLine := Nat.zero_le _
  have z1 := one_le
  have b4 : 1 * (16 : Nat) ≤ PySem.sizeLine := by decide
  have hz : [[PV.int 0], [PV.int 0], [PV.int 0], [PV.int 0], [PV.int 0], [PV.int 0], [PV.int 0], [PV.int 0], [PV.int 0], [PV.int 0], [PV.int 0], [PV.int 0], [PV.int 0], [PV.int 0], [PV.int 0], [PV.int 0]].flatten = ls (fun _ => 0) := rfl
  have hd : ∀ mm : Mem, dictEnG (.tup ps) mm = some (.ref mm.length, mm ++ [.dic (enD 0 ps)]) := fun _ => rfl
  have s0 : ∀ (l : Mem) (o o' : Ob), (m ++ o :: l).set m.length o' = m ++ o' :: l := fun l o o' => by
    rw [List.set_append_right _ _ (Nat.le_refl _), Nat.sub_self]; rfl
  have hR := RD0 h
  clear h
  refine ⟨m ++ [.ins 0 [("registers", .ref (m.length + 1)), ("cells", .ref (m.length + 3)), ("outputs", .ref (m.length + 4))], .dic (enD 0 ps), .lst [.int 0], .lst (ls fun _ => 0), .lst []], ?_, by omega, by omega, by omega, by omega, by omega, by omega, by rw [gapp0]; rfl, by rw [gapp]; rfl, by rw [gapp]; rfl, by rw [gapp]; rfl, hR⟩
  unfold f_State_init b_State_init
  (walk_at "ev2") <;> rfl
/-- a comprehension whose step leaves the store as it is, where I stands -/
theorem lc_pureI {sl D : Nat} {te : Ex} {f : PV → PV} {Q : PV → Prop} {I : Mem → Prop} {env : Env} (hte : ∀ (p : PV) (m : Mem), Q p → I m → te (env.set sl (some p)) m = some (f p, m)) (hI : ∀ (m : Mem) (o : Ob), I m → I (m.set D o)) :
    ∀ (items : List PV) (m : Mem) (acc : List PV), (∀ p ∈ items, Q p) → I m → m[D]? = some (.lst acc) → acc.length + items.length < PySem.sizeLine →
      lcL sl tYs te [] D env items m acc = some (acc ++ items.map f, m.set D (.lst (acc ++ items.map f)))
  | [], m, acc, h1, h2, h3, h4 => by
    unfold lcL
    rw [List.map_nil, List.append_nil]
    congr 2
    apply List.ext_getElem?
    intro k
    by_cases hk : k = D
    · subst hk; rw [List.getElem?_set_self (List.getElem?_eq_some_iff.mp h3).1, h3]
    · rw [List.getElem?_set_ne (Ne.symm hk)]
  | p :: items, m, acc, h1, h2, h3, h4 => by
    rw [List.length_cons] at h4
    have hD := (List.getElem?_eq_some_iff.mp h3).1
    have ih := lc_pureI hte hI items (m.set D (.lst (acc ++ [f p]))) (acc ++ [f p]) (fun q hq => h1 q (List.mem_cons_of_mem _ hq)) (hI _ _ h2) (by rw [List.getElem?_set_self hD]) (by rw [List.length_append, List.length_singleton]; omega)
    unfold lcL
    simp only [tYs, Option.bind_some, if_true]
    rw [hte p m (h1 p List.mem_cons_self) h2, Option.bind_some, if_pos ⟨rfl, h3, by omega⟩]
    rw [ih, List.set_set]
    simp
def told (S : Sta) : PV := .tup [.tup (S.O.map PV.int), .tup (ls S.R), .tup (ls S.C)]
theorem told_ok {m : Mem} {s a b c : Nat} {S : Sta} {kvs : List (Key × PV)} (h : PS m s a b c S kvs) : ∃ m', f_State_told [.ref s] m = some (told S, m') := by
  have ls0 := (List.getElem?_eq_some_iff.mp h.I).1
  have la := (List.getElem?_eq_some_iff.mp h.D).1
  have lb := (List.getElem?_eq_some_iff.mp h.C).1
  have lc := (List.getElem?_eq_some_iff.mp h.O).1
  have z3 := three_le
  let f : PV → PV := fun p => match p with
    | .int k => .int (S.R k.toNat)
    | _ => .non
  have hf : (rangeP 0 16).map f = ls S.R := rfl
  have e := lc_pureI (sl := 2) (D := m.length) (te := xGet (x1 (fldG 0 "registers") (xVar 0)) (xVar 2) (xC (.int (0)))) (f := f) (Q := fun p => ∃ k : Nat, p = .int (k : Int)) (I := fun m' => m'[s]? = some (.ins 0 [("registers", .ref a), ("cells", .ref b), ("outputs", .ref c)]) ∧ m'[a]? = some (.dic kvs) ∧ m'[b]? = some (.lst (ls S.C)) ∧ m'[c]? = some (.lst (S.O.map PV.int)))
    (env := [some (.ref s), none, none]) (fun p mm ⟨k, hp⟩ ⟨q1, q2, q3, q4⟩ => by
      subst hp
      have dB : dicB (.ref a) mm = some kvs := by simp only [dicB, q2]
      have kO : keyOf (.int (k : Int)) = some (.inl (k : Int)) := rfl
      have g : (valP kvs (.inl (k : Int))).getD (.int 0) = .int (S.R k) := h.R k
      have fk : f (.int (k : Int)) = .int (S.R k) := by show PV.int (S.R (k : Int).toNat) = _; rw [Int.toNat_natCast]
      rw [fk]
      clear h fk
      walk_at "ev"
      simp only [Option.isSome_some, if_true, Option.bind_some, Option.map_some, e_c, dB, kO, g])
    (fun mm o ⟨q1, q2, q3, q4⟩ => by
      have ne : ∀ k, k < m.length → (mm.set m.length o)[k]? = mm[k]? := fun k hk => List.getElem?_set_ne (by omega)
      exact ⟨(ne _ ls0).trans q1, (ne _ la).trans q2, (ne _ lb).trans q3, (ne _ lc).trans q4⟩)
    (rangeP 0 16) (m ++ [.lst []]) [] (by unfold rangeP; intro p hp; obtain ⟨k, _, rfl⟩ := List.mem_map.mp hp; exact ⟨k, by rw [Int.zero_add]⟩)
    (by
      have ap : ∀ k, k < m.length → (m ++ [Ob.lst []])[k]? = m[k]? := fun k hk => List.getElem?_append_left hk
      exact ⟨(ap _ ls0).trans h.I, (ap _ la).trans h.D, (ap _ lb).trans h.C, (ap _ lc).trans h.O⟩) gapp0 (by rw [rangeP_len]; decide)
  rw [hf, List.nil_append] at e
  have hset : (m ++ [Ob.lst []]).set m.length (.lst (ls S.R)) = m ++ [.lst (ls S.R)] := by rw [List.set_append_right _ _ (Nat.le_refl _), Nat.sub_self]; rfl
  rw [hset] at e
  have ap : ∀ k, k < m.length → (m ++ [Ob.lst (ls S.R)])[k]? = m[k]? := fun k hk => List.getElem?_append_left hk
  have q1 := (ap _ ls0).trans h.I
  have q2 := (ap _ la).trans h.D
  have q3 := (ap _ lb).trans h.C
  have q4 := (ap _ lc).trans h.O
  have q5 : (m ++ [Ob.lst (ls S.R)])[m.length]? = some (.lst (ls S.R)) := gapp0
  refine ⟨m ++ [.lst (ls S.R)], ?_⟩
  clear h ap
  unfold f_State_told b_State_told told
  walk_at "ev"
theorem run_ok {prog ins : List PV} (hp : ∀ p ∈ prog, Stm p) (hl : prog.length ≤ 12) (hi : ∀ p ∈ ins, ∃ n, p = .int n ∧ Bd n) (hil : ins.length ≤ 16) (m : Mem) : ∃ m', f_run [.tup prog, .tup ins] m = some (told (progV prog (S0 ins)), m') := by
  obtain ⟨m1, e1, h1⟩ := init_ok hi m
  obtain ⟨m2, kvs2, y3, e2, h2⟩ := pprog_ok (x0 := some (.tup prog)) (x1 := some (.tup ins)) prog m1 (S0 ins) (enD 0 ins) none h1 (S0_bs hi) hp (by show 0 + _ ≤ _; omega) (by rw [enD_len]; omega)
  obtain ⟨m3, e3⟩ := told_ok h2
  have i1 := h2.ins.2.2.2
  have ha : anyQ (.tup prog) m1 = some ⟨prog, []⟩ := rfl
  have eq : b_run = sSq (sAs (xMake 0 1 f_State_init (aCons (xVar 1) aNil)) (gNm 2)) (sSq (sFor (iAny (xVar 0)) (gNm 3) runB) (sRt (xMeth 0 "told" 0 f_State_told (xVar 2) aNil))) := rfl
  refine ⟨m3, ?_⟩
  clear h1 h2 hp hi
  unfold f_run
  rw [eq]
  walk_at "ev"
theorem law_run_ok {prog ins : List PV} (hp : ∀ p ∈ prog, Stm p) (hl : prog.length ≤ 12) (hi : ∀ p ∈ ins, ∃ n, p = .int n ∧ Bd n) (hil : ins.length ≤ 16) (m : Mem) : ∃ m', f_law_run [.tup prog, .tup ins] m = some (told (progV prog (S0 ins)), m') := by
  obtain ⟨q, m1, e1, r, c, o, hq, h1⟩ := begin_ok hi hil m
  obtain ⟨m2, y2, y6, y7, y8, y9, e2, h2⟩ := lprog_ok (x0 := some (.tup prog)) (x1 := some (.tup ins)) prog m1 (S0 ins) none none none none none h1 (S0_bs hi) hp (by show 0 + _ ≤ _; omega)
  have hR := h2.R
  have hC := h2.C
  have hO := h2.O
  have z3 := three_le
  have ha : anyQ (.tup prog) m1 = some ⟨prog, []⟩ := rfl
  have eq : b_law_run = sSq (sAs (xCall 1 f_law_begin (aCons (xVar 1) aNil)) (gSq 3 (gsCons (gNm 3) (gsCons (gNm 4) (gsCons (gNm 5) gsNil))))) (sSq (sFor (iAny (xVar 0)) (gNm 2) stmB) (sRt (xA tupG (aCons (xA tupleG (aCons (xVar 5) aNil)) (aCons (xA tupleG (aCons (xVar 3) aNil)) (aCons (xA tupleG (aCons (xVar 4) aNil)) aNil)))))) := rfl
  refine ⟨m2, ?_⟩
  clear h1 h2 hp hi
  unfold f_law_run
  rw [eq]
  unfold told
  walk_at "ev"
/-! whole numbers alone -/
theorem k_int_tuple : kitB "int" "tuple" = some false := by decide +kernel
theorem k_int_int : kitB "int" "int" = some true := by decide +kernel
theorem k_int_bool : kitB "int" "bool" = some false := by decide +kernel
theorem k_tuple_tuple : kitB "tuple" "tuple" = some true := by decide +kernel
theorem whole_ok (n : Int) (m : Mem) : f_law_whole [.int n] m = some (.bl true, m) := by
  have h1 : isG "int" (.int n) m = some (.bl true, m) := by unfold isG tyN; simp only [Option.bind_some, k_int_int, Option.map_some]
  have h2 : isG "bool" (.int n) m = some (.bl false, m) := by unfold isG tyN; simp only [Option.bind_some, k_int_bool, Option.map_some]
  unfold f_law_whole b_law_whole
  walk_at "ev"
theorem whole_int (k : Nat) (n : Int) (m : Mem) : f_law_all_whole_ (k + 1) [.int n] m = some (.bl true, m) := by
  have h1 : isG "tuple" (.int n) m = some (.bl false, m) := by unfold isG tyN; simp only [Option.bind_some, k_int_tuple, Option.map_some]
  have h2 := whole_ok n m
  unfold f_law_all_whole_ b_law_all_whole
  walk_at "ev"
theorem bls_true (n : Nat) : blsP (List.replicate n (.bl true)) = some (List.replicate n true) := by
  induction n with
  | zero => rfl
  | succ n ih => rw [List.replicate_succ, List.replicate_succ]; unfold blsP; rw [ih]; rfl
theorem all_true (n : Nat) : (List.replicate n true).all id = true := by
  induction n with
  | zero => rfl
  | succ n ih => rw [List.replicate_succ, List.all_cons, ih]; rfl
/-- a comprehension whose step lets the store grow -/
theorem lc_grow {sl D : Nat} {te : Ex} {Q : PV → Prop} {env : Env} (hte : ∀ (p : PV) (m : Mem), Q p → ∃ l, te (env.set sl (some p)) m = some (.bl true, m ++ l)) :
    ∀ (items : List PV) (m : Mem) (acc : List PV), (∀ p ∈ items, Q p) → m[D]? = some (.lst acc) → acc.length + items.length < PySem.sizeLine →
      ∃ m', lcL sl tYs te [] D env items m acc = some (acc ++ List.replicate items.length (.bl true), m') ∧ m'[D]? = some (.lst (acc ++ List.replicate items.length (.bl true)))
  | [], m, acc, h1, h3, h4 => ⟨m, by unfold lcL; simp, by simpa using h3⟩
  | p :: items, m, acc, h1, h3, h4 => by
    rw [List.length_cons] at h4
    obtain ⟨l, e1⟩ := hte p m (h1 p List.mem_cons_self)
    have hD := (List.getElem?_eq_some_iff.mp h3).1
    have h3' : (m ++ l)[D]? = some (.lst acc) := by rw [List.getElem?_append_left hD]; exact h3
    obtain ⟨m', e2, g2⟩ := lc_grow hte items ((m ++ l).set D (.lst (acc ++ [.bl true]))) (acc ++ [.bl true]) (fun q hq => h1 q (List.mem_cons_of_mem _ hq)) (by rw [List.getElem?_set_self (by rw [List.length_append]; omega)]) (by rw [List.length_append, List.length_singleton]; omega)
    have er : acc ++ List.replicate (p :: items).length (PV.bl true) = acc ++ [.bl true] ++ List.replicate items.length (.bl true) := by
      rw [List.length_cons, List.replicate_succ]; simp
    rw [er]
    refine ⟨m', ?_, g2⟩
    unfold lcL
    simp only [tYs, Option.bind_some, if_true]
    rw [e1, Option.bind_some, if_pos ⟨rfl, h3', by omega⟩]
    exact e2
theorem whole_tup (k : Nat) {Q : PV → Prop} (hQ : ∀ (p : PV) (m : Mem), Q p → ∃ l, f_law_all_whole_ (k + 1) [p] m = some (.bl true, m ++ l)) (ps : List PV) (hps : ∀ p ∈ ps, Q p) (hl : ps.length ≤ 1000000) (m : Mem) : ∃ m', f_law_all_whole_ (k + 2) [.tup ps] m = some (.bl true, m') := by
  have h1 : isG "tuple" (.tup ps) m = some (.bl true, m) := by unfold isG tyN; simp only [Option.bind_some, k_tuple_tuple, Option.map_some]
  have ha : anyQ (.tup ps) m = some ⟨ps, []⟩ := rfl
  obtain ⟨m', e, g⟩ := lc_grow (sl := 1) (D := m.length) (te := xCall 1 (f_law_all_whole_ (k + 1)) (aCons (xVar 1) aNil)) (env := [some (.tup ps), none]) (fun p mm hp => by
    obtain ⟨l, e⟩ := hQ p mm hp
    exact ⟨l, by walk_at "ev"⟩) ps (m ++ [.lst []]) [] hps gapp0 (by rw [List.length_nil, Nat.zero_add]; exact big_lt hl)
  rw [List.nil_append] at e g
  have ag : allG [.ref m.length] m' = some (.bl true, m') := by
    unfold allG lstB
    simp only [g, Option.bind_some, bls_true, Option.map_some, all_true]
  refine ⟨m', ?_⟩
  unfold f_law_all_whole_ b_law_all_whole
  walk_at "ev"
end Gen
end

section
set_option maxRecDepth 100000
set_option linter.all false
set_option Elab.async false
namespace Gen
open Rf L2
local macro_rules | `(tactic| walk_at "ev") => `(tactic| simp only [e_var, xLcP_nm, maxL_two, notNG, reduceCtorEq, decide_false, Bool.not_false, if_true, e_c, e_1, e_2, e_A, e_aNil, e_aCons, e_call, e_bl, e_tru, e_nt, e_an, e_or, e_ys, e_xnt, e_xan, e_xor, e_xif, e_oNone, e_oSome, e_sl, e_nx, e_brk, e_cnt, e_sq, e_ex, e_rt, e_rn, e_if, e_as, e_nm, e_gix, e_gsNil, e_gsCons, e_gseqT, e_gseqR, e_fd, e_for, e_any, e_rg, e_en, e_zp, e_lc, e_m, e_get, e_meth, e_make, e_fn, ix_int, ix_t, ix_r, set_r, atI_at, ixN_0, ixN_1, ixN_2, ixN_3, mod_ok, sne, strb, snb, e_fld, okG_1, andG, minG, maxG, List.lookup_cons, rngG, okG_nil, tupleG, listG, itemsB, PX_nog, PX_wipe, 
  startE, addG, subG, mulG, divG, modG, powG, cmpG, ltG, leG, gtG, geG, intG, lenG, lenB, eqG, eqB, neG, truG, tupG, lstG, negG, Option.bind_some, Option.bind_none, Option.map_some, Option.map_none, List.map_cons, List.map_nil, List.length_cons, List.length_nil, List.length_map, List.length_set, List.replicate, List.cons_append, List.nil_append, List.getElem?_cons_zero, List.getElem?_cons_succ, List.set_cons_zero, List.set_cons_succ, List.set_set, List.getElem?_set_self, List.getElem?_set_ne, ne_eq, not_false_eq_true, Nat.reduceAdd, Nat.reduceSub, Nat.reduceEqDiff, Nat.reduceLeDiff, Nat.reduceLT, Nat.reducePow, Int.reducePow, Int.reduceNeg, Int.reduceLT, Int.reduceLE, Int.reduceToNat, nab10, and_self, or_true, true_or, true_and, and_true, ↓reduceIte, Nat.add_zero, Nat.zero_add, Nat.sub_self, decide_eq_true_eq, decide_true, decide_false, Bool.false_eq_true, Bool.not_true, Bool.not_false, *])
local macro_rules | `(tactic| walk_at "ev2") => `(tactic| simp only [List.append_assoc, List.length_append, gapp, gapp0, putFP, mulG, slG, e_var, xLcP_nm, maxL_two, notNG, reduceCtorEq, decide_false, Bool.not_false, if_true, e_c, e_1, e_2, e_A, e_aNil, e_aCons, e_call, e_bl, e_tru, e_nt, e_an, e_or, e_ys, e_xnt, e_xan, e_xor, e_xif, e_oNone, e_oSome, e_sl, e_nx, e_brk, e_cnt, e_sq, e_ex, e_rt, e_rn, e_if, e_as, e_nm, e_gix, e_gsNil, e_gsCons, e_gseqT, e_gseqR, e_fd, e_for, e_any, e_rg, e_en, e_zp, e_lc, e_m, e_get, e_meth, e_make, e_fn, ix_int, ix_t, ix_r, set_r, atI_at, ixN_0, ixN_1, ixN_2, ixN_3, mod_ok, sne, strb, snb, e_fld, okG_1, andG, minG, maxG, List.lookup_cons, rngG, okG_nil, tupleG, listG, itemsB, PX_nog, PX_wipe, 
  startE, addG, subG, mulG, divG, modG, powG, cmpG, ltG, leG, gtG, geG, intG, lenG, lenB, eqG, eqB, neG, truG, tupG, lstG, negG, Option.bind_some, Option.bind_none, Option.map_some, Option.map_none, List.map_cons, List.map_nil, List.length_cons, List.length_nil, List.length_map, List.length_set, List.replicate, List.cons_append, List.nil_append, List.getElem?_cons_zero, List.getElem?_cons_succ, List.set_cons_zero, List.set_cons_succ, List.set_set, List.getElem?_set_self, List.getElem?_set_ne, ne_eq, not_false_eq_true, Nat.reduceAdd, Nat.reduceSub, Nat.reduceEqDiff, Nat.reduceLeDiff, Nat.reduceLT, Nat.reducePow, Int.reducePow, Int.reduceNeg, Int.reduceLT, Int.reduceLE, Int.reduceToNat, nab10, and_self, or_true, true_or, true_and, and_true, ↓reduceIte, Nat.add_zero, Nat.zero_add, Nat.sub_self, decide_eq_true_eq, decide_true, decide_false, Bool.false_eq_true, Bool.not_true, Bool.not_false, *])

/-! the told triple is equal to itself -/
theorem data_ints : ∀ xs : List Int, ∃ ds, toDs (xs.map PV.int) = some ds ∧ PySem.PyData.canLayAll0 ds = true ∧ PySem.PyData.depthAll ds = 0
  | [] => ⟨[], by simp only [List.map_nil]; rw [toDs], by simp only [PySem.PyData.canLayAll0], by simp only [PySem.PyData.depthAll]⟩
  | x :: xs => by
    obtain ⟨ds, e, c, d⟩ := data_ints xs
    refine ⟨.int x :: ds, ?_, ?_, ?_⟩
    · rw [List.map_cons, toDs, toD, e]; rfl
    · simp only [PySem.PyData.canLayAll0, PySem.PyData.canLay0, c, Bool.and_self]
    · simp only [PySem.PyData.depthAll, PySem.PyData.depth, d, Nat.max_self]
theorem ls_map (f : Nat → Int) : ls f = ((List.range 16).map f).map PV.int := by unfold ls; rw [List.map_map]; rfl
theorem told_self (S : Sta) (m : Mem) : eqB (told S) (told S) m = some true := by
  obtain ⟨d1, e1, c1, h1⟩ := data_ints S.O
  obtain ⟨d2, e2, c2, h2⟩ := data_ints ((List.range 16).map S.R)
  obtain ⟨d3, e3, c3, h3⟩ := data_ints ((List.range 16).map S.C)
  have ed : toDm (told S) m = some (.tuple [.tuple d1, .tuple d2, .tuple d3]) := by
    unfold told toDm
    simp only [ls_map]
    rw [toD, toDs, toD, e1, toDs, toD, e2, toDs, toD, e3, toDs]
    rfl
  have c : PySem.PyData.canLay0 (.tuple [.tuple d1, .tuple d2, .tuple d3]) = true := by
    simp only [PySem.PyData.canLay0, PySem.PyData.canLayAll0, c1, c2, c3, Bool.and_self]
  have s : PySem.SeqAt.shaped (.tuple [.tuple d1, .tuple d2, .tuple d3]) = true := by
    unfold PySem.SeqAt.shaped
    rw [c]
    simp only [PySem.PyData.depth, PySem.PyData.depthAll, h1, h2, h3]
    decide
  have q : PySem.PyData.eqv (.tuple [.tuple d1, .tuple d2, .tuple d3]) (.tuple [.tuple d1, .tuple d2, .tuple d3]) = true := PySem.SeqAt.eqv_refl _ c
  have e : eqB (told S) (told S) m = (toDm (told S) m).bind fun d => (toDm (told S) m).bind fun e => if PySem.SeqAt.shaped d = true ∧ PySem.SeqAt.shaped e = true then some (PySem.PyData.eqv d e) else none := rfl
  rw [e, ed]
  simp only [Option.bind_some, s, and_self, if_true, q]
theorem whole_flat (k : Nat) {Q : PV → Prop} (hQ : ∀ (p : PV) (m : Mem), Q p → f_law_all_whole_ (k + 1) [p] m = some (.bl true, m)) (ps : List PV) (hps : ∀ p ∈ ps, Q p) (hl : ps.length ≤ 1000000) (m : Mem) : ∃ l, f_law_all_whole_ (k + 2) [.tup ps] m = some (.bl true, m ++ l) := by
  have h1 : isG "tuple" (.tup ps) m = some (.bl true, m) := by unfold isG tyN; simp only [Option.bind_some, k_tuple_tuple, Option.map_some]
  have ha : anyQ (.tup ps) m = some ⟨ps, []⟩ := rfl
  have e := lc_pureI (sl := 1) (D := m.length) (te := xCall 1 (f_law_all_whole_ (k + 1)) (aCons (xVar 1) aNil)) (f := fun _ => .bl true) (Q := Q) (I := fun _ => True) (env := [some (.tup ps), none]) (fun p mm hp _ => by
    have e := hQ p mm hp
    walk_at "ev") (fun _ _ _ => trivial) ps (m ++ [.lst []]) [] hps trivial gapp0 (by rw [List.length_nil, Nat.zero_add]; exact big_lt hl)
  have hset : (m ++ [Ob.lst []]).set m.length (.lst ([] ++ ps.map fun _ => .bl true)) = m ++ [.lst (List.replicate ps.length (.bl true))] := by
    rw [List.set_append_right _ _ (Nat.le_refl _), Nat.sub_self, List.nil_append, List.map_const']; rfl
  rw [hset] at e
  have ag : allG [.ref m.length] (m ++ [.lst (List.replicate ps.length (.bl true))]) = some (.bl true, m ++ [.lst (List.replicate ps.length (.bl true))]) := by
    unfold allG lstB
    simp only [gapp0, List.getElem?_cons_zero, Option.bind_some, bls_true, Option.map_some, all_true]
  refine ⟨[.lst (List.replicate ps.length (.bl true))], ?_⟩
  unfold f_law_all_whole_ b_law_all_whole
  walk_at "ev"
theorem whole_told {S : Sta} (h : S.O.length ≤ 1000000) (m : Mem) : ∃ m', f_law_all_whole [told S] m = some (.bl true, m') := by
  unfold f_law_all_whole told
  refine whole_tup 2 (Q := fun p => ∃ xs : List Int, p = .tup (xs.map PV.int) ∧ xs.length ≤ 1000000) (fun p m ⟨xs, hp, hl⟩ => ?_) _ ?_ (by simp) m
  · subst hp
    exact whole_flat 1 (Q := fun p => ∃ n, p = .int n) (fun p m ⟨n, hp⟩ => by subst hp; exact whole_int 1 n m) _ (fun p hp => by obtain ⟨n, _, rfl⟩ := List.mem_map.mp hp; exact ⟨n, rfl⟩) (by rw [List.length_map]; exact hl) m
  · intro p hp
    simp only [ls_map, List.mem_cons, List.not_mem_nil, or_false] at hp
    rcases hp with rfl | rfl | rfl
    · exact ⟨S.O, rfl, h⟩
    · exact ⟨_, rfl, by simp⟩
    · exact ⟨_, rfl, by simp⟩
theorem law_true (ns : List Int) (h : ns.length ≤ 63) : ∃ m, f_law [.ref 0] [.rol (ns.map PV.int)] = some (.bl true, m) := by
  obtain ⟨i, j, m1, e1, c1⟩ := start_ok h
  have c1a := c1.app (l := [.lst [.int 16, .int 3]])
  obtain ⟨d, m2, e2, l2, u2, c2, f2⟩ := take_ok c1a (many := 2) (by decide) (by decide)
  have g2 : m2[m1.length]? = some (.lst [.int 16, .int 3]) := by
    rw [f2.2 m1.length (by simp) (by have := c1.lt; omega)]; simp
  have hd : ∃ many : Int, ixG (.ref m1.length) (.int d) m2 = some (.int many, m2) ∧ 0 < many ∧ many ≤ 16 := by
    have : d = 0 ∨ d = 1 := by omega
    rcases this with rfl | rfl
    · exact ⟨16, by rw [ix_r]; simp only [g2]; rfl, by decide, by decide⟩
    · exact ⟨3, by rw [ix_r]; simp only [g2]; rfl, by decide, by decide⟩
  obtain ⟨many, e3, l3, u3⟩ := hd
  obtain ⟨prog, m4, e4, hs, hl, c4⟩ := program_ok c2 l3 u3
  obtain ⟨ins, m5, e5, hi, hil, c5, f5⟩ := inputs_ok c4
  obtain ⟨m6, e6⟩ := run_ok hs hl hi hil m5
  obtain ⟨m7, e7⟩ := law_run_ok hs hl hi hil m6
  have hO : (progV prog (S0 ins)).O.length ≤ 1000000 := by
    have := prog_len (ps := prog) (S := S0 ins) hs
    have z : (S0 ins).O.length = 0 := rfl
    omega
  have q := told_self (progV prog (S0 ins)) m7
  obtain ⟨m8, e8⟩ := whole_told hO m7
  generalize told (progV prog (S0 ins)) = T at *
  have q2 : eqG T T m7 = some (.bl true, m7) := by unfold eqG; rw [q]; rfl
  have z2 : (2 : Nat) ≤ PySem.sizeLine := by decide
  refine ⟨m8, ?_⟩
  clear hs hi c1 c1a c2 c4 c5 f2 f5 q hO
  unfold f_law b_law
  simp only [fnF, e_sq, e_as, e_nm, e_call, e_aCons, e_aNil, e_var, xLcP_nm, maxL_two, notNG, reduceCtorEq, decide_false, Bool.not_false, if_true, e_c, e_2, e_A, startE, lstG, e_rt, e_xan, Option.bind_some, Option.map_some, List.map_cons, List.map_nil, List.length_cons, List.length_nil, Nat.zero_add, Nat.reduceAdd, ↓reduceIte, e1, List.getElem?_cons_zero, List.getElem?_cons_succ, List.set_cons_zero, List.set_cons_succ, List.replicate, List.cons_append, List.nil_append, Nat.reduceSub, z2, e2, e3, e4, e5, e6, e7, e8, q2]
end Gen
end

section
set_option Elab.async false
set_option linter.all false
set_option maxRecDepth 100000
namespace Gen
open PySem PySem.Spec L2 Rf
def top (i : Nat) : Stmt := PySem.Challenge.pw_trireme_k10_plain_runs.main.body.getD i (.Pass ⟨0, 0, 0, 0⟩)
abbrev s_law_start : Stmt := (top 12)
abbrev N_law_start : List PySem.Str := ["script", "cell"]
theorem sc_law_start : FnScope N_law_start ["script"] (defScope s_law_start) := ⟨rfl, rfl, rfl, by decide +kernel, rfl, by decide +kernel, by decide +kernel⟩
abbrev s_law_value : Stmt := (top 25)
abbrev N_law_value : List PySem.Str := ["o", "regs"]
theorem sc_law_value : FnScope N_law_value ["o", "regs"] (defScope s_law_value) := ⟨rfl, rfl, rfl, by decide +kernel, rfl, by decide +kernel, by decide +kernel⟩
abbrev s_law_wrapped : Stmt := (top 23)
abbrev N_law_wrapped : List PySem.Str := ["n"]
theorem sc_law_wrapped : FnScope N_law_wrapped ["n"] (defScope s_law_wrapped) := ⟨rfl, rfl, rfl, by decide +kernel, rfl, by decide +kernel, by decide +kernel⟩
abbrev s_law_computed : Stmt := (top 24)
abbrev N_law_computed : List PySem.Str := ["kind", "a", "b", "found", "place", "k"]
theorem sc_law_computed : FnScope N_law_computed ["kind", "a", "b"] (defScope s_law_computed) := ⟨rfl, rfl, rfl, by decide +kernel, rfl, by decide +kernel, by decide +kernel⟩
abbrev s_law_results : Stmt := (top 27)
abbrev N_law_results : List PySem.Str := ["one", "regs", "cells", "outs", "kind"]
theorem sc_law_results : FnScope N_law_results ["one", "regs", "cells", "outs"] (defScope s_law_results) := ⟨rfl, rfl, rfl, by decide +kernel, rfl, by decide +kernel, by decide +kernel⟩
abbrev s_law_put : Stmt := (top 28)
abbrev N_law_put : List PySem.Str := ["results", "regs", "cells", "one"]
theorem sc_law_put : FnScope N_law_put ["results", "regs", "cells"] (defScope s_law_put) := ⟨rfl, rfl, rfl, by decide +kernel, rfl, by decide +kernel, by decide +kernel⟩
abbrev s_law_turns : Stmt := (top 26)
abbrev N_law_turns : List PySem.Str := ["n"]
theorem sc_law_turns : FnScope N_law_turns ["n"] (defScope s_law_turns) := ⟨rfl, rfl, rfl, by decide +kernel, rfl, by decide +kernel, by decide +kernel⟩
abbrev s_law_begin : Stmt := (top 29)
abbrev N_law_begin : List PySem.Str := ["inputs", "regs"]
theorem sc_law_begin : FnScope N_law_begin ["inputs"] (defScope s_law_begin) := ⟨rfl, rfl, rfl, by decide +kernel, rfl, by decide +kernel, by decide +kernel⟩
abbrev s_law_run : Stmt := (top 30)
abbrev N_law_run : List PySem.Str := ["program", "inputs", "one", "regs", "cells", "outs", "body", "many", "turn", "each"]
theorem sc_law_run : FnScope N_law_run ["program", "inputs"] (defScope s_law_run) := ⟨rfl, rfl, rfl, by decide +kernel, rfl, by decide +kernel, by decide +kernel⟩
abbrev s_law_whole : Stmt := (top 31)
abbrev N_law_whole : List PySem.Str := ["n"]
theorem sc_law_whole : FnScope N_law_whole ["n"] (defScope s_law_whole) := ⟨rfl, rfl, rfl, by decide +kernel, rfl, by decide +kernel, by decide +kernel⟩
abbrev s_law_all_whole : Stmt := (top 32)
abbrev N_law_all_whole : List PySem.Str := ["value", "part"]
theorem sc_law_all_whole : FnScope N_law_all_whole ["value"] (defScope s_law_all_whole) := ⟨rfl, rfl, rfl, by decide +kernel, rfl, by decide +kernel, by decide +kernel⟩
abbrev s_State_told : Stmt := (inClass (top 9) 6)
abbrev N_State_told : List PySem.Str := ["self", "registers", "k"]
theorem sc_State_told : FnScope N_State_told ["self"] (defScope s_State_told) := ⟨rfl, rfl, rfl, by decide +kernel, rfl, by decide +kernel, by decide +kernel⟩
abbrev s_State_worth : Stmt := (inClass (top 9) 1)
abbrev N_State_worth : List PySem.Str := ["self", "operand", "kind", "number"]
theorem sc_State_worth : FnScope N_State_worth ["self", "operand"] (defScope s_State_worth) := ⟨rfl, rfl, rfl, by decide +kernel, rfl, by decide +kernel, by decide +kernel⟩
abbrev s_turns_of : Stmt := (top 8)
abbrev N_turns_of : List PySem.Str := ["number"]
theorem sc_turns_of : FnScope N_turns_of ["number"] (defScope s_turns_of) := ⟨rfl, rfl, rfl, by decide +kernel, rfl, by decide +kernel, by decide +kernel⟩
abbrev s_State_finish : Stmt := (inClass (top 9) 3)
abbrev N_State_finish : List PySem.Str := ["self", "result", "place", "number", "content"]
theorem sc_State_finish : FnScope N_State_finish ["self", "result"] (defScope s_State_finish) := ⟨rfl, rfl, rfl, by decide +kernel, rfl, by decide +kernel, by decide +kernel⟩
abbrev s_wrap : Stmt := (top 6)
abbrev N_wrap : List PySem.Str := ["number"]
theorem sc_wrap : FnScope N_wrap ["number"] (defScope s_wrap) := ⟨rfl, rfl, rfl, by decide +kernel, rfl, by decide +kernel, by decide +kernel⟩
abbrev s_operate : Stmt := (top 7)
abbrev N_operate : List PySem.Str := ["op", "a", "b"]
theorem sc_operate : FnScope N_operate ["op", "a", "b"] (defScope s_operate) := ⟨rfl, rfl, rfl, by decide +kernel, rfl, by decide +kernel, by decide +kernel⟩
abbrev s_State_begin : Stmt := (inClass (top 9) 2)
abbrev N_State_begin : List PySem.Str := ["self", "instruction", "op", "a", "b", "cell"]
theorem sc_State_begin : FnScope N_State_begin ["self", "instruction"] (defScope s_State_begin) := ⟨rfl, rfl, rfl, by decide +kernel, rfl, by decide +kernel, by decide +kernel⟩
abbrev s_State_execute : Stmt := (inClass (top 9) 4)
abbrev N_State_execute : List PySem.Str := ["self", "instruction", "result"]
theorem sc_State_execute : FnScope N_State_execute ["self", "instruction"] (defScope s_State_execute) := ⟨rfl, rfl, rfl, by decide +kernel, rfl, by decide +kernel, by decide +kernel⟩
abbrev s_State_execute_loop : Stmt := (inClass (top 9) 5)
abbrev N_State_execute_loop : List PySem.Str := ["self", "number", "body", "_", "instruction"]
theorem sc_State_execute_loop : FnScope N_State_execute_loop ["self", "number", "body"] (defScope s_State_execute_loop) := ⟨rfl, rfl, rfl, by decide +kernel, rfl, by decide +kernel, by decide +kernel⟩
abbrev s_State_init : Stmt := (inClass (top 9) 0)
abbrev N_State_init : List PySem.Str := ["self", "inputs"]
theorem sc_State_init : FnScope N_State_init ["self", "inputs"] (defScope s_State_init) := ⟨rfl, rfl, rfl, by decide +kernel, rfl, by decide +kernel, by decide +kernel⟩
abbrev s_run : Stmt := (top 10)
abbrev N_run : List PySem.Str := ["program", "inputs", "state", "statement"]
theorem sc_run : FnScope N_run ["program", "inputs"] (defScope s_run) := ⟨rfl, rfl, rfl, by decide +kernel, rfl, by decide +kernel, by decide +kernel⟩
abbrev s_law_fill : Stmt := (top 13)
abbrev N_law_fill : List PySem.Str := ["c", "number"]
theorem sc_law_fill : FnScope N_law_fill ["c"] (defScope s_law_fill) := ⟨rfl, rfl, rfl, by decide +kernel, rfl, by decide +kernel, by decide +kernel⟩
abbrev s_law_take : Stmt := (top 14)
abbrev N_law_take : List PySem.Str := ["c", "many", "digit"]
theorem sc_law_take : FnScope N_law_take ["c", "many"] (defScope s_law_take) := ⟨rfl, rfl, rfl, by decide +kernel, rfl, by decide +kernel, by decide +kernel⟩
abbrev s_law_integer : Stmt := (top 17)
abbrev N_law_integer : List PySem.Str := ["c"]
theorem sc_law_integer : FnScope N_law_integer ["c"] (defScope s_law_integer) := ⟨rfl, rfl, rfl, by decide +kernel, rfl, by decide +kernel, by decide +kernel⟩
abbrev s_law_inputs : Stmt := (top 22)
abbrev N_law_inputs : List PySem.Str := ["c", "k"]
theorem sc_law_inputs : FnScope N_law_inputs ["c"] (defScope s_law_inputs) := ⟨rfl, rfl, rfl, by decide +kernel, rfl, by decide +kernel, by decide +kernel⟩
abbrev s_law_operand : Stmt := (top 18)
abbrev N_law_operand : List PySem.Str := ["c", "many"]
theorem sc_law_operand : FnScope N_law_operand ["c", "many"] (defScope s_law_operand) := ⟨rfl, rfl, rfl, by decide +kernel, rfl, by decide +kernel, by decide +kernel⟩
abbrev s_law_instruction : Stmt := (top 19)
abbrev N_law_instruction : List PySem.Str := ["c", "many", "kind", "place"]
theorem sc_law_instruction : FnScope N_law_instruction ["c", "many"] (defScope s_law_instruction) := ⟨rfl, rfl, rfl, by decide +kernel, rfl, by decide +kernel, by decide +kernel⟩
abbrev s_law_block : Stmt := (top 20)
abbrev N_law_block : List PySem.Str := ["c", "many", "most", "k"]
theorem sc_law_block : FnScope N_law_block ["c", "many", "most"] (defScope s_law_block) := ⟨rfl, rfl, rfl, by decide +kernel, rfl, by decide +kernel, by decide +kernel⟩
abbrev s_law_program : Stmt := (top 21)
abbrev N_law_program : List PySem.Str := ["c", "many", "most", "found", "k", "n"]
theorem sc_law_program : FnScope N_law_program ["c", "many", "most"] (defScope s_law_program) := ⟨rfl, rfl, rfl, by decide +kernel, rfl, by decide +kernel, by decide +kernel⟩
abbrev s_law : Stmt := (top 33)
abbrev N_law : List PySem.Str := ["script", "c", "program", "inputs", "told"]
theorem sc_law : FnScope N_law ["script"] (defScope s_law) := ⟨rfl, rfl, rfl, by decide +kernel, rfl, by decide +kernel, by decide +kernel⟩
structure Txt (w : World) (K : PySem.W.Frag) (mg : PySem.Str → Option Value) (cl : Nat → Addr) : Prop where
  cl0 : Cls K (cl 0)
  n0_registers : NoAttr K (cl 0) "registers"
  n0_cells : NoAttr K (cl 0) "cells"
  n0_outputs : NoAttr K (cl 0) "outputs"
  g_CELLS : ∃ t, mg "CELLS" = some (.int (16) t)
  g_LOWEST : ∃ t, mg "LOWEST" = some (.int (-2147483648) t)
  g_MODULUS : ∃ t, mg "MODULUS" = some (.int (4294967296) t)
  g_MOST_TURNS : ∃ t, mg "MOST_TURNS" = some (.int (40) t)
  g_REGISTERS : ∃ t, mg "REGISTERS" = some (.int (16) t)
  z_all : mg "all" = none
  z_bool : mg "bool" = none
  z_dict : mg "dict" = none
  z_enumerate : mg "enumerate" = none
  z_int : mg "int" = none
  z_isinstance : mg "isinstance" = none
  z_len : mg "len" = none
  z_list : mg "list" = none
  z_max : mg "max" = none
  z_min : mg "min" = none
  z_range : mg "range" = none
  z_tuple : mg "tuple" = none
section
variable {P : Program} {w : World} {K : PySem.W.Frag} {mg : PySem.Str → Option Value} {base : Heap} {cl : Nat → Addr}
theorem ok_law_start {f : Addr} {fd : FuncData} (T : Txt w K mg cl) (F : L2.Fun K "_law_start" "_law_start" s_law_start f fd)  : FnOk P w K mg base CX0 1 f fd ["script"] (SpF K cl 1 f_law_start) :=
  fn_ok (N := N_law_start) F sc_law_start rfl fun cdv A outer s H E hr =>
    (rss_one (rs_ret (rx_lst (ra_cons (rx_lcP (own := [("cell", 1)]) (g := (pNm 1)) (pat_nm (by decide)) rfl sc_law_start.nd (ri_any (rx_sl (rv 0) ro_none (ro_some rx_int))) (blkOk_by (own := [("cell", 1)]) (N := N_law_start) (sc := defScope s_law_start) (by decide +kernel)) (fun _ _ _ _ _ => (pgn 1 sc_law_start.nd)) (fun _ _ _ _ _ => rts_nil) (fun _ _ _ _ _ => (rx_callTy (id := "int") cx_int (by rfl) T.z_int (by decide +kernel) (ra_cons (rv 1) ra_nil)))) (ra_cons rx_int (ra_cons rx_int (ra_cons rx_int (ra_cons rx_int ra_nil))))))))
theorem ok_law_value {f : Addr} {fd : FuncData} (T : Txt w K mg cl) (F : L2.Fun K "_law_value" "_law_value" s_law_value f fd)  : FnOk P w K mg base CX0 1 f fd ["o", "regs"] (SpF K cl 2 f_law_value) :=
  fn_ok (N := N_law_value) F sc_law_value rfl fun cdv A outer s H E hr =>
    (rss_cons (rs_if (rt_cmp (ox_eq hr.units) (rx_ix (hu_of hr) (rv 0) rx_int (fun _ _ => rfl)) rx_str (nomark _)) (rss_one (rs_ret (rx_ix (hu_of hr) (rv 1) (rx_ix (hu_of hr) (rv 0) rx_int (fun _ _ => rfl)) (fun _ _ => rfl)))) rss_nil)
      (rss_one (rs_ret (rx_ix (hu_of hr) (rv 0) rx_int (fun _ _ => rfl)))))
theorem ok_law_wrapped {f : Addr} {fd : FuncData} (T : Txt w K mg cl) (F : L2.Fun K "_law_wrapped" "_law_wrapped" s_law_wrapped f fd)  : FnOk P w K mg base CX0 1 f fd ["n"] (SpF K cl 1 f_law_wrapped) :=
  fn_ok (N := N_law_wrapped) F sc_law_wrapped rfl fun cdv A outer s H E hr =>
    (rss_one (rs_ret (rx_bin ox_sub (rx_bin ox_mod (rx_callTy (id := "int") cx_int (by rfl) T.z_int (by decide +kernel) (ra_cons (rx_bin ox_add (rv 0) rx_int) ra_nil)) rx_int) rx_int)))
theorem ok_law_computed {f : Addr} {fd : FuncData} (T : Txt w K mg cl) (F : L2.Fun K "_law_computed" "_law_computed" s_law_computed f fd) (c_law_wrapped : C8.Cal P w K mg base 1 "_law_wrapped" (SpF K cl 1 f_law_wrapped) []) : FnOk P w K mg base CX0 2 f fd ["kind", "a", "b"] (SpF K cl 3 f_law_computed) :=
  fn_ok (N := N_law_computed) F sc_law_computed rfl fun cdv A outer s H E hr =>
    (rss_cons (rs_if (rt_cmp (ox_eq hr.units) (rv 0) rx_str (nomark _)) (rss_one (rs_ret (rx_call c_law_wrapped hr (by decide) (by rfl) (ra_cons (rx_bin ox_add (rv 1) (rv 2)) ra_nil)))) rss_nil)
      (rss_cons (rs_if (rt_cmp (ox_eq hr.units) (rv 0) rx_str (nomark _)) (rss_one (rs_ret (rx_call c_law_wrapped hr (by decide) (by rfl) (ra_cons (rx_bin ox_sub (rv 1) (rv 2)) ra_nil)))) rss_nil)
      (rss_cons (rs_if (rt_cmp (ox_eq hr.units) (rv 0) rx_str (nomark _)) (rss_one (rs_ret (rx_call c_law_wrapped hr (by decide) (by rfl) (ra_cons (rx_bin ox_mul (rv 1) (rv 2)) ra_nil)))) rss_nil)
      (rss_cons (rs_if (rt_cmp (ox_eq hr.units) (rv 0) rx_str (nomark _)) (rss_one (rs_ret (rx_callTy (id := "int") cx_int (by rfl) T.z_int (by decide +kernel) (ra_cons (rx_cmp ox_lt (rv 1) (rv 2) (nomark _)) ra_nil)))) rss_nil)
      (rss_cons (rs_set (i := 3) sc_law_computed.nd rfl (by first | exact Or.inl rfl | exact Or.inr rfl) rx_int)
      (rss_cons (rs_set (i := 4) sc_law_computed.nd rfl (by first | exact Or.inl rfl | exact Or.inr rfl) rx_int)
      (rss_cons (rs_set (i := 1) sc_law_computed.nd rfl (by first | exact Or.inl rfl | exact Or.inr rfl) (rx_bin ox_mod (rx_callTy (id := "int") cx_int (by rfl) T.z_int (by decide +kernel) (ra_cons (rv 1) ra_nil)) rx_int))
      (rss_cons (rs_set (i := 2) sc_law_computed.nd rfl (by first | exact Or.inl rfl | exact Or.inr rfl) (rx_bin ox_mod (rx_callTy (id := "int") cx_int (by rfl) T.z_int (by decide +kernel) (ra_cons (rv 2) ra_nil)) rx_int))
      (rss_cons (rs_for PassesOwn.never rfl (ri_range1 (by rfl) T.z_range rx_int) (rg_name (i := 5) sc_law_computed.nd rfl (by first | exact Or.inl rfl | exact Or.inr rfl)) (rss_cons (rs_if (rt_w (rw_and (rt_cmp (ox_eq hr.units) (rx_bin ox_mod (rx_callTy (id := "int") cx_int (by rfl) T.z_int (by decide +kernel) (ra_cons (rx_bin ox_div (rv 1) (rv 4)) ra_nil)) rx_int) rx_int (nomark _)) (rw_and1 (rt_cmp (ox_eq hr.units) (rx_bin ox_mod (rx_callTy (id := "int") cx_int (by rfl) T.z_int (by decide +kernel) (ra_cons (rx_bin ox_div (rv 2) (rv 4)) ra_nil)) rx_int) rx_int (nomark _))))) (rss_one (rs_set (i := 3) sc_law_computed.nd rfl (by first | exact Or.inl rfl | exact Or.inr rfl) (rx_bin ox_add (rv 3) (rv 4)))) rss_nil)
      (rss_one (rs_set (i := 4) sc_law_computed.nd rfl (by first | exact Or.inl rfl | exact Or.inr rfl) (rx_bin ox_mul (rv 4) rx_int)))))
      (rss_one (rs_ret (rx_call c_law_wrapped hr (by decide) (by rfl) (ra_cons (rv 3) ra_nil)))))))))))))
theorem ok_law_results {f : Addr} {fd : FuncData} (T : Txt w K mg cl) (F : L2.Fun K "_law_results" "_law_results" s_law_results f fd) (c_law_computed : C8.Cal P w K mg base 2 "_law_computed" (SpF K cl 3 f_law_computed) []) (c_law_value : C8.Cal P w K mg base 1 "_law_value" (SpF K cl 2 f_law_value) []) : FnOk P w K mg base CX0 3 f fd ["one", "regs", "cells", "outs"] (SpF K cl 4 f_law_results) :=
  fn_ok (N := N_law_results) F sc_law_results rfl fun cdv A outer s H E hr =>
    (rss_cons (rs_set (i := 4) sc_law_results.nd rfl (by first | exact Or.inl rfl | exact Or.inr rfl) (rx_ix (hu_of hr) (rv 0) rx_int (fun _ _ => rfl)))
      (rss_cons (rs_if (rt_cmp (ox_eq hr.units) (rv 4) rx_str (nomark _)) (rss_cons (rs_expr (rx_append (rv 3) (rx_call c_law_value hr (by decide) (by rfl) (ra_cons (rx_ix (hu_of hr) (rv 0) rx_int (fun _ _ => rfl)) (ra_cons (rv 1) ra_nil)))))
      (rss_one (rs_ret (rx_lst ra_nil)))) rss_nil)
      (rss_cons (rs_if (rt_cmp (ox_eq hr.units) (rv 4) rx_str (nomark _)) (rss_one (rs_ret (rx_lst (ra_cons (rx_lst (ra_cons rx_str (ra_cons (rx_bin ox_mod (rx_callTy (id := "int") cx_int (by rfl) T.z_int (by decide +kernel) (ra_cons (rx_call c_law_value hr (by decide) (by rfl) (ra_cons (rx_ix (hu_of hr) (rv 0) rx_int (fun _ _ => rfl)) (ra_cons (rv 1) ra_nil))) ra_nil)) rx_int) (ra_cons (rx_call c_law_value hr (by decide) (by rfl) (ra_cons (rx_ix (hu_of hr) (rv 0) rx_int (fun _ _ => rfl)) (ra_cons (rv 1) ra_nil))) ra_nil)))) ra_nil)))) rss_nil)
      (rss_cons (rs_if (rt_cmp (ox_eq hr.units) (rv 4) rx_str (nomark _)) (rss_one (rs_ret (rx_lst (ra_cons (rx_lst (ra_cons rx_str (ra_cons (rx_ix (hu_of hr) (rv 0) rx_int (fun _ _ => rfl)) (ra_cons (rx_ix (hu_of hr) (rv 2) (rx_bin ox_mod (rx_callTy (id := "int") cx_int (by rfl) T.z_int (by decide +kernel) (ra_cons (rx_call c_law_value hr (by decide) (by rfl) (ra_cons (rx_ix (hu_of hr) (rv 0) rx_int (fun _ _ => rfl)) (ra_cons (rv 1) ra_nil))) ra_nil)) rx_int) (fun _ _ => rfl)) ra_nil)))) ra_nil)))) rss_nil)
      (rss_one (rs_ret (rx_lst (ra_cons (rx_lst (ra_cons rx_str (ra_cons (rx_ix (hu_of hr) (rv 0) rx_int (fun _ _ => rfl)) (ra_cons (rx_call c_law_computed hr (by decide) (by rfl) (ra_cons (rv 4) (ra_cons (rx_call c_law_value hr (by decide) (by rfl) (ra_cons (rx_ix (hu_of hr) (rv 0) rx_int (fun _ _ => rfl)) (ra_cons (rv 1) ra_nil))) (ra_cons (rx_call c_law_value hr (by decide) (by rfl) (ra_cons (rx_ix (hu_of hr) (rv 0) rx_int (fun _ _ => rfl)) (ra_cons (rv 1) ra_nil))) ra_nil)))) ra_nil)))) ra_nil))))))))
theorem ok_law_put {f : Addr} {fd : FuncData} (T : Txt w K mg cl) (F : L2.Fun K "_law_put" "_law_put" s_law_put f fd)  : FnOk P w K mg base CX0 1 f fd ["results", "regs", "cells"] (SpF K cl 3 f_law_put) :=
  fn_ok (N := N_law_put) F sc_law_put rfl fun cdv A outer s H E hr =>
    (rss_cons (rs_for PassesOwn.never rfl (ri_any (rv 0)) (rg_name (i := 3) sc_law_put.nd rfl (by first | exact Or.inl rfl | exact Or.inr rfl)) (rss_one (rs_if (rt_cmp (ox_eq hr.units) (rx_ix (hu_of hr) (rv 3) rx_int (fun _ _ => rfl)) rx_str (nomark _)) (rss_one (rs_asg (rx_ix (hu_of hr) (rv 3) rx_int (fun _ _ => rfl)) (rg_ix (hu_of hr) (rv 2) (rx_ix (hu_of hr) (rv 3) rx_int (fun _ _ => rfl))))) (rss_one (rs_asg (rx_ix (hu_of hr) (rv 3) rx_int (fun _ _ => rfl)) (rg_ix (hu_of hr) (rv 1) (rx_ix (hu_of hr) (rv 3) rx_int (fun _ _ => rfl))))))))
      (rss_one (rs_ret rx_bl)))
theorem ok_law_turns {f : Addr} {fd : FuncData} (T : Txt w K mg cl) (F : L2.Fun K "_law_turns" "_law_turns" s_law_turns f fd)  : FnOk P w K mg base CX0 1 f fd ["n"] (SpF K cl 1 f_law_turns) :=
  fn_ok (N := N_law_turns) F sc_law_turns rfl fun cdv A outer s H E hr =>
    (rss_one (rs_ret (rx_callB (id := "max") (cx_maxL rfl) (by rfl) T.z_max (by decide +kernel) (ra_cons rx_int (ra_cons (rx_callB (id := "min") (cx_min rfl) (by rfl) T.z_min (by decide +kernel) (ra_cons (rv 0) (ra_cons rx_int ra_nil))) ra_nil)))))
theorem ok_law_begin {f : Addr} {fd : FuncData} (T : Txt w K mg cl) (F : L2.Fun K "_law_begin" "_law_begin" s_law_begin f fd)  : FnOk P w K mg base CX0 1 f fd ["inputs"] (SpF K cl 1 f_law_begin) :=
  fn_ok (N := N_law_begin) F sc_law_begin rfl fun cdv A outer s H E hr =>
    (rss_cons (rs_set (i := 1) sc_law_begin.nd rfl (by first | exact Or.inl rfl | exact Or.inr rfl) (rx_sl (rx_callTy (id := "list") cx_list (by rfl) T.z_list (by decide +kernel) (ra_cons (rv 0) ra_nil)) ro_none (ro_some rx_int)))
      (rss_one (rs_ret (rx_lst (ra_cons (rx_bin ox_add (rv 1) (rx_bin ox_mul (rx_lst (ra_cons rx_int ra_nil)) (rx_bin ox_sub rx_int (rx_callB (id := "len") cx_len (by rfl) T.z_len (by decide +kernel) (ra_cons (rv 1) ra_nil))))) (ra_cons (rx_bin ox_mul (rx_lst (ra_cons rx_int ra_nil)) rx_int) (ra_cons (rx_lst ra_nil) ra_nil)))))))
theorem ok_law_run {f : Addr} {fd : FuncData} (T : Txt w K mg cl) (F : L2.Fun K "_law_run" "_law_run" s_law_run f fd) (c_law_put : C8.Cal P w K mg base 1 "_law_put" (SpF K cl 3 f_law_put) []) (c_law_results : C8.Cal P w K mg base 3 "_law_results" (SpF K cl 4 f_law_results) []) (c_law_turns : C8.Cal P w K mg base 1 "_law_turns" (SpF K cl 1 f_law_turns) []) (c_law_value : C8.Cal P w K mg base 1 "_law_value" (SpF K cl 2 f_law_value) []) (c_law_begin : C8.Cal P w K mg base 1 "_law_begin" (SpF K cl 1 f_law_begin) []) : FnOk P w K mg base CX0 4 f fd ["program", "inputs"] (SpF K cl 2 f_law_run) :=
  fn_ok (N := N_law_run) F sc_law_run rfl fun cdv A outer s H E hr =>
    (rss_cons (rs_asg (rx_call c_law_begin hr (by decide) (by rfl) (ra_cons (rv 1) ra_nil)) (rg_seq (n := 3) rfl (rgs_cons (rg_name (i := 3) sc_law_run.nd rfl (by first | exact Or.inl rfl | exact Or.inr rfl)) (rgs_cons (rg_name (i := 4) sc_law_run.nd rfl (by first | exact Or.inl rfl | exact Or.inr rfl)) (rgs_cons (rg_name (i := 5) sc_law_run.nd rfl (by first | exact Or.inl rfl | exact Or.inr rfl)) rgs_nil)))))
      (rss_cons (rs_for PassesOwn.never rfl (ri_any (rv 0)) (rg_name (i := 2) sc_law_run.nd rfl (by first | exact Or.inl rfl | exact Or.inr rfl)) (rss_cons (rs_set (i := 6) sc_law_run.nd rfl (by first | exact Or.inl rfl | exact Or.inr rfl) (rx_tup (ra_cons (rv 2) ra_nil)))
      (rss_cons (rs_set (i := 7) sc_law_run.nd rfl (by first | exact Or.inl rfl | exact Or.inr rfl) rx_int)
      (rss_cons (rs_if (rt_cmp (ox_eq hr.units) (rx_ix (hu_of hr) (rv 2) rx_int (fun _ _ => rfl)) rx_str (nomark _)) (rss_cons (rs_set (i := 6) sc_law_run.nd rfl (by first | exact Or.inl rfl | exact Or.inr rfl) (rx_ix (hu_of hr) (rv 2) rx_int (fun _ _ => rfl)))
      (rss_one (rs_set (i := 7) sc_law_run.nd rfl (by first | exact Or.inl rfl | exact Or.inr rfl) (rx_call c_law_turns hr (by decide) (by rfl) (ra_cons (rx_call c_law_value hr (by decide) (by rfl) (ra_cons (rx_ix (hu_of hr) (rv 2) rx_int (fun _ _ => rfl)) (ra_cons (rv 3) ra_nil))) ra_nil))))) rss_nil)
      (rss_one (rs_for PassesOwn.never rfl (ri_range1 (by rfl) T.z_range (rv 7)) (rg_name (i := 8) sc_law_run.nd rfl (by first | exact Or.inl rfl | exact Or.inr rfl)) (rss_one (rs_for PassesOwn.never rfl (ri_any (rv 6)) (rg_name (i := 9) sc_law_run.nd rfl (by first | exact Or.inl rfl | exact Or.inr rfl)) (rss_one (rs_expr (rx_call c_law_put hr (by decide) (by rfl) (ra_cons (rx_call c_law_results hr (by decide) (by rfl) (ra_cons (rv 9) (ra_cons (rv 3) (ra_cons (rv 4) (ra_cons (rv 5) ra_nil))))) (ra_cons (rv 3) (ra_cons (rv 4) ra_nil))))))))))))))
      (rss_one (rs_ret (rx_tup (ra_cons (rx_callTy (id := "tuple") cx_tuple (by rfl) T.z_tuple (by decide +kernel) (ra_cons (rv 5) ra_nil)) (ra_cons (rx_callTy (id := "tuple") cx_tuple (by rfl) T.z_tuple (by decide +kernel) (ra_cons (rv 3) ra_nil)) (ra_cons (rx_callTy (id := "tuple") cx_tuple (by rfl) T.z_tuple (by decide +kernel) (ra_cons (rv 4) ra_nil)) ra_nil))))))))
theorem ok_law_whole {f : Addr} {fd : FuncData} (T : Txt w K mg cl) (F : L2.Fun K "_law_whole" "_law_whole" s_law_whole f fd)  : FnOk P w K mg base CX0 1 f fd ["n"] (SpF K cl 1 f_law_whole) :=
  fn_ok (N := N_law_whole) F sc_law_whole rfl fun cdv A outer s H E hr =>
    (rss_one (rs_ret (rx_and (rx_isinst (T := "int") (by rfl) T.z_isinstance (by rfl) T.z_int (by decide +kernel) (rv 0)) (rx_one (rx_not (rx_isinst (T := "bool") (by rfl) T.z_isinstance (by rfl) T.z_bool (by decide +kernel) (rv 0)))))))
theorem okr_law_all_whole {f : Addr} {fd : FuncData} (T : Txt w K mg cl) (F : L2.Fun K "_law_all_whole" "_law_all_whole" s_law_all_whole f fd) (hm : mg "_law_all_whole" = some (.ref f)) (bi : Binds K fd ["value"] []) (c_law_whole : C8.Cal P w K mg base 1 "_law_whole" (SpF K cl 1 f_law_whole) []) : ∀ n : Nat, FnOk P w K mg base CX0 (2 + n) f fd ["value"] (SpF K cl 1 (f_law_all_whole_ n))
  | 0 => ⟨fun vs H Q E h => (by obtain ⟨_, _, _, _, _, _, _, h, _⟩ := h; cases h), fun A outer s H args us vs Q E _ _ _ _ h => (by obtain ⟨_, _, _, _, _, _, _, h, _⟩ := h; cases h)⟩
  | n + 1 => fn_ok (N := N_law_all_whole) F sc_law_all_whole rfl fun cdv A outer s H E hr =>
    have c_law_all_whole : C8.Cal P w K mg base (2 + n) "_law_all_whole" (SpF K cl 1 (f_law_all_whole_ n)) [] := cal_of (okr_law_all_whole T F hm bi c_law_whole n) hm F.kp bi
    have lee : 2 + n ≤ 2 + n := Nat.le_refl _
    (rss_cons (rs_if (rt_tru (rx_isinst (T := "tuple") (by rfl) T.z_isinstance (by rfl) T.z_tuple (by decide +kernel) (rv 0))) (rss_one (rs_ret (rx_callB (id := "all") (cx_all rfl) (by rfl) T.z_all (by decide +kernel) (ra_cons (rx_lcP (own := [("part", 1)]) (g := (pNm 1)) (pat_nm (by decide)) rfl sc_law_all_whole.nd (ri_any (rv 0)) (blkOk_by (own := [("part", 1)]) (N := N_law_all_whole) (sc := defScope s_law_all_whole) (by decide +kernel)) (fun _ _ _ _ _ => (pgn 1 sc_law_all_whole.nd)) (fun _ _ _ _ _ => rts_nil) (fun _ _ _ _ _ => (rx_call c_law_all_whole hr lee (by rfl) (ra_cons (rv 1) ra_nil)))) ra_nil)))) rss_nil)
      (rss_one (rs_ret (rx_call c_law_whole hr (Nat.le_trans (by decide) (Nat.le_add_right 2 n)) (by rfl) (ra_cons (rv 0) ra_nil)))))
theorem ok_State_told {f : Addr} {fd : FuncData} (T : Txt w K mg cl) (F : L2.Fun K "told" "State.told" s_State_told f fd)  : FnOk P w K mg base CX0 1 f fd ["self"] (SpF K cl 1 f_State_told) :=
  fn_ok (N := N_State_told) F sc_State_told rfl fun cdv A outer s H E hr =>
    (rss_cons (rs_setLcP (j := 1) (own := [("k", 2)]) (g := (pNm 2)) (pat_nm (by decide)) rfl sc_State_told.nd rfl rfl (sw_true rfl rfl rfl (by decide +kernel)) (ri_range1 (by rfl) T.z_range (rx_gint T.g_REGISTERS (by rfl))) (blkOk_by (own := [("k", 2)]) (N := N_State_told) (sc := defScope s_State_told) (by decide +kernel)) (fun _ _ _ _ _ => (pgn 2 sc_State_told.nd)) (fun _ _ _ _ _ => rts_nil) (fun _ _ _ _ _ => (rx_get (hu_of hr) (rx_fld (C := 0) T.cl0 T.n0_registers (rv 0)) (rv 2) rx_int m2_of)))
      (rss_one (rs_ret (rx_tup (ra_cons (rx_callTy (id := "tuple") cx_tuple (by rfl) T.z_tuple (by decide +kernel) (ra_cons (rx_fld (C := 0) T.cl0 T.n0_outputs (rv 0)) ra_nil)) (ra_cons (rx_callTy (id := "tuple") cx_tuple (by rfl) T.z_tuple (by decide +kernel) (ra_cons (rv 1) ra_nil)) (ra_cons (rx_callTy (id := "tuple") cx_tuple (by rfl) T.z_tuple (by decide +kernel) (ra_cons (rx_fld (C := 0) T.cl0 T.n0_cells (rv 0)) ra_nil)) ra_nil)))))))
theorem ok_State_worth {f : Addr} {fd : FuncData} (T : Txt w K mg cl) (F : L2.Fun K "worth" "State.worth" s_State_worth f fd)  : FnOk P w K mg base CX0 1 f fd ["self", "operand"] (SpF K cl 2 f_State_worth) :=
  fn_ok (N := N_State_worth) F sc_State_worth rfl fun cdv A outer s H E hr =>
    (rss_cons (rs_asg (rv 1) (rg_seq (n := 2) rfl (rgs_cons (rg_name (i := 2) sc_State_worth.nd rfl (by first | exact Or.inl rfl | exact Or.inr rfl)) (rgs_cons (rg_name (i := 3) sc_State_worth.nd rfl (by first | exact Or.inl rfl | exact Or.inr rfl)) rgs_nil))))
      (rss_cons (rs_if (rt_cmp (ox_eq hr.units) (rv 2) rx_str (nomark _)) (rss_one (rs_ret (rv 3))) rss_nil)
      (rss_one (rs_ret (rx_get (hu_of hr) (rx_fld (C := 0) T.cl0 T.n0_registers (rv 0)) (rv 3) rx_int m2_of)))))
theorem ok_turns_of {f : Addr} {fd : FuncData} (T : Txt w K mg cl) (F : L2.Fun K "turns_of" "turns_of" s_turns_of f fd)  : FnOk P w K mg base CX0 1 f fd ["number"] (SpF K cl 1 f_turns_of) :=
  fn_ok (N := N_turns_of) F sc_turns_of rfl fun cdv A outer s H E hr =>
    (rss_one (rs_ret (rx_callB (id := "min") (cx_min rfl) (by rfl) T.z_min (by decide +kernel) (ra_cons (rx_callB (id := "max") (cx_maxL rfl) (by rfl) T.z_max (by decide +kernel) (ra_cons (rv 0) (ra_cons rx_int ra_nil))) (ra_cons (rx_gint T.g_MOST_TURNS (by rfl)) ra_nil)))))
theorem ok_State_finish {f : Addr} {fd : FuncData} (T : Txt w K mg cl) (F : L2.Fun K "finish" "State.finish" s_State_finish f fd)  : FnOk P w K mg base CX0 1 f fd ["self", "result"] (SpF K cl 2 f_State_finish) :=
  fn_ok (N := N_State_finish) F sc_State_finish rfl fun cdv A outer s H E hr =>
    (rss_cons (rs_asg (rv 1) (rg_seq (n := 3) rfl (rgs_cons (rg_name (i := 2) sc_State_finish.nd rfl (by first | exact Or.inl rfl | exact Or.inr rfl)) (rgs_cons (rg_name (i := 3) sc_State_finish.nd rfl (by first | exact Or.inl rfl | exact Or.inr rfl)) (rgs_cons (rg_name (i := 4) sc_State_finish.nd rfl (by first | exact Or.inl rfl | exact Or.inr rfl)) rgs_nil)))))
      (rss_one (rs_if (rt_cmp (ox_eq hr.units) (rv 2) rx_str (nomark _)) (rss_one (rs_asg (rv 4) (rg_ix (hu_of hr) (rx_fld (C := 0) T.cl0 T.n0_cells (rv 0)) (rv 3)))) (rss_one (rs_asg (rv 4) (rg_ix (hu_of hr) (rx_fld (C := 0) T.cl0 T.n0_registers (rv 0)) (rv 3)))))))
theorem ok_wrap {f : Addr} {fd : FuncData} (T : Txt w K mg cl) (F : L2.Fun K "wrap" "wrap" s_wrap f fd)  : FnOk P w K mg base CX0 1 f fd ["number"] (SpF K cl 1 f_wrap) :=
  fn_ok (N := N_wrap) F sc_wrap rfl fun cdv A outer s H E hr =>
    (rss_one (rs_ret (rx_bin ox_add (rx_bin ox_mod (rx_bin ox_sub (rv 0) (rx_gint T.g_LOWEST (by rfl))) (rx_gint T.g_MODULUS (by rfl))) (rx_gint T.g_LOWEST (by rfl)))))
theorem ok_operate {f : Addr} {fd : FuncData} (T : Txt w K mg cl) (F : L2.Fun K "operate" "operate" s_operate f fd) (c_wrap : C8.Cal P w K mg base 1 "wrap" (SpF K cl 1 f_wrap) []) : FnOk P w K mg base CX0 2 f fd ["op", "a", "b"] (SpF K cl 3 f_operate) :=
  fn_ok (N := N_operate) F sc_operate rfl fun cdv A outer s H E hr =>
    (rss_cons (rs_if (rt_cmp (ox_eq hr.units) (rv 0) rx_str (nomark _)) (rss_one (rs_ret (rx_call c_wrap hr (by decide) (by rfl) (ra_cons (rx_bin ox_add (rv 1) (rv 2)) ra_nil)))) rss_nil)
      (rss_cons (rs_if (rt_cmp (ox_eq hr.units) (rv 0) rx_str (nomark _)) (rss_one (rs_ret (rx_call c_wrap hr (by decide) (by rfl) (ra_cons (rx_bin ox_sub (rv 1) (rv 2)) ra_nil)))) rss_nil)
      (rss_cons (rs_if (rt_cmp (ox_eq hr.units) (rv 0) rx_str (nomark _)) (rss_one (rs_ret (rx_call c_wrap hr (by decide) (by rfl) (ra_cons (rx_bin ox_mul (rv 1) (rv 2)) ra_nil)))) rss_nil)
      (rss_cons (rs_if (rt_cmp (ox_eq hr.units) (rv 0) rx_str (nomark _)) (rss_one (rs_ret (rx_call c_wrap hr (by decide) (by rfl) (ra_cons (rx_bin ox_and (rv 1) (rv 2)) ra_nil)))) rss_nil)
      (rss_one (rs_ret (rx_ife (rt_cmp ox_lt (rv 1) (rv 2) (nomark _)) rx_int rx_int)))))))
theorem ok_State_begin {f : Addr} {fd : FuncData} (T : Txt w K mg cl) (F : L2.Fun K "begin" "State.begin" s_State_begin f fd) (c_operate : C8.Cal P w K mg base 2 "operate" (SpF K cl 3 f_operate) []) (c_State_worth : C8.Met P w K mg base 1 (cl 0) "worth" (SpF K cl 2 f_State_worth) []) : FnOk P w K mg base CX0 3 f fd ["self", "instruction"] (SpF K cl 2 f_State_begin) :=
  fn_ok (N := N_State_begin) F sc_State_begin rfl fun cdv A outer s H E hr =>
    (rss_cons (rs_set (i := 2) sc_State_begin.nd rfl (by first | exact Or.inl rfl | exact Or.inr rfl) (rx_ix (hu_of hr) (rv 1) rx_int (fun _ _ => rfl)))
      (rss_cons (rs_if (rt_cmp (ox_eq hr.units) (rv 2) rx_str (nomark _)) (rss_cons (rs_expr (rx_append (rx_fld (C := 0) T.cl0 T.n0_outputs (rv 0)) (rx_meth (C := 0) c_State_worth hr (by decide) (rv 0) (ra_cons (rx_ix (hu_of hr) (rv 1) rx_int (fun _ _ => rfl)) ra_nil))))
      (rss_one (rs_ret rx_non))) rss_nil)
      (rss_cons (rs_if (rt_cmp (ox_eq hr.units) (rv 2) rx_str (nomark _)) (rss_cons (rs_set (i := 5) sc_State_begin.nd rfl (by first | exact Or.inl rfl | exact Or.inr rfl) (rx_bin ox_mod (rx_meth (C := 0) c_State_worth hr (by decide) (rv 0) (ra_cons (rx_ix (hu_of hr) (rv 1) rx_int (fun _ _ => rfl)) ra_nil)) (rx_gint T.g_CELLS (by rfl))))
      (rss_one (rs_ret (rx_tup (ra_cons rx_str (ra_cons (rv 5) (ra_cons (rx_meth (C := 0) c_State_worth hr (by decide) (rv 0) (ra_cons (rx_ix (hu_of hr) (rv 1) rx_int (fun _ _ => rfl)) ra_nil)) ra_nil))))))) rss_nil)
      (rss_cons (rs_if (rt_cmp (ox_eq hr.units) (rv 2) rx_str (nomark _)) (rss_cons (rs_set (i := 5) sc_State_begin.nd rfl (by first | exact Or.inl rfl | exact Or.inr rfl) (rx_bin ox_mod (rx_meth (C := 0) c_State_worth hr (by decide) (rv 0) (ra_cons (rx_ix (hu_of hr) (rv 1) rx_int (fun _ _ => rfl)) ra_nil)) (rx_gint T.g_CELLS (by rfl))))
      (rss_one (rs_ret (rx_tup (ra_cons rx_str (ra_cons (rx_ix (hu_of hr) (rv 1) rx_int (fun _ _ => rfl)) (ra_cons (rx_ix (hu_of hr) (rx_fld (C := 0) T.cl0 T.n0_cells (rv 0)) (rv 5) (fun _ _ => rfl)) ra_nil))))))) rss_nil)
      (rss_cons (rs_set (i := 3) sc_State_begin.nd rfl (by first | exact Or.inl rfl | exact Or.inr rfl) (rx_meth (C := 0) c_State_worth hr (by decide) (rv 0) (ra_cons (rx_ix (hu_of hr) (rv 1) rx_int (fun _ _ => rfl)) ra_nil)))
      (rss_cons (rs_set (i := 4) sc_State_begin.nd rfl (by first | exact Or.inl rfl | exact Or.inr rfl) (rx_meth (C := 0) c_State_worth hr (by decide) (rv 0) (ra_cons (rx_ix (hu_of hr) (rv 1) rx_int (fun _ _ => rfl)) ra_nil)))
      (rss_one (rs_ret (rx_tup (ra_cons rx_str (ra_cons (rx_ix (hu_of hr) (rv 1) rx_int (fun _ _ => rfl)) (ra_cons (rx_call c_operate hr (by decide) (by rfl) (ra_cons (rv 2) (ra_cons (rv 3) (ra_cons (rv 4) ra_nil)))) ra_nil))))))))))))
theorem ok_State_execute {f : Addr} {fd : FuncData} (T : Txt w K mg cl) (F : L2.Fun K "execute" "State.execute" s_State_execute f fd) (c_State_finish : C8.Met P w K mg base 1 (cl 0) "finish" (SpF K cl 2 f_State_finish) []) (c_State_begin : C8.Met P w K mg base 3 (cl 0) "begin" (SpF K cl 2 f_State_begin) []) : FnOk P w K mg base CX0 4 f fd ["self", "instruction"] (SpF K cl 2 f_State_execute) :=
  fn_ok (N := N_State_execute) F sc_State_execute rfl fun cdv A outer s H E hr =>
    (rss_cons (rs_set (i := 2) sc_State_execute.nd rfl (by first | exact Or.inl rfl | exact Or.inr rfl) (rx_meth (C := 0) c_State_begin hr (by decide) (rv 0) (ra_cons (rv 1) ra_nil)))
      (rss_one (rs_if (rt_cmp ox_notn (rv 2) rx_non (nomark _)) (rss_one (rs_expr (rx_meth (C := 0) c_State_finish hr (by decide) (rv 0) (ra_cons (rv 2) ra_nil)))) rss_nil)))
theorem ok_State_execute_loop {f : Addr} {fd : FuncData} (T : Txt w K mg cl) (F : L2.Fun K "execute_loop" "State.execute_loop" s_State_execute_loop f fd) (c_turns_of : C8.Cal P w K mg base 1 "turns_of" (SpF K cl 1 f_turns_of) []) (c_State_worth : C8.Met P w K mg base 1 (cl 0) "worth" (SpF K cl 2 f_State_worth) []) (c_State_execute : C8.Met P w K mg base 4 (cl 0) "execute" (SpF K cl 2 f_State_execute) []) : FnOk P w K mg base CX0 5 f fd ["self", "number", "body"] (SpF K cl 3 f_State_execute_loop) :=
  fn_ok (N := N_State_execute_loop) F sc_State_execute_loop rfl fun cdv A outer s H E hr =>
    (rss_one (rs_for PassesOwn.never rfl (ri_range1 (by rfl) T.z_range (rx_call c_turns_of hr (by decide) (by rfl) (ra_cons (rx_meth (C := 0) c_State_worth hr (by decide) (rv 0) (ra_cons (rv 1) ra_nil)) ra_nil))) (rg_name (i := 3) sc_State_execute_loop.nd rfl (by first | exact Or.inl rfl | exact Or.inr rfl)) (rss_one (rs_for PassesOwn.never rfl (ri_any (rv 2)) (rg_name (i := 4) sc_State_execute_loop.nd rfl (by first | exact Or.inl rfl | exact Or.inr rfl)) (rss_one (rs_expr (rx_meth (C := 0) c_State_execute hr (by decide) (rv 0) (ra_cons (rv 4) ra_nil))))))))
theorem ok_State_init {f : Addr} {fd : FuncData} (T : Txt w K mg cl) (F : L2.Fun K "__init__" "State.__init__" s_State_init f fd)  : FnOk P w K mg base CX0 1 f fd ["self", "inputs"] (SpF K cl 2 f_State_init) :=
  fn_ok (N := N_State_init) F sc_State_init rfl fun cdv A outer s H E hr =>
    (rss_cons (rs_fld (C := 0) T.cl0 T.n0_registers (rv 0) (rx_dictenum rfl (by rfl) T.z_dict (by rfl) T.z_enumerate (rv 1)))
      (rss_cons (rs_fld (C := 0) T.cl0 T.n0_cells (rv 0) (rx_bin ox_mul (rx_lst (ra_cons rx_int ra_nil)) (rx_gint T.g_CELLS (by rfl))))
      (rss_one (rs_fld (C := 0) T.cl0 T.n0_outputs (rv 0) (rx_lst ra_nil)))))
theorem ok_run {f : Addr} {fd : FuncData} (T : Txt w K mg cl) (F : L2.Fun K "run" "run" s_run f fd) (c_State_told : C8.Met P w K mg base 1 (cl 0) "told" (SpF K cl 1 f_State_told) []) (c_State_execute_loop : C8.Met P w K mg base 5 (cl 0) "execute_loop" (SpF K cl 3 f_State_execute_loop) []) (c_State_execute : C8.Met P w K mg base 4 (cl 0) "execute" (SpF K cl 2 f_State_execute) []) (k_State : C8.Mak P w K mg base 1 "State" (cl 0) (SpF K cl 2 f_State_init) []) : FnOk P w K mg base CX0 6 f fd ["program", "inputs"] (SpF K cl 2 f_run) :=
  fn_ok (N := N_run) F sc_run rfl fun cdv A outer s H E hr =>
    (rss_cons (rs_set (i := 2) sc_run.nd rfl (by first | exact Or.inl rfl | exact Or.inr rfl) (rx_make (C := 0) k_State hr (by decide) (by rfl) (ra_cons (rv 1) ra_nil)))
      (rss_cons (rs_for PassesOwn.never rfl (ri_any (rv 0)) (rg_name (i := 3) sc_run.nd rfl (by first | exact Or.inl rfl | exact Or.inr rfl)) (rss_one (rs_if (rt_cmp (ox_eq hr.units) (rx_ix (hu_of hr) (rv 3) rx_int (fun _ _ => rfl)) rx_str (nomark _)) (rss_one (rs_expr (rx_meth (C := 0) c_State_execute_loop hr (by decide) (rv 2) (ra_cons (rx_ix (hu_of hr) (rv 3) rx_int (fun _ _ => rfl)) (ra_cons (rx_ix (hu_of hr) (rv 3) rx_int (fun _ _ => rfl)) ra_nil))))) (rss_one (rs_expr (rx_meth (C := 0) c_State_execute hr (by decide) (rv 2) (ra_cons (rv 3) ra_nil)))))))
      (rss_one (rs_ret (rx_meth0 (C := 0) c_State_told hr (by decide) (rv 2))))))
theorem ok_law_fill {f : Addr} {fd : FuncData} (T : Txt w K mg cl) (F : L2.Fun K "_law_fill" "_law_fill" s_law_fill f fd)  : FnOk P w K mg base CX0 1 f fd ["c"] (SpF K cl 1 f_law_fill) :=
  fn_ok (N := N_law_fill) F sc_law_fill rfl fun cdv A outer s H E hr =>
    (rss_cons (rs_asg (rx_bin ox_add (rx_ix (hu_of hr) (rv 0) rx_int (fun _ _ => rfl)) rx_int) (rg_ix (hu_of hr) (rv 0) rx_int))
      (rss_cons (rs_set (i := 1) sc_law_fill.nd rfl (by first | exact Or.inl rfl | exact Or.inr rfl) (rx_bin ox_add (rx_bin ox_mul (rx_ix (hu_of hr) (rv 0) rx_int (fun _ _ => rfl)) rx_int) rx_int))
      (rss_cons (rs_if (rt_cmp ox_lt (rx_ix (hu_of hr) (rv 0) rx_int (fun _ _ => rfl)) (rx_callB (id := "len") cx_len (by rfl) T.z_len (by decide +kernel) (ra_cons (rx_ix (hu_of hr) (rv 0) rx_int (fun _ _ => rfl)) ra_nil)) (nomark _)) (rss_cons (rs_set (i := 1) sc_law_fill.nd rfl (by first | exact Or.inl rfl | exact Or.inr rfl) (rx_ix (hu_of hr) (rx_ix (hu_of hr) (rv 0) rx_int (fun _ _ => rfl)) (rx_ix (hu_of hr) (rv 0) rx_int (fun _ _ => rfl)) (fun _ _ => rfl)))
      (rss_cons (rs_asg (rx_bin ox_add (rx_ix (hu_of hr) (rv 0) rx_int (fun _ _ => rfl)) rx_int) (rg_ix (hu_of hr) (rv 0) rx_int))
      (rss_cons (rs_if (rt_cmp ox_lt (rv 1) rx_int (nomark _)) (rss_one (rs_set (i := 1) sc_law_fill.nd rfl (by first | exact Or.inl rfl | exact Or.inr rfl) (rx_bin ox_sub (rx_bin ox_sub rx_int rx_int) (rv 1)))) rss_nil)
      (rss_one (rs_if (rt_cmp ox_ge (rv 1) (rx_bin ox_pow rx_int rx_int) (nomark _)) (rss_one (rs_ret (rv 1))) rss_nil))))) rss_nil)
      (rss_cons (rs_if (rt_w (rw_and (rt_tru (rx_ix (hu_of hr) (rv 0) rx_int (fun _ _ => rfl))) (rw_and1 (rt_cmp ox_ge (rx_ix (hu_of hr) (rv 0) rx_int (fun _ _ => rfl)) (rx_callB (id := "len") cx_len (by rfl) T.z_len (by decide +kernel) (ra_cons (rx_ix (hu_of hr) (rv 0) rx_int (fun _ _ => rfl)) ra_nil)) (nomark _))))) (rss_one (rs_set (i := 1) sc_law_fill.nd rfl (by first | exact Or.inl rfl | exact Or.inr rfl) (rx_bin ox_add (rv 1) (rx_bin ox_mod (rx_callTy (id := "int") cx_int (by rfl) T.z_int (by decide +kernel) (ra_cons (rx_ix (hu_of hr) (rx_ix (hu_of hr) (rv 0) rx_int (fun _ _ => rfl)) (rx_un ox_neg rx_int) (fun _ _ => rfl)) ra_nil)) rx_int)))) rss_nil)
      (rss_cons (rs_set (i := 1) sc_law_fill.nd rfl (by first | exact Or.inl rfl | exact Or.inr rfl) (rx_bin ox_mod (rx_callTy (id := "int") cx_int (by rfl) T.z_int (by decide +kernel) (ra_cons (rx_bin ox_add (rx_bin ox_mul (rv 1) rx_int) (rx_bin ox_mul (rx_ix (hu_of hr) (rv 0) rx_int (fun _ _ => rfl)) rx_int)) ra_nil)) rx_int))
      (rss_one (rs_ret (rx_bin ox_add (rx_bin ox_mod (rx_callTy (id := "int") cx_int (by rfl) T.z_int (by decide +kernel) (ra_cons (rx_bin ox_add (rx_bin ox_add (rx_bin ox_mul (rv 1) (rv 1)) (rx_bin ox_mul (rx_ix (hu_of hr) (rv 0) rx_int (fun _ _ => rfl)) rx_int)) rx_int) ra_nil)) rx_int) rx_int))))))))
theorem ok_law_take {f : Addr} {fd : FuncData} (T : Txt w K mg cl) (F : L2.Fun K "_law_take" "_law_take" s_law_take f fd) (c_law_fill : C8.Cal P w K mg base 1 "_law_fill" (SpF K cl 1 f_law_fill) []) : FnOk P w K mg base CX0 2 f fd ["c", "many"] (SpF K cl 2 f_law_take) :=
  fn_ok (N := N_law_take) F sc_law_take rfl fun cdv A outer s H E hr =>
    (rss_cons (rs_if (rt_cmp ox_lt (rx_ix (hu_of hr) (rv 0) rx_int (fun _ _ => rfl)) (rv 1) (nomark _)) (rss_one (rs_asg (rx_call c_law_fill hr (by decide) (by rfl) (ra_cons (rv 0) ra_nil)) (rg_ix (hu_of hr) (rv 0) rx_int))) rss_nil)
      (rss_cons (rs_set (i := 2) sc_law_take.nd rfl (by first | exact Or.inl rfl | exact Or.inr rfl) (rx_bin ox_mod (rx_callTy (id := "int") cx_int (by rfl) T.z_int (by decide +kernel) (ra_cons (rx_ix (hu_of hr) (rv 0) rx_int (fun _ _ => rfl)) ra_nil)) (rv 1)))
      (rss_cons (rs_asg (rx_bin ox_div (rx_ix (hu_of hr) (rv 0) rx_int (fun _ _ => rfl)) (rv 1)) (rg_ix (hu_of hr) (rv 0) rx_int))
      (rss_one (rs_ret (rv 2))))))
theorem ok_law_integer {f : Addr} {fd : FuncData} (T : Txt w K mg cl) (F : L2.Fun K "_law_integer" "_law_integer" s_law_integer f fd) (c_law_take : C8.Cal P w K mg base 2 "_law_take" (SpF K cl 2 f_law_take) []) : FnOk P w K mg base CX0 3 f fd ["c"] (SpF K cl 1 f_law_integer) :=
  fn_ok (N := N_law_integer) F sc_law_integer rfl fun cdv A outer s H E hr =>
    (rss_one (rs_ret (rx_ix (hu_of hr) (rx_lst (ra_cons (rx_bin ox_sub (rx_call c_law_take hr (by decide) (by rfl) (ra_cons (rv 0) (ra_cons rx_int ra_nil))) rx_int) (ra_cons (rx_call c_law_take hr (by decide) (by rfl) (ra_cons (rv 0) (ra_cons rx_int ra_nil))) (ra_cons (rx_bin ox_sub (rx_call c_law_take hr (by decide) (by rfl) (ra_cons (rv 0) (ra_cons rx_int ra_nil))) rx_int) (ra_cons rx_int ra_nil))))) (rx_ix (hu_of hr) (rx_lst (ra_cons rx_int (ra_cons rx_int (ra_cons rx_int (ra_cons rx_int (ra_cons rx_int (ra_cons rx_int ra_nil))))))) (rx_call c_law_take hr (by decide) (by rfl) (ra_cons (rv 0) (ra_cons rx_int ra_nil))) (fun _ _ => rfl)) (fun _ _ => rfl))))
theorem ok_law_inputs {f : Addr} {fd : FuncData} (T : Txt w K mg cl) (F : L2.Fun K "_law_inputs" "_law_inputs" s_law_inputs f fd) (c_law_take : C8.Cal P w K mg base 2 "_law_take" (SpF K cl 2 f_law_take) []) (c_law_integer : C8.Cal P w K mg base 3 "_law_integer" (SpF K cl 1 f_law_integer) []) : FnOk P w K mg base CX0 4 f fd ["c"] (SpF K cl 1 f_law_inputs) :=
  fn_ok (N := N_law_inputs) F sc_law_inputs rfl fun cdv A outer s H E hr =>
    (rss_one (rs_ret (rx_callTy (id := "tuple") cx_tuple (by rfl) T.z_tuple (by decide +kernel) (ra_cons (rx_lcP (own := [("k", 1)]) (g := (pNm 1)) (pat_nm (by decide)) rfl sc_law_inputs.nd (ri_range1 (by rfl) T.z_range (rx_call c_law_take hr (by decide) (by rfl) (ra_cons (rv 0) (ra_cons rx_int ra_nil)))) (blkOk_by (own := [("k", 1)]) (N := N_law_inputs) (sc := defScope s_law_inputs) (by decide +kernel)) (fun _ _ _ _ _ => (pgn 1 sc_law_inputs.nd)) (fun _ _ _ _ _ => rts_nil) (fun _ _ _ _ _ => (rx_call c_law_integer hr (by decide) (by rfl) (ra_cons (rv 0) ra_nil)))) ra_nil))))
theorem ok_law_operand {f : Addr} {fd : FuncData} (T : Txt w K mg cl) (F : L2.Fun K "_law_operand" "_law_operand" s_law_operand f fd) (c_law_integer : C8.Cal P w K mg base 3 "_law_integer" (SpF K cl 1 f_law_integer) []) (c_law_take : C8.Cal P w K mg base 2 "_law_take" (SpF K cl 2 f_law_take) []) : FnOk P w K mg base CX0 4 f fd ["c", "many"] (SpF K cl 2 f_law_operand) :=
  fn_ok (N := N_law_operand) F sc_law_operand rfl fun cdv A outer s H E hr =>
    (rss_cons (rs_if (rt_cmp (ox_ne hr.units) (rx_call c_law_take hr (by decide) (by rfl) (ra_cons (rv 0) (ra_cons rx_int ra_nil))) rx_int (nomark _)) (rss_one (rs_ret (rx_tup (ra_cons rx_str (ra_cons (rx_call c_law_take hr (by decide) (by rfl) (ra_cons (rv 0) (ra_cons (rv 1) ra_nil))) ra_nil))))) rss_nil)
      (rss_one (rs_ret (rx_tup (ra_cons rx_str (ra_cons (rx_call c_law_integer hr (by decide) (by rfl) (ra_cons (rv 0) ra_nil)) ra_nil))))))
theorem ok_law_instruction {f : Addr} {fd : FuncData} (T : Txt w K mg cl) (F : L2.Fun K "_law_instruction" "_law_instruction" s_law_instruction f fd) (c_law_operand : C8.Cal P w K mg base 4 "_law_operand" (SpF K cl 2 f_law_operand) []) (c_law_take : C8.Cal P w K mg base 2 "_law_take" (SpF K cl 2 f_law_take) []) : FnOk P w K mg base CX0 5 f fd ["c", "many"] (SpF K cl 2 f_law_instruction) :=
  fn_ok (N := N_law_instruction) F sc_law_instruction rfl fun cdv A outer s H E hr =>
    (rss_cons (rs_set (i := 2) sc_law_instruction.nd rfl (by first | exact Or.inl rfl | exact Or.inr rfl) (rx_ix (hu_of hr) (rx_lst (ra_cons rx_str (ra_cons rx_str (ra_cons rx_str (ra_cons rx_str (ra_cons rx_str (ra_cons rx_str (ra_cons rx_str (ra_cons rx_str (ra_cons rx_str (ra_cons rx_str (ra_cons rx_str (ra_cons rx_str ra_nil))))))))))))) (rx_call c_law_take hr (by decide) (by rfl) (ra_cons (rv 0) (ra_cons rx_int ra_nil))) (fun _ _ => rfl)))
      (rss_cons (rs_if (rt_cmp (ox_eq hr.units) (rv 2) rx_str (nomark _)) (rss_one (rs_ret (rx_tup (ra_cons rx_str (ra_cons (rx_call c_law_operand hr (by decide) (by rfl) (ra_cons (rv 0) (ra_cons (rv 1) ra_nil))) ra_nil))))) rss_nil)
      (rss_cons (rs_set (i := 3) sc_law_instruction.nd rfl (by first | exact Or.inl rfl | exact Or.inr rfl) (rx_tup (ra_cons rx_str (ra_cons (rx_bin ox_sub (rx_call c_law_take hr (by decide) (by rfl) (ra_cons (rv 0) (ra_cons (rx_ix (hu_of hr) (rx_lst (ra_cons rx_int (ra_cons rx_int ra_nil))) (rx_call c_law_take hr (by decide) (by rfl) (ra_cons (rv 0) (ra_cons rx_int ra_nil))) (fun _ _ => rfl)) ra_nil))) rx_int) ra_nil))))
      (rss_cons (rs_if (rt_cmp (ox_eq hr.units) (rv 2) rx_str (nomark _)) (rss_one (rs_ret (rx_tup (ra_cons rx_str (ra_cons (rx_call c_law_take hr (by decide) (by rfl) (ra_cons (rv 0) (ra_cons (rv 1) ra_nil))) (ra_cons (rx_ix (hu_of hr) (rx_lst (ra_cons (rv 3) (ra_cons (rx_call c_law_operand hr (by decide) (by rfl) (ra_cons (rv 0) (ra_cons (rv 1) ra_nil))) ra_nil))) (rx_call c_law_take hr (by decide) (by rfl) (ra_cons (rv 0) (ra_cons rx_int ra_nil))) (fun _ _ => rfl)) ra_nil)))))) rss_nil)
      (rss_cons (rs_if (rt_cmp (ox_eq hr.units) (rv 2) rx_str (nomark _)) (rss_one (rs_ret (rx_tup (ra_cons rx_str (ra_cons (rx_ix (hu_of hr) (rx_lst (ra_cons (rv 3) (ra_cons (rx_call c_law_operand hr (by decide) (by rfl) (ra_cons (rv 0) (ra_cons (rv 1) ra_nil))) ra_nil))) (rx_call c_law_take hr (by decide) (by rfl) (ra_cons (rv 0) (ra_cons rx_int ra_nil))) (fun _ _ => rfl)) (ra_cons (rx_call c_law_operand hr (by decide) (by rfl) (ra_cons (rv 0) (ra_cons (rv 1) ra_nil))) ra_nil)))))) rss_nil)
      (rss_one (rs_ret (rx_tup (ra_cons (rv 2) (ra_cons (rx_call c_law_take hr (by decide) (by rfl) (ra_cons (rv 0) (ra_cons (rv 1) ra_nil))) (ra_cons (rx_call c_law_operand hr (by decide) (by rfl) (ra_cons (rv 0) (ra_cons (rv 1) ra_nil))) (ra_cons (rx_call c_law_operand hr (by decide) (by rfl) (ra_cons (rv 0) (ra_cons (rv 1) ra_nil))) ra_nil))))))))))))
theorem ok_law_block {f : Addr} {fd : FuncData} (T : Txt w K mg cl) (F : L2.Fun K "_law_block" "_law_block" s_law_block f fd) (c_law_take : C8.Cal P w K mg base 2 "_law_take" (SpF K cl 2 f_law_take) []) (c_law_instruction : C8.Cal P w K mg base 5 "_law_instruction" (SpF K cl 2 f_law_instruction) []) : FnOk P w K mg base CX0 6 f fd ["c", "many", "most"] (SpF K cl 3 f_law_block) :=
  fn_ok (N := N_law_block) F sc_law_block rfl fun cdv A outer s H E hr =>
    (rss_one (rs_ret (rx_callTy (id := "tuple") cx_tuple (by rfl) T.z_tuple (by decide +kernel) (ra_cons (rx_lcP (own := [("k", 3)]) (g := (pNm 3)) (pat_nm (by decide)) rfl sc_law_block.nd (ri_range1 (by rfl) T.z_range (rx_call c_law_take hr (by decide) (by rfl) (ra_cons (rv 0) (ra_cons (rx_bin ox_add (rv 2) rx_int) ra_nil)))) (blkOk_by (own := [("k", 3)]) (N := N_law_block) (sc := defScope s_law_block) (by decide +kernel)) (fun _ _ _ _ _ => (pgn 3 sc_law_block.nd)) (fun _ _ _ _ _ => rts_nil) (fun _ _ _ _ _ => (rx_call c_law_instruction hr (by decide) (by rfl) (ra_cons (rv 0) (ra_cons (rv 1) ra_nil))))) ra_nil))))
theorem ok_law_program {f : Addr} {fd : FuncData} (T : Txt w K mg cl) (F : L2.Fun K "_law_program" "_law_program" s_law_program f fd) (c_law_take : C8.Cal P w K mg base 2 "_law_take" (SpF K cl 2 f_law_take) []) (c_law_instruction : C8.Cal P w K mg base 5 "_law_instruction" (SpF K cl 2 f_law_instruction) []) (c_law_block : C8.Cal P w K mg base 6 "_law_block" (SpF K cl 3 f_law_block) []) : FnOk P w K mg base CX0 7 f fd ["c", "many", "most"] (SpF K cl 3 f_law_program) :=
  fn_ok (N := N_law_program) F sc_law_program rfl fun cdv A outer s H E hr =>
    (rss_cons (rs_set (i := 3) sc_law_program.nd rfl (by first | exact Or.inl rfl | exact Or.inr rfl) (rx_lst ra_nil))
      (rss_cons (rs_for PassesOwn.never rfl (ri_range1 (by rfl) T.z_range (rx_call c_law_take hr (by decide) (by rfl) (ra_cons (rv 0) (ra_cons rx_int ra_nil)))) (rg_name (i := 4) sc_law_program.nd rfl (by first | exact Or.inl rfl | exact Or.inr rfl)) (rss_one (rs_if (rt_cmp (ox_eq hr.units) (rx_call c_law_take hr (by decide) (by rfl) (ra_cons (rv 0) (ra_cons rx_int ra_nil))) rx_int (nomark _)) (rss_cons (rs_set (i := 5) sc_law_program.nd rfl (by first | exact Or.inl rfl | exact Or.inr rfl) (rx_ix (hu_of hr) (rx_lst (ra_cons (rx_tup (ra_cons rx_str (ra_cons (rx_bin ox_sub (rx_call c_law_take hr (by decide) (by rfl) (ra_cons (rv 0) (ra_cons rx_int ra_nil))) rx_int) ra_nil))) (ra_cons (rx_tup (ra_cons rx_str (ra_cons (rx_call c_law_take hr (by decide) (by rfl) (ra_cons (rv 0) (ra_cons (rv 1) ra_nil))) ra_nil))) (ra_cons (rx_tup (ra_cons rx_str (ra_cons (rx_ix (hu_of hr) (rx_lst (ra_cons (rx_call c_law_take hr (by decide) (by rfl) (ra_cons (rv 0) (ra_cons rx_int ra_nil))) (ra_cons (rx_bin ox_sub rx_int (rx_call c_law_take hr (by decide) (by rfl) (ra_cons (rv 0) (ra_cons rx_int ra_nil)))) (ra_cons (rx_bin ox_add rx_int (rx_call c_law_take hr (by decide) (by rfl) (ra_cons (rv 0) (ra_cons (rx_bin ox_pow rx_int rx_int) ra_nil)))) ra_nil)))) (rx_call c_law_take hr (by decide) (by rfl) (ra_cons (rv 0) (ra_cons rx_int ra_nil))) (fun _ _ => rfl)) ra_nil))) ra_nil)))) (rx_call c_law_take hr (by decide) (by rfl) (ra_cons (rv 0) (ra_cons rx_int ra_nil))) (fun _ _ => rfl)))
      (rss_one (rs_expr (rx_append (rv 3) (rx_tup (ra_cons rx_str (ra_cons (rv 5) (ra_cons (rx_bin ox_add (rx_tup (ra_cons (rx_call c_law_instruction hr (by decide) (by rfl) (ra_cons (rv 0) (ra_cons (rv 1) ra_nil))) ra_nil)) (rx_call c_law_block hr (by decide) (by rfl) (ra_cons (rv 0) (ra_cons (rv 1) (ra_cons (rx_bin ox_sub (rv 2) rx_int) ra_nil))))) ra_nil)))))))) (rss_one (rs_set (i := 3) sc_law_program.nd rfl (by first | exact Or.inl rfl | exact Or.inr rfl) (rx_bin ox_add (rv 3) (rx_callTy (id := "list") cx_list (by rfl) T.z_list (by decide +kernel) (ra_cons (rx_call c_law_block hr (by decide) (by rfl) (ra_cons (rv 0) (ra_cons (rv 1) (ra_cons rx_int ra_nil)))) ra_nil))))))))
      (rss_one (rs_ret (rx_callTy (id := "tuple") cx_tuple (by rfl) T.z_tuple (by decide +kernel) (ra_cons (rx_sl (rv 3) ro_none (ro_some rx_int)) ra_nil))))))
theorem ok_law {f : Addr} {fd : FuncData} (T : Txt w K mg cl) (F : L2.Fun K "law" "law" s_law f fd) (c_law_start : C8.Cal P w K mg base 1 "_law_start" (SpF K cl 1 f_law_start) []) (c_law_run : C8.Cal P w K mg base 4 "_law_run" (SpF K cl 2 f_law_run) []) (c_law_all_whole : C8.Cal P w K mg base 6 "_law_all_whole" (SpF K cl 1 f_law_all_whole) []) (c_run : C8.Cal P w K mg base 6 "run" (SpF K cl 2 f_run) []) (c_law_inputs : C8.Cal P w K mg base 4 "_law_inputs" (SpF K cl 1 f_law_inputs) []) (c_law_program : C8.Cal P w K mg base 7 "_law_program" (SpF K cl 3 f_law_program) []) (c_law_take : C8.Cal P w K mg base 2 "_law_take" (SpF K cl 2 f_law_take) []) : FnOk P w K mg base CX0 8 f fd ["script"] (SpF K cl 1 f_law) :=
  fn_ok (N := N_law) F sc_law rfl fun cdv A outer s H E hr =>
    (rss_cons (rs_set (i := 1) sc_law.nd rfl (by first | exact Or.inl rfl | exact Or.inr rfl) (rx_call c_law_start hr (by decide) (by rfl) (ra_cons (rv 0) ra_nil)))
      (rss_cons (rs_set (i := 2) sc_law.nd rfl (by first | exact Or.inl rfl | exact Or.inr rfl) (rx_call c_law_program hr (by decide) (by rfl) (ra_cons (rv 1) (ra_cons (rx_ix (hu_of hr) (rx_lst (ra_cons rx_int (ra_cons rx_int ra_nil))) (rx_call c_law_take hr (by decide) (by rfl) (ra_cons (rv 1) (ra_cons rx_int ra_nil))) (fun _ _ => rfl)) (ra_cons rx_int ra_nil)))))
      (rss_cons (rs_set (i := 3) sc_law.nd rfl (by first | exact Or.inl rfl | exact Or.inr rfl) (rx_call c_law_inputs hr (by decide) (by rfl) (ra_cons (rv 1) ra_nil)))
      (rss_cons (rs_set (i := 4) sc_law.nd rfl (by first | exact Or.inl rfl | exact Or.inr rfl) (rx_call c_run hr (by decide) (by rfl) (ra_cons (rv 2) (ra_cons (rv 3) ra_nil))))
      (rss_one (rs_ret (rx_and (rx_cmp (ox_eq hr.units) (rv 4) (rx_call c_law_run hr (by decide) (by rfl) (ra_cons (rv 2) (ra_cons (rv 3) ra_nil))) (nomark _)) (rx_one (rx_call c_law_all_whole hr (by decide) (by rfl) (ra_cons (rv 4) ra_nil))))))))))
end
theorem all_mk {l : PySem.W.OpenLaw} {w : World} {K : PySem.W.Frag} {h : Heap} {mg : PySem.Str → Option Value} {fa : Addr} (hF : ∀ ns : List Int, ns.length ≤ 63 → ∃ m, f_law [.ref 0] [.rol (ns.map PV.int)] = some (.bl true, m)) (X : K.In h) (G : h.Ns mainGlobals mg) (hfa : mg "law" = some (.ref fa))
    {C0 : Addr}
    {f0 f1 f2 f3 f4 f5 f6 f7 f8 f9 f10 f11 f12 f13 f14 f15 f16 f17 f18 f19 f20 f21 f22 f23 f24 f25 f26 f27 f28 f29 f30 : Addr}
    {od0 an0 od1 an1 od2 an2 od3 an3 od4 an4 od5 an5 od6 an6 od7 an7 od8 an8 od9 an9 od10 an10 od11 an11 od12 an12 od13 an13 od14 an14 od15 an15 od16 an16 od17 an17 od18 an18 od19 an19 od20 an20 od21 an21 od22 an22 od23 an23 od24 an24 od25 an25 od26 an26 od27 an27 od28 an28 od29 an29 od30 an30 : Option Addr} {sl0 sl1 sl2 sl3 sl4 sl5 sl6 sl7 sl8 sl9 sl10 sl11 sl12 sl13 sl14 sl15 sl16 sl17 sl18 sl19 sl20 sl21 sl22 sl23 sl24 sl25 sl26 sl27 sl28 sl29 sl30 : Array (Option Value)} {oc0 kV0 dc0 pm0 cd0 ct0 oc1 kV1 dc1 pm1 cd1 ct1 oc2 kV2 dc2 pm2 cd2 ct2 oc3 kV3 dc3 pm3 cd3 ct3 oc4 kV4 dc4 pm4 cd4 ct4 oc5 kV5 dc5 pm5 cd5 ct5 oc6 kV6 dc6 pm6 cd6 ct6 oc7 kV7 dc7 pm7 cd7 ct7 oc8 kV8 dc8 pm8 cd8 ct8 oc9 kV9 dc9 pm9 cd9 ct9 oc10 kV10 dc10 pm10 cd10 ct10 oc11 kV11 dc11 pm11 cd11 ct11 oc12 kV12 dc12 pm12 cd12 ct12 oc13 kV13 dc13 pm13 cd13 ct13 oc14 kV14 dc14 pm14 cd14 ct14 oc15 kV15 dc15 pm15 cd15 ct15 oc16 kV16 dc16 pm16 cd16 ct16 oc17 kV17 dc17 pm17 cd17 ct17 oc18 kV18 dc18 pm18 cd18 ct18 oc19 kV19 dc19 pm19 cd19 ct19 oc20 kV20 dc20 pm20 cd20 ct20 oc21 kV21 dc21 pm21 cd21 ct21 oc22 kV22 dc22 pm22 cd22 ct22 oc23 kV23 dc23 pm23 cd23 ct23 oc24 kV24 dc24 pm24 cd24 ct24 oc25 kV25 dc25 pm25 cd25 ct25 oc26 kV26 dc26 pm26 cd26 ct26 oc27 kV27 dc27 pm27 cd27 ct27 oc28 kV28 dc28 pm28 cd28 ct28 oc29 kV29 dc29 pm29 cd29 ct29 oc30 kV30 dc30 pm30 cd30 ct30 : Value}
    (aC0 : PySem.W.nsIn K mainGlobals "State" = some (some (.ref C0)))
    (pg0 : PySem.W.plainGet K C0 Str.empty = true)
    (hd0 : PySem.W.hasDictIn K C0 = true)
    (po0 : PySem.W.plainOver K C0 = true)
    (sa0 : PySem.W.findIn K (.ref C0) "__setattr__" = some (some (.builtin "object.__setattr__")))
    (mk0 : PySem.W.makesIn K C0 = true)
    (kc0 : PySem.W.keepIn K (.ref C0) = true)
    (n0_registers : PySem.W.findIn K (.ref C0) "registers" = some none)
    (n0_cells : PySem.W.findIn K (.ref C0) "cells" = some none)
    (n0_outputs : PySem.W.findIn K (.ref C0) "outputs" = some none)
    (a0 : PySem.W.nsIn K mainGlobals "_law_start" = some (some (.ref f0)))
    (l0 : K.lookup f0 = some ⟨oc0, od0, .func (PySem.W.fnOf "_law_start" "_law_start" (defArgs s_law_start) (defBody s_law_start) (defScope s_law_start) .none kV0 dc0 pm0 an0 cd0 ct0), sl0⟩)
    (c0 : PySem.W.codeIn K cd0 "_law_start" = true)
    (k0 : PySem.W.keepIn K (.ref f0) = true)
    (a1 : PySem.W.nsIn K mainGlobals "_law_value" = some (some (.ref f1)))
    (l1 : K.lookup f1 = some ⟨oc1, od1, .func (PySem.W.fnOf "_law_value" "_law_value" (defArgs s_law_value) (defBody s_law_value) (defScope s_law_value) .none kV1 dc1 pm1 an1 cd1 ct1), sl1⟩)
    (c1 : PySem.W.codeIn K cd1 "_law_value" = true)
    (k1 : PySem.W.keepIn K (.ref f1) = true)
    (a2 : PySem.W.nsIn K mainGlobals "_law_wrapped" = some (some (.ref f2)))
    (l2 : K.lookup f2 = some ⟨oc2, od2, .func (PySem.W.fnOf "_law_wrapped" "_law_wrapped" (defArgs s_law_wrapped) (defBody s_law_wrapped) (defScope s_law_wrapped) .none kV2 dc2 pm2 an2 cd2 ct2), sl2⟩)
    (c2 : PySem.W.codeIn K cd2 "_law_wrapped" = true)
    (k2 : PySem.W.keepIn K (.ref f2) = true)
    (a3 : PySem.W.nsIn K mainGlobals "_law_computed" = some (some (.ref f3)))
    (l3 : K.lookup f3 = some ⟨oc3, od3, .func (PySem.W.fnOf "_law_computed" "_law_computed" (defArgs s_law_computed) (defBody s_law_computed) (defScope s_law_computed) .none kV3 dc3 pm3 an3 cd3 ct3), sl3⟩)
    (c3 : PySem.W.codeIn K cd3 "_law_computed" = true)
    (k3 : PySem.W.keepIn K (.ref f3) = true)
    (a4 : PySem.W.nsIn K mainGlobals "_law_results" = some (some (.ref f4)))
    (l4 : K.lookup f4 = some ⟨oc4, od4, .func (PySem.W.fnOf "_law_results" "_law_results" (defArgs s_law_results) (defBody s_law_results) (defScope s_law_results) .none kV4 dc4 pm4 an4 cd4 ct4), sl4⟩)
    (c4 : PySem.W.codeIn K cd4 "_law_results" = true)
    (k4 : PySem.W.keepIn K (.ref f4) = true)
    (a5 : PySem.W.nsIn K mainGlobals "_law_put" = some (some (.ref f5)))
    (l5 : K.lookup f5 = some ⟨oc5, od5, .func (PySem.W.fnOf "_law_put" "_law_put" (defArgs s_law_put) (defBody s_law_put) (defScope s_law_put) .none kV5 dc5 pm5 an5 cd5 ct5), sl5⟩)
    (c5 : PySem.W.codeIn K cd5 "_law_put" = true)
    (k5 : PySem.W.keepIn K (.ref f5) = true)
    (a6 : PySem.W.nsIn K mainGlobals "_law_turns" = some (some (.ref f6)))
    (l6 : K.lookup f6 = some ⟨oc6, od6, .func (PySem.W.fnOf "_law_turns" "_law_turns" (defArgs s_law_turns) (defBody s_law_turns) (defScope s_law_turns) .none kV6 dc6 pm6 an6 cd6 ct6), sl6⟩)
    (c6 : PySem.W.codeIn K cd6 "_law_turns" = true)
    (k6 : PySem.W.keepIn K (.ref f6) = true)
    (a7 : PySem.W.nsIn K mainGlobals "_law_begin" = some (some (.ref f7)))
    (l7 : K.lookup f7 = some ⟨oc7, od7, .func (PySem.W.fnOf "_law_begin" "_law_begin" (defArgs s_law_begin) (defBody s_law_begin) (defScope s_law_begin) .none kV7 dc7 pm7 an7 cd7 ct7), sl7⟩)
    (c7 : PySem.W.codeIn K cd7 "_law_begin" = true)
    (k7 : PySem.W.keepIn K (.ref f7) = true)
    (a8 : PySem.W.nsIn K mainGlobals "_law_run" = some (some (.ref f8)))
    (l8 : K.lookup f8 = some ⟨oc8, od8, .func (PySem.W.fnOf "_law_run" "_law_run" (defArgs s_law_run) (defBody s_law_run) (defScope s_law_run) .none kV8 dc8 pm8 an8 cd8 ct8), sl8⟩)
    (c8 : PySem.W.codeIn K cd8 "_law_run" = true)
    (k8 : PySem.W.keepIn K (.ref f8) = true)
    (a9 : PySem.W.nsIn K mainGlobals "_law_whole" = some (some (.ref f9)))
    (l9 : K.lookup f9 = some ⟨oc9, od9, .func (PySem.W.fnOf "_law_whole" "_law_whole" (defArgs s_law_whole) (defBody s_law_whole) (defScope s_law_whole) .none kV9 dc9 pm9 an9 cd9 ct9), sl9⟩)
    (c9 : PySem.W.codeIn K cd9 "_law_whole" = true)
    (k9 : PySem.W.keepIn K (.ref f9) = true)
    (a10 : PySem.W.nsIn K mainGlobals "_law_all_whole" = some (some (.ref f10)))
    (l10 : K.lookup f10 = some ⟨oc10, od10, .func (PySem.W.fnOf "_law_all_whole" "_law_all_whole" (defArgs s_law_all_whole) (defBody s_law_all_whole) (defScope s_law_all_whole) .none kV10 dc10 pm10 an10 cd10 ct10), sl10⟩)
    (c10 : PySem.W.codeIn K cd10 "_law_all_whole" = true)
    (k10 : PySem.W.keepIn K (.ref f10) = true)
    (a11 : PySem.W.findIn K (.ref C0) "told" = some (some (.ref f11)))
    (i11 : PySem.W.isFn K (.ref f11) = true)
    (l11 : K.lookup f11 = some ⟨oc11, od11, .func (PySem.W.fnOf "told" "State.told" (defArgs s_State_told) (defBody s_State_told) (defScope s_State_told) .none kV11 dc11 pm11 an11 cd11 ct11), sl11⟩)
    (c11 : PySem.W.codeIn K cd11 "State.told" = true)
    (k11 : PySem.W.keepIn K (.ref f11) = true)
    (a12 : PySem.W.findIn K (.ref C0) "worth" = some (some (.ref f12)))
    (i12 : PySem.W.isFn K (.ref f12) = true)
    (l12 : K.lookup f12 = some ⟨oc12, od12, .func (PySem.W.fnOf "worth" "State.worth" (defArgs s_State_worth) (defBody s_State_worth) (defScope s_State_worth) .none kV12 dc12 pm12 an12 cd12 ct12), sl12⟩)
    (c12 : PySem.W.codeIn K cd12 "State.worth" = true)
    (k12 : PySem.W.keepIn K (.ref f12) = true)
    (a13 : PySem.W.nsIn K mainGlobals "turns_of" = some (some (.ref f13)))
    (l13 : K.lookup f13 = some ⟨oc13, od13, .func (PySem.W.fnOf "turns_of" "turns_of" (defArgs s_turns_of) (defBody s_turns_of) (defScope s_turns_of) .none kV13 dc13 pm13 an13 cd13 ct13), sl13⟩)
    (c13 : PySem.W.codeIn K cd13 "turns_of" = true)
    (k13 : PySem.W.keepIn K (.ref f13) = true)
    (a14 : PySem.W.findIn K (.ref C0) "finish" = some (some (.ref f14)))
    (i14 : PySem.W.isFn K (.ref f14) = true)
    (l14 : K.lookup f14 = some ⟨oc14, od14, .func (PySem.W.fnOf "finish" "State.finish" (defArgs s_State_finish) (defBody s_State_finish) (defScope s_State_finish) .none kV14 dc14 pm14 an14 cd14 ct14), sl14⟩)
    (c14 : PySem.W.codeIn K cd14 "State.finish" = true)
    (k14 : PySem.W.keepIn K (.ref f14) = true)
    (a15 : PySem.W.nsIn K mainGlobals "wrap" = some (some (.ref f15)))
    (l15 : K.lookup f15 = some ⟨oc15, od15, .func (PySem.W.fnOf "wrap" "wrap" (defArgs s_wrap) (defBody s_wrap) (defScope s_wrap) .none kV15 dc15 pm15 an15 cd15 ct15), sl15⟩)
    (c15 : PySem.W.codeIn K cd15 "wrap" = true)
    (k15 : PySem.W.keepIn K (.ref f15) = true)
    (a16 : PySem.W.nsIn K mainGlobals "operate" = some (some (.ref f16)))
    (l16 : K.lookup f16 = some ⟨oc16, od16, .func (PySem.W.fnOf "operate" "operate" (defArgs s_operate) (defBody s_operate) (defScope s_operate) .none kV16 dc16 pm16 an16 cd16 ct16), sl16⟩)
    (c16 : PySem.W.codeIn K cd16 "operate" = true)
    (k16 : PySem.W.keepIn K (.ref f16) = true)
    (a17 : PySem.W.findIn K (.ref C0) "begin" = some (some (.ref f17)))
    (i17 : PySem.W.isFn K (.ref f17) = true)
    (l17 : K.lookup f17 = some ⟨oc17, od17, .func (PySem.W.fnOf "begin" "State.begin" (defArgs s_State_begin) (defBody s_State_begin) (defScope s_State_begin) .none kV17 dc17 pm17 an17 cd17 ct17), sl17⟩)
    (c17 : PySem.W.codeIn K cd17 "State.begin" = true)
    (k17 : PySem.W.keepIn K (.ref f17) = true)
    (a18 : PySem.W.findIn K (.ref C0) "execute" = some (some (.ref f18)))
    (i18 : PySem.W.isFn K (.ref f18) = true)
    (l18 : K.lookup f18 = some ⟨oc18, od18, .func (PySem.W.fnOf "execute" "State.execute" (defArgs s_State_execute) (defBody s_State_execute) (defScope s_State_execute) .none kV18 dc18 pm18 an18 cd18 ct18), sl18⟩)
    (c18 : PySem.W.codeIn K cd18 "State.execute" = true)
    (k18 : PySem.W.keepIn K (.ref f18) = true)
    (a19 : PySem.W.findIn K (.ref C0) "execute_loop" = some (some (.ref f19)))
    (i19 : PySem.W.isFn K (.ref f19) = true)
    (l19 : K.lookup f19 = some ⟨oc19, od19, .func (PySem.W.fnOf "execute_loop" "State.execute_loop" (defArgs s_State_execute_loop) (defBody s_State_execute_loop) (defScope s_State_execute_loop) .none kV19 dc19 pm19 an19 cd19 ct19), sl19⟩)
    (c19 : PySem.W.codeIn K cd19 "State.execute_loop" = true)
    (k19 : PySem.W.keepIn K (.ref f19) = true)
    (a20 : PySem.W.findIn K (.ref C0) "__init__" = some (some (.ref f20)))
    (i20 : PySem.W.isFn K (.ref f20) = true)
    (l20 : K.lookup f20 = some ⟨oc20, od20, .func (PySem.W.fnOf "__init__" "State.__init__" (defArgs s_State_init) (defBody s_State_init) (defScope s_State_init) .none kV20 dc20 pm20 an20 cd20 ct20), sl20⟩)
    (c20 : PySem.W.codeIn K cd20 "State.__init__" = true)
    (k20 : PySem.W.keepIn K (.ref f20) = true)
    (a21 : PySem.W.nsIn K mainGlobals "run" = some (some (.ref f21)))
    (l21 : K.lookup f21 = some ⟨oc21, od21, .func (PySem.W.fnOf "run" "run" (defArgs s_run) (defBody s_run) (defScope s_run) .none kV21 dc21 pm21 an21 cd21 ct21), sl21⟩)
    (c21 : PySem.W.codeIn K cd21 "run" = true)
    (k21 : PySem.W.keepIn K (.ref f21) = true)
    (a22 : PySem.W.nsIn K mainGlobals "_law_fill" = some (some (.ref f22)))
    (l22 : K.lookup f22 = some ⟨oc22, od22, .func (PySem.W.fnOf "_law_fill" "_law_fill" (defArgs s_law_fill) (defBody s_law_fill) (defScope s_law_fill) .none kV22 dc22 pm22 an22 cd22 ct22), sl22⟩)
    (c22 : PySem.W.codeIn K cd22 "_law_fill" = true)
    (k22 : PySem.W.keepIn K (.ref f22) = true)
    (a23 : PySem.W.nsIn K mainGlobals "_law_take" = some (some (.ref f23)))
    (l23 : K.lookup f23 = some ⟨oc23, od23, .func (PySem.W.fnOf "_law_take" "_law_take" (defArgs s_law_take) (defBody s_law_take) (defScope s_law_take) .none kV23 dc23 pm23 an23 cd23 ct23), sl23⟩)
    (c23 : PySem.W.codeIn K cd23 "_law_take" = true)
    (k23 : PySem.W.keepIn K (.ref f23) = true)
    (a24 : PySem.W.nsIn K mainGlobals "_law_integer" = some (some (.ref f24)))
    (l24 : K.lookup f24 = some ⟨oc24, od24, .func (PySem.W.fnOf "_law_integer" "_law_integer" (defArgs s_law_integer) (defBody s_law_integer) (defScope s_law_integer) .none kV24 dc24 pm24 an24 cd24 ct24), sl24⟩)
    (c24 : PySem.W.codeIn K cd24 "_law_integer" = true)
    (k24 : PySem.W.keepIn K (.ref f24) = true)
    (a25 : PySem.W.nsIn K mainGlobals "_law_inputs" = some (some (.ref f25)))
    (l25 : K.lookup f25 = some ⟨oc25, od25, .func (PySem.W.fnOf "_law_inputs" "_law_inputs" (defArgs s_law_inputs) (defBody s_law_inputs) (defScope s_law_inputs) .none kV25 dc25 pm25 an25 cd25 ct25), sl25⟩)
    (c25 : PySem.W.codeIn K cd25 "_law_inputs" = true)
    (k25 : PySem.W.keepIn K (.ref f25) = true)
    (a26 : PySem.W.nsIn K mainGlobals "_law_operand" = some (some (.ref f26)))
    (l26 : K.lookup f26 = some ⟨oc26, od26, .func (PySem.W.fnOf "_law_operand" "_law_operand" (defArgs s_law_operand) (defBody s_law_operand) (defScope s_law_operand) .none kV26 dc26 pm26 an26 cd26 ct26), sl26⟩)
    (c26 : PySem.W.codeIn K cd26 "_law_operand" = true)
    (k26 : PySem.W.keepIn K (.ref f26) = true)
    (a27 : PySem.W.nsIn K mainGlobals "_law_instruction" = some (some (.ref f27)))
    (l27 : K.lookup f27 = some ⟨oc27, od27, .func (PySem.W.fnOf "_law_instruction" "_law_instruction" (defArgs s_law_instruction) (defBody s_law_instruction) (defScope s_law_instruction) .none kV27 dc27 pm27 an27 cd27 ct27), sl27⟩)
    (c27 : PySem.W.codeIn K cd27 "_law_instruction" = true)
    (k27 : PySem.W.keepIn K (.ref f27) = true)
    (a28 : PySem.W.nsIn K mainGlobals "_law_block" = some (some (.ref f28)))
    (l28 : K.lookup f28 = some ⟨oc28, od28, .func (PySem.W.fnOf "_law_block" "_law_block" (defArgs s_law_block) (defBody s_law_block) (defScope s_law_block) .none kV28 dc28 pm28 an28 cd28 ct28), sl28⟩)
    (c28 : PySem.W.codeIn K cd28 "_law_block" = true)
    (k28 : PySem.W.keepIn K (.ref f28) = true)
    (a29 : PySem.W.nsIn K mainGlobals "_law_program" = some (some (.ref f29)))
    (l29 : K.lookup f29 = some ⟨oc29, od29, .func (PySem.W.fnOf "_law_program" "_law_program" (defArgs s_law_program) (defBody s_law_program) (defScope s_law_program) .none kV29 dc29 pm29 an29 cd29 ct29), sl29⟩)
    (c29 : PySem.W.codeIn K cd29 "_law_program" = true)
    (k29 : PySem.W.keepIn K (.ref f29) = true)
    (a30 : PySem.W.nsIn K mainGlobals "law" = some (some (.ref f30)))
    (l30 : K.lookup f30 = some ⟨oc30, od30, .func (PySem.W.fnOf "law" "law" (defArgs s_law) (defBody s_law) (defScope s_law) .none kV30 dc30 pm30 an30 cd30 ct30), sl30⟩)
    (c30 : PySem.W.codeIn K cd30 "law" = true)
    (k30 : PySem.W.keepIn K (.ref f30) = true)
    {tk_CELLS : Tok} (g_CELLS : PySem.W.nsIn K mainGlobals "CELLS" = some (some (.int (16) tk_CELLS)))
    {tk_LOWEST : Tok} (g_LOWEST : PySem.W.nsIn K mainGlobals "LOWEST" = some (some (.int (-2147483648) tk_LOWEST)))
    {tk_MODULUS : Tok} (g_MODULUS : PySem.W.nsIn K mainGlobals "MODULUS" = some (some (.int (4294967296) tk_MODULUS)))
    {tk_MOST_TURNS : Tok} (g_MOST_TURNS : PySem.W.nsIn K mainGlobals "MOST_TURNS" = some (some (.int (40) tk_MOST_TURNS)))
    {tk_REGISTERS : Tok} (g_REGISTERS : PySem.W.nsIn K mainGlobals "REGISTERS" = some (some (.int (16) tk_REGISTERS)))
    (z_all : PySem.W.nsIn K mainGlobals "all" = some none)
    (z_bool : PySem.W.nsIn K mainGlobals "bool" = some none)
    (z_dict : PySem.W.nsIn K mainGlobals "dict" = some none)
    (z_enumerate : PySem.W.nsIn K mainGlobals "enumerate" = some none)
    (z_int : PySem.W.nsIn K mainGlobals "int" = some none)
    (z_isinstance : PySem.W.nsIn K mainGlobals "isinstance" = some none)
    (z_len : PySem.W.nsIn K mainGlobals "len" = some none)
    (z_list : PySem.W.nsIn K mainGlobals "list" = some none)
    (z_max : PySem.W.nsIn K mainGlobals "max" = some none)
    (z_min : PySem.W.nsIn K mainGlobals "min" = some none)
    (z_range : PySem.W.nsIn K mainGlobals "range" = some none)
    (z_tuple : PySem.W.nsIn K mainGlobals "tuple" = some none)
    : ∃ fd : FuncData, (∀ (s : Shared) (v : Value), BindsTo s fd ⟨[v], []⟩ [("script", v)]) ∧ ∀ base : Heap, K.In base → base.Ns mainGlobals mg → FnOk l.prog w K mg base CX0 8 fa fd ["script"] (SpLaw K) := by
  have e := hfa.symm.trans (PySem.W.mg_of X G a30)
  cases e
  let cl : Nat → Addr := fun i => [C0].getD i 0
  have T : Txt w K mg cl := ⟨⟨pg0, hd0, po0, sa0⟩, n0_registers, n0_cells, n0_outputs, ⟨_, PySem.W.mg_of X G g_CELLS⟩, ⟨_, PySem.W.mg_of X G g_LOWEST⟩, ⟨_, PySem.W.mg_of X G g_MODULUS⟩, ⟨_, PySem.W.mg_of X G g_MOST_TURNS⟩, ⟨_, PySem.W.mg_of X G g_REGISTERS⟩, PySem.W.mg_none_of X G z_all, PySem.W.mg_none_of X G z_bool, PySem.W.mg_none_of X G z_dict, PySem.W.mg_none_of X G z_enumerate, PySem.W.mg_none_of X G z_int, PySem.W.mg_none_of X G z_isinstance, PySem.W.mg_none_of X G z_len, PySem.W.mg_none_of X G z_list, PySem.W.mg_none_of X G z_max, PySem.W.mg_none_of X G z_min, PySem.W.mg_none_of X G z_range, PySem.W.mg_none_of X G z_tuple⟩
  have F0 := L2.fun_mk (st := s_law_start) l0 c0 k0
  have b0 := F0.binds (ps := ["script"]) fun _ _ _ _ _ _ us hl => match us, hl with | [_], _ => rfl
  have F1 := L2.fun_mk (st := s_law_value) l1 c1 k1
  have b1 := F1.binds (ps := ["o", "regs"]) fun _ _ _ _ _ _ us hl => match us, hl with | [_, _], _ => rfl
  have F2 := L2.fun_mk (st := s_law_wrapped) l2 c2 k2
  have b2 := F2.binds (ps := ["n"]) fun _ _ _ _ _ _ us hl => match us, hl with | [_], _ => rfl
  have F3 := L2.fun_mk (st := s_law_computed) l3 c3 k3
  have b3 := F3.binds (ps := ["kind", "a", "b"]) fun _ _ _ _ _ _ us hl => match us, hl with | [_, _, _], _ => rfl
  have F4 := L2.fun_mk (st := s_law_results) l4 c4 k4
  have b4 := F4.binds (ps := ["one", "regs", "cells", "outs"]) fun _ _ _ _ _ _ us hl => match us, hl with | [_, _, _, _], _ => rfl
  have F5 := L2.fun_mk (st := s_law_put) l5 c5 k5
  have b5 := F5.binds (ps := ["results", "regs", "cells"]) fun _ _ _ _ _ _ us hl => match us, hl with | [_, _, _], _ => rfl
  have F6 := L2.fun_mk (st := s_law_turns) l6 c6 k6
  have b6 := F6.binds (ps := ["n"]) fun _ _ _ _ _ _ us hl => match us, hl with | [_], _ => rfl
  have F7 := L2.fun_mk (st := s_law_begin) l7 c7 k7
  have b7 := F7.binds (ps := ["inputs"]) fun _ _ _ _ _ _ us hl => match us, hl with | [_], _ => rfl
  have F8 := L2.fun_mk (st := s_law_run) l8 c8 k8
  have b8 := F8.binds (ps := ["program", "inputs"]) fun _ _ _ _ _ _ us hl => match us, hl with | [_, _], _ => rfl
  have F9 := L2.fun_mk (st := s_law_whole) l9 c9 k9
  have b9 := F9.binds (ps := ["n"]) fun _ _ _ _ _ _ us hl => match us, hl with | [_], _ => rfl
  have F10 := L2.fun_mk (st := s_law_all_whole) l10 c10 k10
  have b10 := F10.binds (ps := ["value"]) fun _ _ _ _ _ _ us hl => match us, hl with | [_], _ => rfl
  have F11 := L2.fun_mk (st := s_State_told) l11 c11 k11
  have b11 := F11.binds (ps := ["self"]) fun _ _ _ _ _ _ us hl => match us, hl with | [_], _ => rfl
  have F12 := L2.fun_mk (st := s_State_worth) l12 c12 k12
  have b12 := F12.binds (ps := ["self", "operand"]) fun _ _ _ _ _ _ us hl => match us, hl with | [_, _], _ => rfl
  have F13 := L2.fun_mk (st := s_turns_of) l13 c13 k13
  have b13 := F13.binds (ps := ["number"]) fun _ _ _ _ _ _ us hl => match us, hl with | [_], _ => rfl
  have F14 := L2.fun_mk (st := s_State_finish) l14 c14 k14
  have b14 := F14.binds (ps := ["self", "result"]) fun _ _ _ _ _ _ us hl => match us, hl with | [_, _], _ => rfl
  have F15 := L2.fun_mk (st := s_wrap) l15 c15 k15
  have b15 := F15.binds (ps := ["number"]) fun _ _ _ _ _ _ us hl => match us, hl with | [_], _ => rfl
  have F16 := L2.fun_mk (st := s_operate) l16 c16 k16
  have b16 := F16.binds (ps := ["op", "a", "b"]) fun _ _ _ _ _ _ us hl => match us, hl with | [_, _, _], _ => rfl
  have F17 := L2.fun_mk (st := s_State_begin) l17 c17 k17
  have b17 := F17.binds (ps := ["self", "instruction"]) fun _ _ _ _ _ _ us hl => match us, hl with | [_, _], _ => rfl
  have F18 := L2.fun_mk (st := s_State_execute) l18 c18 k18
  have b18 := F18.binds (ps := ["self", "instruction"]) fun _ _ _ _ _ _ us hl => match us, hl with | [_, _], _ => rfl
  have F19 := L2.fun_mk (st := s_State_execute_loop) l19 c19 k19
  have b19 := F19.binds (ps := ["self", "number", "body"]) fun _ _ _ _ _ _ us hl => match us, hl with | [_, _, _], _ => rfl
  have F20 := L2.fun_mk (st := s_State_init) l20 c20 k20
  have b20 := F20.binds (ps := ["self", "inputs"]) fun _ _ _ _ _ _ us hl => match us, hl with | [_, _], _ => rfl
  have F21 := L2.fun_mk (st := s_run) l21 c21 k21
  have b21 := F21.binds (ps := ["program", "inputs"]) fun _ _ _ _ _ _ us hl => match us, hl with | [_, _], _ => rfl
  have F22 := L2.fun_mk (st := s_law_fill) l22 c22 k22
  have b22 := F22.binds (ps := ["c"]) fun _ _ _ _ _ _ us hl => match us, hl with | [_], _ => rfl
  have F23 := L2.fun_mk (st := s_law_take) l23 c23 k23
  have b23 := F23.binds (ps := ["c", "many"]) fun _ _ _ _ _ _ us hl => match us, hl with | [_, _], _ => rfl
  have F24 := L2.fun_mk (st := s_law_integer) l24 c24 k24
  have b24 := F24.binds (ps := ["c"]) fun _ _ _ _ _ _ us hl => match us, hl with | [_], _ => rfl
  have F25 := L2.fun_mk (st := s_law_inputs) l25 c25 k25
  have b25 := F25.binds (ps := ["c"]) fun _ _ _ _ _ _ us hl => match us, hl with | [_], _ => rfl
  have F26 := L2.fun_mk (st := s_law_operand) l26 c26 k26
  have b26 := F26.binds (ps := ["c", "many"]) fun _ _ _ _ _ _ us hl => match us, hl with | [_, _], _ => rfl
  have F27 := L2.fun_mk (st := s_law_instruction) l27 c27 k27
  have b27 := F27.binds (ps := ["c", "many"]) fun _ _ _ _ _ _ us hl => match us, hl with | [_, _], _ => rfl
  have F28 := L2.fun_mk (st := s_law_block) l28 c28 k28
  have b28 := F28.binds (ps := ["c", "many", "most"]) fun _ _ _ _ _ _ us hl => match us, hl with | [_, _, _], _ => rfl
  have F29 := L2.fun_mk (st := s_law_program) l29 c29 k29
  have b29 := F29.binds (ps := ["c", "many", "most"]) fun _ _ _ _ _ _ us hl => match us, hl with | [_, _, _], _ => rfl
  have F30 := L2.fun_mk (st := s_law) l30 c30 k30
  have b30 := F30.binds (ps := ["script"]) fun _ _ _ _ _ _ us hl => match us, hl with | [_], _ => rfl
  refine ⟨PySem.W.fnOf "law" "law" (defArgs s_law) (defBody s_law) (defScope s_law) .none kV30 dc30 pm30 an30 cd30 ct30, fun s v => .of_eq rfl, fun base _ _ => ?_⟩
  have o0 : FnOk l.prog w K mg base CX0 1 f0 _ ["script"] (SpF K cl 1 f_law_start) := ok_law_start T F0 
  have c_law_start : C8.Cal l.prog w K mg base 1 "_law_start" (SpF K cl 1 f_law_start) [] := cal_of o0 (PySem.W.mg_of X G a0) k0 b0
  have o1 : FnOk l.prog w K mg base CX0 1 f1 _ ["o", "regs"] (SpF K cl 2 f_law_value) := ok_law_value T F1 
  have c_law_value : C8.Cal l.prog w K mg base 1 "_law_value" (SpF K cl 2 f_law_value) [] := cal_of o1 (PySem.W.mg_of X G a1) k1 b1
  have o2 : FnOk l.prog w K mg base CX0 1 f2 _ ["n"] (SpF K cl 1 f_law_wrapped) := ok_law_wrapped T F2 
  have c_law_wrapped : C8.Cal l.prog w K mg base 1 "_law_wrapped" (SpF K cl 1 f_law_wrapped) [] := cal_of o2 (PySem.W.mg_of X G a2) k2 b2
  have o3 : FnOk l.prog w K mg base CX0 2 f3 _ ["kind", "a", "b"] (SpF K cl 3 f_law_computed) := ok_law_computed T F3 c_law_wrapped
  have c_law_computed : C8.Cal l.prog w K mg base 2 "_law_computed" (SpF K cl 3 f_law_computed) [] := cal_of o3 (PySem.W.mg_of X G a3) k3 b3
  have o4 : FnOk l.prog w K mg base CX0 3 f4 _ ["one", "regs", "cells", "outs"] (SpF K cl 4 f_law_results) := ok_law_results T F4 c_law_computed c_law_value
  have c_law_results : C8.Cal l.prog w K mg base 3 "_law_results" (SpF K cl 4 f_law_results) [] := cal_of o4 (PySem.W.mg_of X G a4) k4 b4
  have o5 : FnOk l.prog w K mg base CX0 1 f5 _ ["results", "regs", "cells"] (SpF K cl 3 f_law_put) := ok_law_put T F5 
  have c_law_put : C8.Cal l.prog w K mg base 1 "_law_put" (SpF K cl 3 f_law_put) [] := cal_of o5 (PySem.W.mg_of X G a5) k5 b5
  have o6 : FnOk l.prog w K mg base CX0 1 f6 _ ["n"] (SpF K cl 1 f_law_turns) := ok_law_turns T F6 
  have c_law_turns : C8.Cal l.prog w K mg base 1 "_law_turns" (SpF K cl 1 f_law_turns) [] := cal_of o6 (PySem.W.mg_of X G a6) k6 b6
  have o7 : FnOk l.prog w K mg base CX0 1 f7 _ ["inputs"] (SpF K cl 1 f_law_begin) := ok_law_begin T F7 
  have c_law_begin : C8.Cal l.prog w K mg base 1 "_law_begin" (SpF K cl 1 f_law_begin) [] := cal_of o7 (PySem.W.mg_of X G a7) k7 b7
  have o8 : FnOk l.prog w K mg base CX0 4 f8 _ ["program", "inputs"] (SpF K cl 2 f_law_run) := ok_law_run T F8 c_law_put c_law_results c_law_turns c_law_value c_law_begin
  have c_law_run : C8.Cal l.prog w K mg base 4 "_law_run" (SpF K cl 2 f_law_run) [] := cal_of o8 (PySem.W.mg_of X G a8) k8 b8
  have o9 : FnOk l.prog w K mg base CX0 1 f9 _ ["n"] (SpF K cl 1 f_law_whole) := ok_law_whole T F9 
  have c_law_whole : C8.Cal l.prog w K mg base 1 "_law_whole" (SpF K cl 1 f_law_whole) [] := cal_of o9 (PySem.W.mg_of X G a9) k9 b9
  have o10 : FnOk l.prog w K mg base CX0 6 f10 _ ["value"] (SpF K cl 1 f_law_all_whole) := okr_law_all_whole T F10 (PySem.W.mg_of X G a10) b10 c_law_whole 4
  have c_law_all_whole : C8.Cal l.prog w K mg base 6 "_law_all_whole" (SpF K cl 1 f_law_all_whole) [] := cal_of o10 (PySem.W.mg_of X G a10) k10 b10
  have o11 : FnOk l.prog w K mg base CX0 1 f11 _ ["self"] (SpF K cl 1 f_State_told) := ok_State_told T F11 
  have c_State_told : C8.Met l.prog w K mg base 1 (cl 0) "told" (SpF K cl 1 f_State_told) [] := met_of o11 T.cl0 ⟨a11, i11, k11⟩ b11
  have o12 : FnOk l.prog w K mg base CX0 1 f12 _ ["self", "operand"] (SpF K cl 2 f_State_worth) := ok_State_worth T F12 
  have c_State_worth : C8.Met l.prog w K mg base 1 (cl 0) "worth" (SpF K cl 2 f_State_worth) [] := met_of o12 T.cl0 ⟨a12, i12, k12⟩ b12
  have o13 : FnOk l.prog w K mg base CX0 1 f13 _ ["number"] (SpF K cl 1 f_turns_of) := ok_turns_of T F13 
  have c_turns_of : C8.Cal l.prog w K mg base 1 "turns_of" (SpF K cl 1 f_turns_of) [] := cal_of o13 (PySem.W.mg_of X G a13) k13 b13
  have o14 : FnOk l.prog w K mg base CX0 1 f14 _ ["self", "result"] (SpF K cl 2 f_State_finish) := ok_State_finish T F14 
  have c_State_finish : C8.Met l.prog w K mg base 1 (cl 0) "finish" (SpF K cl 2 f_State_finish) [] := met_of o14 T.cl0 ⟨a14, i14, k14⟩ b14
  have o15 : FnOk l.prog w K mg base CX0 1 f15 _ ["number"] (SpF K cl 1 f_wrap) := ok_wrap T F15 
  have c_wrap : C8.Cal l.prog w K mg base 1 "wrap" (SpF K cl 1 f_wrap) [] := cal_of o15 (PySem.W.mg_of X G a15) k15 b15
  have o16 : FnOk l.prog w K mg base CX0 2 f16 _ ["op", "a", "b"] (SpF K cl 3 f_operate) := ok_operate T F16 c_wrap
  have c_operate : C8.Cal l.prog w K mg base 2 "operate" (SpF K cl 3 f_operate) [] := cal_of o16 (PySem.W.mg_of X G a16) k16 b16
  have o17 : FnOk l.prog w K mg base CX0 3 f17 _ ["self", "instruction"] (SpF K cl 2 f_State_begin) := ok_State_begin T F17 c_operate c_State_worth
  have c_State_begin : C8.Met l.prog w K mg base 3 (cl 0) "begin" (SpF K cl 2 f_State_begin) [] := met_of o17 T.cl0 ⟨a17, i17, k17⟩ b17
  have o18 : FnOk l.prog w K mg base CX0 4 f18 _ ["self", "instruction"] (SpF K cl 2 f_State_execute) := ok_State_execute T F18 c_State_finish c_State_begin
  have c_State_execute : C8.Met l.prog w K mg base 4 (cl 0) "execute" (SpF K cl 2 f_State_execute) [] := met_of o18 T.cl0 ⟨a18, i18, k18⟩ b18
  have o19 : FnOk l.prog w K mg base CX0 5 f19 _ ["self", "number", "body"] (SpF K cl 3 f_State_execute_loop) := ok_State_execute_loop T F19 c_turns_of c_State_worth c_State_execute
  have c_State_execute_loop : C8.Met l.prog w K mg base 5 (cl 0) "execute_loop" (SpF K cl 3 f_State_execute_loop) [] := met_of o19 T.cl0 ⟨a19, i19, k19⟩ b19
  have o20 : FnOk l.prog w K mg base CX0 1 f20 _ ["self", "inputs"] (SpF K cl 2 f_State_init) := ok_State_init T F20 
  have k_State : C8.Mak l.prog w K mg base 1 "State" (cl 0) (SpF K cl 2 f_State_init) [] := mak_of o20 ⟨mk0, a20, i20, kc0⟩ (PySem.W.mg_of X G aC0) b20
  have o21 : FnOk l.prog w K mg base CX0 6 f21 _ ["program", "inputs"] (SpF K cl 2 f_run) := ok_run T F21 c_State_told c_State_execute_loop c_State_execute k_State
  have c_run : C8.Cal l.prog w K mg base 6 "run" (SpF K cl 2 f_run) [] := cal_of o21 (PySem.W.mg_of X G a21) k21 b21
  have o22 : FnOk l.prog w K mg base CX0 1 f22 _ ["c"] (SpF K cl 1 f_law_fill) := ok_law_fill T F22 
  have c_law_fill : C8.Cal l.prog w K mg base 1 "_law_fill" (SpF K cl 1 f_law_fill) [] := cal_of o22 (PySem.W.mg_of X G a22) k22 b22
  have o23 : FnOk l.prog w K mg base CX0 2 f23 _ ["c", "many"] (SpF K cl 2 f_law_take) := ok_law_take T F23 c_law_fill
  have c_law_take : C8.Cal l.prog w K mg base 2 "_law_take" (SpF K cl 2 f_law_take) [] := cal_of o23 (PySem.W.mg_of X G a23) k23 b23
  have o24 : FnOk l.prog w K mg base CX0 3 f24 _ ["c"] (SpF K cl 1 f_law_integer) := ok_law_integer T F24 c_law_take
  have c_law_integer : C8.Cal l.prog w K mg base 3 "_law_integer" (SpF K cl 1 f_law_integer) [] := cal_of o24 (PySem.W.mg_of X G a24) k24 b24
  have o25 : FnOk l.prog w K mg base CX0 4 f25 _ ["c"] (SpF K cl 1 f_law_inputs) := ok_law_inputs T F25 c_law_take c_law_integer
  have c_law_inputs : C8.Cal l.prog w K mg base 4 "_law_inputs" (SpF K cl 1 f_law_inputs) [] := cal_of o25 (PySem.W.mg_of X G a25) k25 b25
  have o26 : FnOk l.prog w K mg base CX0 4 f26 _ ["c", "many"] (SpF K cl 2 f_law_operand) := ok_law_operand T F26 c_law_integer c_law_take
  have c_law_operand : C8.Cal l.prog w K mg base 4 "_law_operand" (SpF K cl 2 f_law_operand) [] := cal_of o26 (PySem.W.mg_of X G a26) k26 b26
  have o27 : FnOk l.prog w K mg base CX0 5 f27 _ ["c", "many"] (SpF K cl 2 f_law_instruction) := ok_law_instruction T F27 c_law_operand c_law_take
  have c_law_instruction : C8.Cal l.prog w K mg base 5 "_law_instruction" (SpF K cl 2 f_law_instruction) [] := cal_of o27 (PySem.W.mg_of X G a27) k27 b27
  have o28 : FnOk l.prog w K mg base CX0 6 f28 _ ["c", "many", "most"] (SpF K cl 3 f_law_block) := ok_law_block T F28 c_law_take c_law_instruction
  have c_law_block : C8.Cal l.prog w K mg base 6 "_law_block" (SpF K cl 3 f_law_block) [] := cal_of o28 (PySem.W.mg_of X G a28) k28 b28
  have o29 : FnOk l.prog w K mg base CX0 7 f29 _ ["c", "many", "most"] (SpF K cl 3 f_law_program) := ok_law_program T F29 c_law_take c_law_instruction c_law_block
  have c_law_program : C8.Cal l.prog w K mg base 7 "_law_program" (SpF K cl 3 f_law_program) [] := cal_of o29 (PySem.W.mg_of X G a29) k29 b29
  have o30 : FnOk l.prog w K mg base CX0 8 _ _ ["script"] (SpF K cl 1 f_law) := ok_law T F30 c_law_start c_law_run c_law_all_whole c_run c_law_inputs c_law_program c_law_take
  exact o30.imp (law_sp hF)
end Gen
end

open PySem PySem.W PyProof.Rows
set_option maxRecDepth 100000 in
set_option maxHeartbeats 0 in
theorem PySem.Challenge.cw_trireme_k10_plain_runs_holds : PySem.Challenge.rw_trireme_k10_plain_runs.Holds := by
  w_on; o_law; k_head; (case hw => w_witness2)
  k_fill
  refine L2.walk_ofK (l := PySem.Challenge.rw_trireme_k10_plain_runs) (n := 63) (k := 8) (x := "script") (CX := L2.CX0) (sp := fun K vs H Q E => Rf.SpLaw K vs H Q E) rfl (by decide) rfl ⟨rfl, by decide, by decide⟩ (fun w h Y => PySem.W.kIn_of Y) ?F (fun _ _ a ns hl hO hS => ⟨a, ns, rfl, hS, hO, hl, fun _ => rfl⟩) (fun _ _ _ _ h => h)
  case F =>
    intro w mg fa h KX G hmg
    refine' Gen.all_mk Gen.law_true KX G hmg ?aC0 ?pg0 ?hd0 ?po0 ?sa0 ?mk0 ?kc0 ?n0_registers ?n0_cells ?n0_outputs ?a0 ?l0 ?c0 ?k0 ?a1 ?l1 ?c1 ?k1 ?a2 ?l2 ?c2 ?k2 ?a3 ?l3 ?c3 ?k3 ?a4 ?l4 ?c4 ?k4 ?a5 ?l5 ?c5 ?k5 ?a6 ?l6 ?c6 ?k6 ?a7 ?l7 ?c7 ?k7 ?a8 ?l8 ?c8 ?k8 ?a9 ?l9 ?c9 ?k9 ?a10 ?l10 ?c10 ?k10 ?a11 ?i11 ?l11 ?c11 ?k11 ?a12 ?i12 ?l12 ?c12 ?k12 ?a13 ?l13 ?c13 ?k13 ?a14 ?i14 ?l14 ?c14 ?k14 ?a15 ?l15 ?c15 ?k15 ?a16 ?l16 ?c16 ?k16 ?a17 ?i17 ?l17 ?c17 ?k17 ?a18 ?i18 ?l18 ?c18 ?k18 ?a19 ?i19 ?l19 ?c19 ?k19 ?a20 ?i20 ?l20 ?c20 ?k20 ?a21 ?l21 ?c21 ?k21 ?a22 ?l22 ?c22 ?k22 ?a23 ?l23 ?c23 ?k23 ?a24 ?l24 ?c24 ?k24 ?a25 ?l25 ?c25 ?k25 ?a26 ?l26 ?c26 ?k26 ?a27 ?l27 ?c27 ?k27 ?a28 ?l28 ?c28 ?k28 ?a29 ?l29 ?c29 ?k29 ?a30 ?l30 ?c30 ?k30 ?g_CELLS ?g_LOWEST ?g_MODULUS ?g_MOST_TURNS ?g_REGISTERS ?z_all ?z_bool ?z_dict ?z_enumerate ?z_int ?z_isinstance ?z_len ?z_list ?z_max ?z_min ?z_range ?z_tuple
    (case aC0 => k_is)
    (case pg0 => k_is)
    (case hd0 => k_is)
    (case po0 => k_is)
    (case sa0 => k_is)
    (case mk0 => k_is)
    (case kc0 => k_is)
    (case n0_registers => k_is)
    (case n0_cells => k_is)
    (case n0_outputs => k_is)
    (case a0 => k_is)
    (case l0 => k_is)
    (case c0 => k_is)
    (case k0 => k_is)
    (case a1 => k_is)
    (case l1 => k_is)
    (case c1 => k_is)
    (case k1 => k_is)
    (case a2 => k_is)
    (case l2 => k_is)
    (case c2 => k_is)
    (case k2 => k_is)
    (case a3 => k_is)
    (case l3 => k_is)
    (case c3 => k_is)
    (case k3 => k_is)
    (case a4 => k_is)
    (case l4 => k_is)
    (case c4 => k_is)
    (case k4 => k_is)
    (case a5 => k_is)
    (case l5 => k_is)
    (case c5 => k_is)
    (case k5 => k_is)
    (case a6 => k_is)
    (case l6 => k_is)
    (case c6 => k_is)
    (case k6 => k_is)
    (case a7 => k_is)
    (case l7 => k_is)
    (case c7 => k_is)
    (case k7 => k_is)
    (case a8 => k_is)
    (case l8 => k_is)
    (case c8 => k_is)
    (case k8 => k_is)
    (case a9 => k_is)
    (case l9 => k_is)
    (case c9 => k_is)
    (case k9 => k_is)
    (case a10 => k_is)
    (case l10 => k_is)
    (case c10 => k_is)
    (case k10 => k_is)
    (case a11 => k_is)
    (case i11 => k_is)
    (case l11 => k_is)
    (case c11 => k_is)
    (case k11 => k_is)
    (case a12 => k_is)
    (case i12 => k_is)
    (case l12 => k_is)
    (case c12 => k_is)
    (case k12 => k_is)
    (case a13 => k_is)
    (case l13 => k_is)
    (case c13 => k_is)
    (case k13 => k_is)
    (case a14 => k_is)
    (case i14 => k_is)
    (case l14 => k_is)
    (case c14 => k_is)
    (case k14 => k_is)
    (case a15 => k_is)
    (case l15 => k_is)
    (case c15 => k_is)
    (case k15 => k_is)
    (case a16 => k_is)
    (case l16 => k_is)
    (case c16 => k_is)
    (case k16 => k_is)
    (case a17 => k_is)
    (case i17 => k_is)
    (case l17 => k_is)
    (case c17 => k_is)
    (case k17 => k_is)
    (case a18 => k_is)
    (case i18 => k_is)
    (case l18 => k_is)
    (case c18 => k_is)
    (case k18 => k_is)
    (case a19 => k_is)
    (case i19 => k_is)
    (case l19 => k_is)
    (case c19 => k_is)
    (case k19 => k_is)
    (case a20 => k_is)
    (case i20 => k_is)
    (case l20 => k_is)
    (case c20 => k_is)
    (case k20 => k_is)
    (case a21 => k_is)
    (case l21 => k_is)
    (case c21 => k_is)
    (case k21 => k_is)
    (case a22 => k_is)
    (case l22 => k_is)
    (case c22 => k_is)
    (case k22 => k_is)
    (case a23 => k_is)
    (case l23 => k_is)
    (case c23 => k_is)
    (case k23 => k_is)
    (case a24 => k_is)
    (case l24 => k_is)
    (case c24 => k_is)
    (case k24 => k_is)
    (case a25 => k_is)
    (case l25 => k_is)
    (case c25 => k_is)
    (case k25 => k_is)
    (case a26 => k_is)
    (case l26 => k_is)
    (case c26 => k_is)
    (case k26 => k_is)
    (case a27 => k_is)
    (case l27 => k_is)
    (case c27 => k_is)
    (case k27 => k_is)
    (case a28 => k_is)
    (case l28 => k_is)
    (case c28 => k_is)
    (case k28 => k_is)
    (case a29 => k_is)
    (case l29 => k_is)
    (case c29 => k_is)
    (case k29 => k_is)
    (case a30 => k_is)
    (case l30 => k_is)
    (case c30 => k_is)
    (case k30 => k_is)
    (case g_CELLS => k_is)
    (case g_LOWEST => k_is)
    (case g_MODULUS => k_is)
    (case g_MOST_TURNS => k_is)
    (case g_REGISTERS => k_is)
    (case z_all => k_is)
    (case z_bool => k_is)
    (case z_dict => k_is)
    (case z_enumerate => k_is)
    (case z_int => k_is)
    (case z_isinstance => k_is)
    (case z_len => k_is)
    (case z_list => k_is)
    (case z_max => k_is)
    (case z_min => k_is)
    (case z_range => k_is)
    (case z_tuple => k_is)

