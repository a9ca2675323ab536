import PyProof.Rows.All
import Wide.All
import OpenK.AllK
import Wide.FinOn
import HandS.ForMost
import HandS.IsInst
import HandS.Wide
import HandS.TupAny
import HandS.Codes
import HandS.Small
import HandS.NoneIn
import HandS.Zip
import HandS.Text
import HandS.Conv
import HandS.FStr
import HandS.StrMore
import KE.KDictZip
import KE.GoesMore
import KE.GoesEnum
import KE.GoesZip
import HandS.More
import KE.SortData
import KE.DatumOrd
import KE.KDictPairs
import HandS.SortKw
import HandS.Dict
import HandS.Call
import HandS.Strs
import HandS.TupSets
import HandS.SetTxt0
import HandS.Style
import PyProof.AutoSeq1
import HandS.Deep
import HandS.TupMul
import PySem.Challenge.RW_trireme_k03_machines
section
set_option Elab.async false
set_option linter.all false
set_option maxRecDepth 100000
set_option autoImplicit false
/-! Rf: values with tuples as data, objects numbered as they are made; every def becomes a plain Lean function over these (by combinators), and one rule a construct ties it to the program's own run. -/
namespace Rf
open PySem PySem.Spec L2

inductive PV where
  | non | bl (b : Bool) | int (i : Int) | str (s : Str) | tup (xs : List PV) | ref (i : Nat)

mutual
def PV.dec : (a b : PV) → Decidable (a = b)
  | .non, .non => Decidable.isTrue rfl
  | .bl a, .bl b => if h : a = b then Decidable.isTrue (h ▸ rfl) else Decidable.isFalse fun e => h (PV.bl.inj e)
  | .int a, .int b => if h : a = b then Decidable.isTrue (h ▸ rfl) else Decidable.isFalse fun e => h (PV.int.inj e)
  | .str a, .str b => if h : a = b then Decidable.isTrue (h ▸ rfl) else Decidable.isFalse fun e => h (PV.str.inj e)
  | .tup a, .tup b => match PV.decL a b with
    | Decidable.isTrue h => Decidable.isTrue (h ▸ rfl)
    | Decidable.isFalse h => Decidable.isFalse fun e => h (PV.tup.inj e)
  | .ref a, .ref b => if h : a = b then Decidable.isTrue (h ▸ rfl) else Decidable.isFalse fun e => h (PV.ref.inj e)
  | .non, .bl _ | .non, .int _ | .non, .str _ | .non, .tup _ | .non, .ref _ => Decidable.isFalse nofun
  | .bl _, .non | .bl _, .int _ | .bl _, .str _ | .bl _, .tup _ | .bl _, .ref _ => Decidable.isFalse nofun
  | .int _, .non | .int _, .bl _ | .int _, .str _ | .int _, .tup _ | .int _, .ref _ => Decidable.isFalse nofun
  | .str _, .non | .str _, .bl _ | .str _, .int _ | .str _, .tup _ | .str _, .ref _ => Decidable.isFalse nofun
  | .tup _, .non | .tup _, .bl _ | .tup _, .int _ | .tup _, .str _ | .tup _, .ref _ => Decidable.isFalse nofun
  | .ref _, .non | .ref _, .bl _ | .ref _, .int _ | .ref _, .str _ | .ref _, .tup _ => Decidable.isFalse nofun
def PV.decL : (a b : List PV) → Decidable (a = b)
  | [], [] => Decidable.isTrue rfl
  | [], _ :: _ => Decidable.isFalse nofun
  | _ :: _, [] => Decidable.isFalse nofun
  | a :: r, b :: s => match PV.dec a b, PV.decL r s with
    | Decidable.isTrue h, Decidable.isTrue h' => Decidable.isTrue (h ▸ h' ▸ rfl)
    | Decidable.isFalse h, _ => Decidable.isFalse fun e => h (List.cons.inj e).1
    | _, Decidable.isFalse h => Decidable.isFalse fun e => h (List.cons.inj e).2
end
instance : DecidableEq PV := PV.dec

/-- what stands at a numbered place: a list, a list that is only read, a dict, an instance of the class c -/
inductive Ob where
  | lst (xs : List PV) | rol (xs : List PV) | dic (kvs : List (Key × PV)) | ins (c : Nat) (fs : List (Str × PV))
  deriving DecidableEq
def Ob.mu : Ob → Bool
  | .rol _ => false
  | _ => true
abbrev Mem := List Ob
abbrev Env := List (Option PV)

/-- a tuple whose object has no dict of its own -/
def SqP (K : PySem.W.Frag) (H : Hp) (a : Addr) (xs : List V) : Prop := (∃ o : Obj, H a = some (.frz o (.tup xs)) ∧ o.dict = none) ∨
  ∃ (o : Obj) (its : Array Value) (n : Nat), K.lookup a = some o ∧ o.cls = .type "tuple" ∧ o.dict = none ∧ o.data = .seq its n ∧ its.size ≤ sizeLine ∧ Vals xs its.toList
theorem SqP.t {K : PySem.W.Frag} {H : Hp} {a : Addr} {xs : List V} (h : SqP K H a xs) : SqT K H a xs := by
  rcases h with ⟨o, h, _⟩ | ⟨o, its, n, h1, h2, _, h3⟩
  · exact .inl (.inr ⟨o, h⟩)
  · exact .inr ⟨o, its, n, h1, h2, h3⟩
/-! ### what a value stands for -/
section
variable (K : PySem.W.Frag) (ρ : List Addr) (H : Hp)
mutual
def Rep : PV → V → Prop
  | .non, v => v = .non
  | .bl b, v => v = .bl b
  | .int i, v => v = .int i
  | .str s, v => v = .str s
  | .tup ps, v => ∃ a xs, v = .ref a ∧ SqP K H a xs ∧ RepL ps xs
  | .ref i, v => ∃ a, ρ[i]? = some a ∧ v = .ref a
def RepL : List PV → List V → Prop
  | [], xs => xs = []
  | p :: ps, xs => ∃ x r, xs = x :: r ∧ Rep p x ∧ RepL ps r
end
abbrev RepF {κ : Type} : List (κ × PV) → List (κ × V) → Prop := Paired fun p q => p.1 = q.1 ∧ Rep K ρ H p.2 q.2
def RepO (cl : Nat → Addr) : Ob → Addr → Prop
  | .lst ps, a => ∃ xs, H a = some (.lst xs) ∧ RepL K ρ H ps xs
  | .rol ps, a => ∃ xs, ((∃ o, H a = some (.frz o (.lst xs))) ∨ ∀ H', SqL K H' a xs) ∧ RepL K ρ H ps xs
  | .dic kvs, a => ∃ kws, H a = some (.dK kws) ∧ RepF K ρ H kvs kws
  | .ins c fs, a => ∃ dx fws, H a = some (.ins (cl c) dx fws) ∧ RepF K ρ H fs fws
end

/-- the heap may have grown: tuples stay, numbers keep their addresses -/
structure Ext (K : PySem.W.Frag) (ρ : List Addr) (H : Hp) (ρ' : List Addr) (H' : Hp) : Prop where
  pre : ρ <+: ρ'
  tup : ∀ a xs, SqT K H a xs → SqT K H' a xs
  tp : ∀ a xs, SqP K H a xs → SqP K H' a xs
theorem Ext.refl {K ρ H} : Ext K ρ H ρ H := ⟨List.prefix_refl _, fun _ _ h => h, fun _ _ h => h⟩
theorem Ext.trans {K ρ H ρ1 H1 ρ2 H2} (a : Ext K ρ H ρ1 H1) (b : Ext K ρ1 H1 ρ2 H2) : Ext K ρ H ρ2 H2 := ⟨a.pre.trans b.pre, fun c xs h => b.tup c xs (a.tup c xs h), fun c xs h => b.tp c xs (a.tp c xs h)⟩
theorem Ext.at {K ρ H ρ' H'} (e : Ext K ρ H ρ' H') {i : Nat} {a : Addr} (h : ρ[i]? = some a) : ρ'[i]? = some a := by
  obtain ⟨t, rfl⟩ := e.pre
  rw [List.getElem?_append_left (List.getElem?_eq_some_iff.mp h).1]
  exact h
section
variable {K : PySem.W.Frag} {ρ ρ' : List Addr} {H H' : Hp} (e : Ext K ρ H ρ' H')
include e
mutual
theorem Ext.rep : ∀ (p : PV) (v : V), Rep K ρ H p v → Rep K ρ' H' p v
  | .non, _, h => h
  | .bl _, _, h => h
  | .int _, _, h => h
  | .str _, _, h => h
  | .tup ps, v, h => by
    rw [Rep] at h ⊢
    obtain ⟨a, xs, h1, h2, h3⟩ := h
    exact ⟨a, xs, h1, e.tp a xs h2, Ext.repL ps xs h3⟩
  | .ref i, v, h => by
    rw [Rep] at h ⊢
    obtain ⟨a, h1, h2⟩ := h
    exact ⟨a, e.at h1, h2⟩
theorem Ext.repL : ∀ (ps : List PV) (xs : List V), RepL K ρ H ps xs → RepL K ρ' H' ps xs
  | [], _, h => h
  | p :: ps, xs, h => by
    rw [RepL] at h ⊢
    obtain ⟨x, r, h1, h2, h3⟩ := h
    exact ⟨x, r, h1, Ext.rep p x h2, Ext.repL ps r h3⟩
end
theorem Ext.repF {κ : Type} {a : List (κ × PV)} {b : List (κ × V)} (h : RepF K ρ H a b) : RepF K ρ' H' a b := Paired.mapP h fun p q z => ⟨z.1, e.rep _ _ z.2⟩
end

section
variable {K : PySem.W.Frag} {ρ : List Addr} {H : Hp}
theorem RepL.length : ∀ {ps : List PV} {xs : List V}, RepL K ρ H ps xs → xs.length = ps.length
  | [], xs, h => by rw [RepL] at h; rw [h]; rfl
  | p :: ps, xs, h => by
    rw [RepL] at h
    obtain ⟨x, r, rfl, _, h3⟩ := h
    rw [List.length_cons, List.length_cons, RepL.length h3]
theorem RepL.get : ∀ {ps : List PV} {xs : List V} {i : Nat} {p : PV}, RepL K ρ H ps xs → ps[i]? = some p → ∃ x, xs[i]? = some x ∧ Rep K ρ H p x
  | [], _, i, p, _, e => by simp at e
  | q :: ps, xs, i, p, h, e => by
    rw [RepL] at h
    obtain ⟨x, r, rfl, h2, h3⟩ := h
    cases i with
    | zero =>
      simp only [List.getElem?_cons_zero, Option.some.injEq] at e
      subst e
      exact ⟨x, rfl, h2⟩
    | succ i =>
      simp only [List.getElem?_cons_succ] at e
      obtain ⟨y, h4, h5⟩ := RepL.get h3 e
      exact ⟨y, by simpa using h4, h5⟩
theorem RepL.get' : ∀ {ps : List PV} {xs : List V} {i : Nat} {x : V}, RepL K ρ H ps xs → xs[i]? = some x → ∃ p, ps[i]? = some p ∧ Rep K ρ H p x
  | [], _, i, p, h, e => by rw [RepL] at h; subst h; simp at e
  | q :: ps, xs, i, p, h, e => by
    rw [RepL] at h
    obtain ⟨x, r, rfl, h2, h3⟩ := h
    cases i with
    | zero =>
      simp only [List.getElem?_cons_zero, Option.some.injEq] at e
      subst e
      exact ⟨q, rfl, h2⟩
    | succ i =>
      simp only [List.getElem?_cons_succ] at e
      obtain ⟨y, h4, h5⟩ := RepL.get' h3 e
      exact ⟨y, by simpa using h4, h5⟩
theorem RepL.append : ∀ {ps qs : List PV} {xs ys : List V}, RepL K ρ H ps xs → RepL K ρ H qs ys → RepL K ρ H (ps ++ qs) (xs ++ ys)
  | [], qs, xs, ys, h, h' => by rw [RepL] at h; subst h; exact h'
  | p :: ps, qs, xs, ys, h, h' => by
    rw [RepL] at h
    obtain ⟨x, r, rfl, h2, h3⟩ := h
    rw [List.cons_append, List.cons_append, RepL]
    exact ⟨x, _, rfl, h2, RepL.append h3 h'⟩
theorem RepL.nil : RepL K ρ H [] [] := by rw [RepL]
theorem RepL.cons {p : PV} {x : V} {ps : List PV} {xs : List V} (h : Rep K ρ H p x) (h' : RepL K ρ H ps xs) : RepL K ρ H (p :: ps) (x :: xs) := by
  rw [RepL]
  exact ⟨x, xs, rfl, h, h'⟩
theorem RepL.one {p : PV} {x : V} (h : Rep K ρ H p x) : RepL K ρ H [p] [x] := .cons h .nil
theorem RepL.inv {p : PV} {ps : List PV} {xs : List V} (h : RepL K ρ H (p :: ps) xs) : ∃ x r, xs = x :: r ∧ Rep K ρ H p x ∧ RepL K ρ H ps r := by rwa [RepL] at h
theorem RepL.inv0 {xs : List V} (h : RepL K ρ H [] xs) : xs = [] := by rwa [RepL] at h
theorem RepL.set : ∀ {ps : List PV} {xs : List V} {p : PV} {x : V} (i : Nat), RepL K ρ H ps xs → Rep K ρ H p x → RepL K ρ H (ps.set i p) (xs.set i x)
  | [], xs, p, x, i, h, h' => by rw [h.inv0]; exact .nil
  | q :: ps, xs, p, x, i, h, h' => by
    obtain ⟨y, r, rfl, h2, h3⟩ := h.inv
    cases i with
    | zero => exact .cons h' h3
    | succ i => exact .cons h2 (RepL.set i h3 h')
theorem RepL.take : ∀ {ps : List PV} {xs : List V} (n : Nat), RepL K ρ H ps xs → RepL K ρ H (ps.take n) (xs.take n)
  | [], xs, n, h => by rw [h.inv0]; simp; exact .nil
  | q :: ps, xs, n, h => by
    obtain ⟨y, r, rfl, h2, h3⟩ := h.inv
    cases n with
    | zero => exact .nil
    | succ n => exact .cons h2 (RepL.take n h3)
theorem RepL.drop : ∀ {ps : List PV} {xs : List V} (n : Nat), RepL K ρ H ps xs → RepL K ρ H (ps.drop n) (xs.drop n)
  | [], xs, n, h => by rw [h.inv0]; simp; exact .nil
  | q :: ps, xs, n, h => by
    obtain ⟨y, r, rfl, h2, h3⟩ := h.inv
    cases n with
    | zero => exact .cons h2 h3
    | succ n => exact RepL.drop n h3
theorem RepL.reverse : ∀ {ps : List PV} {xs : List V}, RepL K ρ H ps xs → RepL K ρ H ps.reverse xs.reverse
  | [], xs, h => by rw [h.inv0]; exact .nil
  | q :: ps, xs, h => by
    obtain ⟨y, r, rfl, h2, h3⟩ := h.inv
    rw [List.reverse_cons, List.reverse_cons]
    exact h3.reverse.append (.one h2)
theorem RepL.ints : ∀ ns : List Int, RepL K ρ H (ns.map PV.int) (ns.map V.int)
  | [] => .nil
  | n :: ns => .cons (by rw [Rep]) (RepL.ints ns)
theorem RepL.strs : ∀ ns : List Str, RepL K ρ H (ns.map PV.str) (ns.map V.str)
  | [] => .nil
  | n :: ns => .cons (by rw [Rep]) (RepL.strs ns)
@[simp] theorem rep_non {v : V} : Rep K ρ H .non v ↔ v = .non := by rw [Rep]
@[simp] theorem rep_bl {b : Bool} {v : V} : Rep K ρ H (.bl b) v ↔ v = .bl b := by rw [Rep]
@[simp] theorem rep_int {b : Int} {v : V} : Rep K ρ H (.int b) v ↔ v = .int b := by rw [Rep]
@[simp] theorem rep_str {b : Str} {v : V} : Rep K ρ H (.str b) v ↔ v = .str b := by rw [Rep]
theorem rep_tup {ps : List PV} {v : V} : Rep K ρ H (.tup ps) v ↔ ∃ a xs, v = .ref a ∧ SqP K H a xs ∧ RepL K ρ H ps xs := by rw [Rep]
theorem rep_ref {i : Nat} {v : V} : Rep K ρ H (.ref i) v ↔ ∃ a, ρ[i]? = some a ∧ v = .ref a := by rw [Rep]
end

/-! ### what the store stands for -/
structure RelM (K : PySem.W.Frag) (cl : Nat → Addr) (ρ : List Addr) (H : Hp) (m : Mem) : Prop where
  len : ρ.length = m.length
  inj : ∀ (i j : Nat) (a : Addr) (o o' : Ob), ρ[i]? = some a → ρ[j]? = some a → m[i]? = some o → m[j]? = some o' → o.mu = true → o'.mu = true → i = j
  ok : ∀ (i : Nat) (a : Addr) (o : Ob), ρ[i]? = some a → m[i]? = some o → RepO K ρ H cl o a
theorem RelM.addr {K cl ρ H m} (h : RelM K cl ρ H m) {i : Nat} {o : Ob} (e : m[i]? = some o) : ∃ a, ρ[i]? = some a := by
  have := (List.getElem?_eq_some_iff.mp e).1
  exact ⟨ρ[i]'(by rw [h.len]; exact this), List.getElem?_eq_getElem _⟩

/-- a store or a new object at a keeps the tuples -/
theorem sqT_upd {K : PySem.W.Frag} {H : Hp} {a : Addr} {o : HO} (h : ∀ ys, ¬ Rd H a (.tup ys)) {b : Addr} {xs : List V} (q : SqT K H b xs) : SqT K (upd H a o) b xs := by
  rcases q with q | q
  · have hb : b ≠ a := fun e => h xs (e ▸ q)
    refine .inl ?_
    rcases q with q | ⟨o', q⟩
    · exact .inl (by rw [upd_ne hb]; exact q)
    · exact .inr ⟨o', by rw [upd_ne hb]; exact q⟩
  · exact .inr q
theorem sqP_upd {K : PySem.W.Frag} {H : Hp} {a : Addr} {o : HO} (h : ∀ ys, ¬ Rd H a (.tup ys)) {b : Addr} {xs : List V} (q : SqP K H b xs) : SqP K (upd H a o) b xs := by
  rcases q with ⟨o', q, hd⟩ | q
  · have hb : b ≠ a := fun e => h xs (e ▸ .inr ⟨o', q⟩)
    exact .inl ⟨o', by rw [upd_ne hb]; exact q, hd⟩
  · exact .inr q
theorem noTup_none {H : Hp} {a : Addr} (h : H a = none) : ∀ ys, ¬ Rd H a (.tup ys) := fun ys q => by
  rcases q with q | ⟨o, q⟩ <;> (rw [h] at q; cases q)
theorem noTup_some {H : Hp} {a : Addr} {u : HO} (h : H a = some u) (h1 : ∀ ys, u ≠ .tup ys) (h2 : ∀ o ys, u ≠ .frz o ys) : ∀ ys, ¬ Rd H a (.tup ys) := fun ys q => by
  rcases q with q | ⟨o, q⟩
  · rw [h] at q; cases q; exact h1 _ rfl
  · rw [h] at q; cases q; exact h2 _ _ rfl
theorem RepO.ext {K cl ρ H ρ' H'} (e : Ext K ρ H ρ' H') {o : Ob} {a : Addr} (h : RepO K ρ H cl o a) (k : ∀ u, H a = some u → H' a = some u) : RepO K ρ' H' cl o a := by
  cases o with
  | lst ps => obtain ⟨xs, h1, h2⟩ := h; exact ⟨xs, k _ h1, e.repL _ _ h2⟩
  | rol ps =>
    obtain ⟨xs, h1, h2⟩ := h
    refine ⟨xs, ?_, e.repL _ _ h2⟩
    rcases h1 with ⟨o, h1⟩ | h1
    · exact .inl ⟨o, k _ h1⟩
    · exact .inr h1
  | dic kvs => obtain ⟨xs, h1, h2⟩ := h; exact ⟨xs, k _ h1, e.repF h2⟩
  | ins c fs => obtain ⟨dx, xs, h1, h2⟩ := h; exact ⟨dx, xs, k _ h1, e.repF h2⟩
theorem RepO.there {K cl ρ H} {o : Ob} {a : Addr} (h : RepO K ρ H cl o a) (hm : o.mu = true) : ∃ u, H a = some u ∧ (∀ ys, u ≠ .tup ys) ∧ ∀ o ys, u ≠ .frz o ys := by
  cases o with
  | lst ps => obtain ⟨xs, h1, h2⟩ := h; exact ⟨_, h1, (fun _ e => HO.noConfusion e), (fun _ _ e => HO.noConfusion e)⟩
  | rol ps => cases hm
  | dic kvs => obtain ⟨xs, h1, h2⟩ := h; exact ⟨_, h1, (fun _ e => HO.noConfusion e), (fun _ _ e => HO.noConfusion e)⟩
  | ins c fs => obtain ⟨dx, xs, h1, h2⟩ := h; exact ⟨_, h1, (fun _ e => HO.noConfusion e), (fun _ _ e => HO.noConfusion e)⟩
theorem ext_new {K ρ H} {p : Addr} {o : HO} (h : H p = none) (l : List Addr) : Ext K ρ H (ρ ++ l) (upd H p o) := ⟨List.prefix_append _ _, fun _ _ q => sqT_upd (noTup_none h) q, fun _ _ q => sqP_upd (noTup_none h) q⟩
theorem ext_set {K cl ρ H m} {i : Nat} {a : Addr} {o : Ob} {u : HO} (h : RelM K cl ρ H m) (ha : ρ[i]? = some a) (ho : m[i]? = some o) (hm : o.mu = true) : Ext K ρ H ρ (upd H a u) := by
  obtain ⟨u', h1, h2, h3⟩ := (h.ok i a o ha ho).there hm
  exact ⟨List.prefix_refl _, fun _ _ q => sqT_upd (noTup_some h1 h2 h3) q, fun _ _ q => sqP_upd (noTup_some h1 h2 h3) q⟩
/-- a new object -/
theorem RelM.alloc {K cl ρ H m} (h : RelM K cl ρ H m) {p : Addr} {u : HO} {o : Ob} (hp : H p = none) (hn : RepO K (ρ ++ [p]) (upd H p u) cl o p) : RelM K cl (ρ ++ [p]) (upd H p u) (m ++ [o]) := by
  have e : Ext K ρ H (ρ ++ [p]) (upd H p u) := ext_new hp _
  have old : ∀ (i : Nat) (a : Addr) (o' : Ob), ρ[i]? = some a → m[i]? = some o' → RepO K (ρ ++ [p]) (upd H p u) cl o' a := fun i a o' h1 h2 => (h.ok i a o' h1 h2).ext e fun v q => by
    rw [upd_ne (ne_of_none q hp)]; exact q
  have nomu : ∀ (i : Nat) (o' : Ob), ρ[i]? = some p → m[i]? = some o' → o'.mu = true → False := fun i o' h1 h2 h3 => by
    obtain ⟨v, q, _⟩ := (h.ok i p o' h1 h2).there h3
    rw [hp] at q; cases q
  have cut : ∀ (i : Nat) (a : Addr) (o' : Ob), (ρ ++ [p])[i]? = some a → (m ++ [o])[i]? = some o' → (ρ[i]? = some a ∧ m[i]? = some o') ∨ (i = m.length ∧ a = p ∧ o' = o) := fun i a o' h1 h2 => by
    by_cases hi : i < m.length
    · rw [List.getElem?_append_left (by rw [h.len]; exact hi)] at h1
      rw [List.getElem?_append_left hi] at h2
      exact .inl ⟨h1, h2⟩
    · rw [List.getElem?_append_right (by rw [h.len]; omega)] at h1
      rw [List.getElem?_append_right (by omega)] at h2
      have e1 : i - m.length = 0 := by
        have := (List.getElem?_eq_some_iff.mp h2).1
        simpa using this
      rw [h.len] at h1
      rw [e1] at h1 h2
      simp at h1 h2
      exact .inr ⟨by omega, h1.symm, h2.symm⟩
  refine ⟨by simp [h.len], fun i j a o1 o2 h1 h2 h3 h4 h5 h6 => ?_, fun i a o' h1 h2 => ?_⟩
  · rcases cut i a o1 h1 h3 with ⟨q1, q2⟩ | ⟨q1, q2, q3⟩
    · rcases cut j a o2 h2 h4 with ⟨r1, r2⟩ | ⟨r1, r2, r3⟩
      · exact h.inj i j a o1 o2 q1 r1 q2 r2 h5 h6
      · subst r2; exact (nomu i o1 q1 q2 h5).elim
    · rcases cut j a o2 h2 h4 with ⟨r1, r2⟩ | ⟨r1, r2, r3⟩
      · subst q2; exact (nomu j o2 r1 r2 h6).elim
      · omega
  · rcases cut i a o' h1 h2 with ⟨q1, q2⟩ | ⟨q1, q2, q3⟩
    · exact old i a o' q1 q2
    · subst q2 q3; exact hn
/-- a store -/
theorem RelM.set {K cl ρ H m} (h : RelM K cl ρ H m) {i : Nat} {a : Addr} {u : HO} {o o' : Ob} (ha : ρ[i]? = some a) (ho : m[i]? = some o) (hm : o.mu = true) (hm' : o'.mu = true) (hn : RepO K ρ (upd H a u) cl o' a) : RelM K cl ρ (upd H a u) (m.set i o') := by
  have e : Ext K ρ H ρ (upd H a u) := ext_set h ha ho hm
  have hi : i < m.length := (List.getElem?_eq_some_iff.mp ho).1
  refine ⟨by simp [h.len], fun j k b o1 o2 h1 h2 h3 h4 h5 h6 => ?_, fun j b o1 h1 h2 => ?_⟩
  · have at' : ∀ (j : Nat) (o1 : Ob), (m.set i o')[j]? = some o1 → o1.mu = true → ∃ o2, m[j]? = some o2 ∧ o2.mu = true := fun j o1 q1 q2 => by
      by_cases hj : j = i
      · exact ⟨o, by rw [hj]; exact ho, hm⟩
      · rw [List.getElem?_set_ne (Ne.symm hj)] at q1
        exact ⟨o1, q1, q2⟩
    obtain ⟨x1, y1, z1⟩ := at' j o1 h3 h5
    obtain ⟨x2, y2, z2⟩ := at' k o2 h4 h6
    exact h.inj j k b x1 x2 h1 h2 y1 y2 z1 z2
  · by_cases hj : j = i
    · subst hj
      rw [ha] at h1; cases h1
      rw [List.getElem?_set_self hi] at h2; cases h2
      exact hn
    · rw [List.getElem?_set_ne (Ne.symm hj)] at h2
      have q := h.ok j b o1 h1 h2
      by_cases hb : b = a
      · subst hb
        cases hm1 : o1.mu with
        | true => exact absurd (h.inj j i b o1 o h1 ha h2 ho hm1 hm) hj
        | false =>
          cases o1 with
          | rol ps =>
            obtain ⟨xs, q1, q2⟩ := q
            refine ⟨xs, .inr ?_, e.repL _ _ q2⟩
            rcases q1 with ⟨ob, q1⟩ | q1
            · obtain ⟨v, r1, r2, r3⟩ := (h.ok i b o ha ho).there hm
              rw [q1] at r1; cases r1
              exact absurd rfl (r3 _ _)
            · exact q1
          | _ => cases hm1
      · exact q.ext e fun v r => by rw [upd_ne hb]; exact r

/-! ### the local names -/
structure RelE (K : PySem.W.Frag) (ρ : List Addr) (H : Hp) (σ : L2.St) (env : Env) : Prop where
  len : σ.length = env.length
  ok : ∀ (i : Nat) (p : PV), env[i]? = some (some p) → ∃ v, σ[i]? = some (some v) ∧ Rep K ρ H p v
theorem RelE.ext {K ρ H ρ' H' σ env} (h : RelE K ρ H σ env) (e : Ext K ρ H ρ' H') : RelE K ρ' H' σ env := ⟨h.len, fun i p q => let ⟨v, h1, h2⟩ := h.ok i p q; ⟨v, h1, e.rep _ _ h2⟩⟩
theorem RelE.set {K ρ H σ env} (h : RelE K ρ H σ env) {p : PV} {v : V} (i : Nat) (r : Rep K ρ H p v) : RelE K ρ H (σ.set i (some v)) (env.set i (some p)) := by
  refine ⟨by simp [h.len], fun j q e => ?_⟩
  by_cases hj : j = i
  · subst hj
    have hl : j < env.length := by
      have := (List.getElem?_eq_some_iff.mp e).1
      simpa using this
    rw [List.getElem?_set_self hl] at e
    cases e
    exact ⟨v, by rw [List.getElem?_set_self (by rw [h.len]; exact hl)], r⟩
  · rw [List.getElem?_set_ne (Ne.symm hj)] at e ⊢
    exact h.ok j q e
theorem RelE.wipe1 {K ρ H σ env} (h : RelE K ρ H σ env) (i : Nat) : RelE K ρ H (σ.set i none) (env.set i none) := by
  refine ⟨by simp [h.len], fun j q e => ?_⟩
  by_cases hj : j = i
  · subst hj
    have hl : j < env.length := by
      have := (List.getElem?_eq_some_iff.mp e).1
      simpa using this
    rw [List.getElem?_set_self hl] at e
    cases e
  · rw [List.getElem?_set_ne (Ne.symm hj)] at e ⊢
    exact h.ok j q e
end Rf
end

section
set_option Elab.async false
set_option linter.all false
set_option maxRecDepth 100000
set_option autoImplicit false
namespace Rf
open PySem PySem.Spec L2

inductive Fl where
  | nx | rt (v : PV) | bk | ct
abbrev Ex := Env → Mem → Option (PV × Mem)
abbrev Tx := Env → Mem → Option (Bool × Mem)
abbrev Ax := Env → Mem → Option (List PV × Mem)
abbrev Sx := Env → Mem → Option (Fl × Env × Mem)
abbrev Fn := List PV → Mem → Option (PV × Mem)

/-! ### readings -/
section
variable (K : PySem.W.Frag) (cl : Nat → Addr)
def KE (ρ : List Addr) (H : Hp) (r : PV × Mem) (Q : VK) : Prop := ∀ ρ' v H', Ext K ρ H ρ' H' → RelM K cl ρ' H' r.2 → Rep K ρ' H' r.1 v → Q v H'
def KT (ρ : List Addr) (H : Hp) (r : Bool × Mem) (Q : Bool → Hp → Prop) : Prop := ∀ ρ' H', Ext K ρ H ρ' H' → RelM K cl ρ' H' r.2 → Q r.1 H'
def KA (ρ : List Addr) (H : Hp) (r : List PV × Mem) (Q : List V → Hp → Prop) : Prop := ∀ ρ' vs H', Ext K ρ H ρ' H' → RelM K cl ρ' H' r.2 → RepL K ρ' H' r.1 vs → Q vs H'
def KS (ρ : List Addr) (H : Hp) (r : Fl × Env × Mem) (D : Ends) : Prop := ∀ ρ' σ' H', Ext K ρ H ρ' H' → RelM K cl ρ' H' r.2.2 → RelE K ρ' H' σ' r.2.1 → match r.1 with
  | .nx => D.nx σ' H'
  | .bk => D.bk σ' H'
  | .ct => D.ct σ' H'
  | .rt p => ∀ v, Rep K ρ' H' p v → D.rt v H'
def TX (m : Ex) : TE := fun σ H Q => ∃ ρ env mem r, RelM K cl ρ H mem ∧ RelE K ρ H σ env ∧ m env mem = some r ∧ KE K cl ρ H r Q
def TTX (m : Tx) : TT := fun σ H Q => ∃ ρ env mem r, RelM K cl ρ H mem ∧ RelE K ρ H σ env ∧ m env mem = some r ∧ KT K cl ρ H r Q
def TAX (m : Ax) : TA := fun σ H Q => ∃ ρ env mem r, RelM K cl ρ H mem ∧ RelE K ρ H σ env ∧ m env mem = some r ∧ KA K cl ρ H r Q
def TSX (m : Sx) : TS := fun D σ H => ∃ ρ env mem r, RelM K cl ρ H mem ∧ RelE K ρ H σ env ∧ m env mem = some r ∧ KS K cl ρ H r D
/-- what a def promises -/
def SpF (n : Nat) (F : Fn) : Sp := fun vs H Q _ => ∃ ρ ps mem r, ps.length = n ∧ RelM K cl ρ H mem ∧ RepL K ρ H ps vs ∧ F ps mem = some r ∧ KE K cl ρ H r Q
/-- .. an __init__ -/
def SpI (n : Nat) (F : Fn) : Sp := fun vs H Q _ => ∃ ρ ps mem r, ps.length = n ∧ RelM K cl ρ H mem ∧ RepL K ρ H ps vs ∧ F ps mem = some r ∧ KE K cl ρ H r Q
/-- operations by values -/
def G2 (g : PV → PV → Mem → Option (PV × Mem)) : R2 := fun x y H Q => ∃ ρ p q mem r, RelM K cl ρ H mem ∧ Rep K ρ H p x ∧ Rep K ρ H q y ∧ g p q mem = some r ∧ KE K cl ρ H r Q
def G1 (g : PV → Mem → Option (PV × Mem)) : V → Hp → VK → Prop := fun x H Q => ∃ ρ p mem r, RelM K cl ρ H mem ∧ Rep K ρ H p x ∧ g p mem = some r ∧ KE K cl ρ H r Q
def GL (g : List PV → Mem → Option (PV × Mem)) : List V → Hp → VK → Prop := fun xs H Q => ∃ ρ ps mem r, RelM K cl ρ H mem ∧ RepL K ρ H ps xs ∧ g ps mem = some r ∧ KE K cl ρ H r Q
/-- a method's: the receiver and the arguments -/
def GM (g : PV → List PV → Mem → Option (PV × Mem)) : V → List V → Hp → VK → Prop := fun x xs H Q => ∃ ρ p ps mem r, RelM K cl ρ H mem ∧ Rep K ρ H p x ∧ RepL K ρ H ps xs ∧ g p ps mem = some r ∧ KE K cl ρ H r Q
end

section
variable {K : PySem.W.Frag} {cl : Nat → Addr} {ρ ρ' : List Addr} {H H' : Hp}
theorem KE.ext {r : PV × Mem} {Q : VK} (h : KE K cl ρ H r Q) (e : Ext K ρ H ρ' H') : KE K cl ρ' H' r Q := fun ρ2 v H2 e2 => h ρ2 v H2 (e.trans e2)
theorem KT.ext {r : Bool × Mem} {Q : Bool → Hp → Prop} (h : KT K cl ρ H r Q) (e : Ext K ρ H ρ' H') : KT K cl ρ' H' r Q := fun ρ2 H2 e2 => h ρ2 H2 (e.trans e2)
theorem KA.ext {r : List PV × Mem} {Q : List V → Hp → Prop} (h : KA K cl ρ H r Q) (e : Ext K ρ H ρ' H') : KA K cl ρ' H' r Q := fun ρ2 v H2 e2 => h ρ2 v H2 (e.trans e2)
theorem KS.ext {r : Fl × Env × Mem} {D : Ends} (h : KS K cl ρ H r D) (e : Ext K ρ H ρ' H') : KS K cl ρ' H' r D := fun ρ2 v H2 e2 => h ρ2 v H2 (e.trans e2)
end

section
variable {X : Cx} {cl : Nat → Addr}
theorem PE.imp {e : Expr} {t t' : TE} (h : PE X e t) (hi : ∀ σ H Q, t' σ H Q → t σ H Q) : PE X e t' := ⟨fun pins s σ H Q I q => h.run pins s σ H Q I (hi _ _ _ q)⟩
theorem PE.or {e : Expr} {t t' : TE} (h : PE X e t) (h' : PE X e t') : PE X e (fun σ H Q => t σ H Q ∨ t' σ H Q) := ⟨fun pins s σ H Q I q => q.elim (h.run pins s σ H Q I) (h'.run pins s σ H Q I)⟩
theorem PT.imp {e : Expr} {t t' : TT} (h : PT X e t) (hi : ∀ σ H Q, t' σ H Q → t σ H Q) : PT X e t' := ⟨fun pins s σ H Q I q => h.run pins s σ H Q I (hi _ _ _ q)⟩
theorem PW.imp {e : Expr} {t t' : TT} (h : PW X e t) (hi : ∀ σ H Q, t' σ H Q → t σ H Q) : PW X e t' := ⟨fun wh pins s σ H Q I q => h.run wh pins s σ H Q I (hi _ _ _ q)⟩
theorem PA.imp {e : List Expr} {t t' : TA} (h : PA X e t) (hi : ∀ σ H Q, t' σ H Q → t σ H Q) : PA X e t' := ⟨fun pos pins s σ H Q I q => h.run pos pins s σ H Q I (hi _ _ _ q)⟩
theorem PS.imp {e : Stmt} {t t' : TS} (h : PS X e t) (hi : ∀ D σ H, t' D σ H → t D σ H) : PS X e t' := ⟨fun pins s σ H D I q => h.run pins s σ H D I (hi _ _ _ q)⟩
theorem PSs.imp {e : List Stmt} {t t' : TS} (h : PSs X e t) (hi : ∀ D σ H, t' D σ H → t D σ H) : PSs X e t' := ⟨fun pins s σ H D I q => h.run pins s σ H D I (hi _ _ _ q)⟩
theorem OpR.imp {f : Value → Value → Sem Value} {r r' : R2} (h : OpR X f r) (hi : ∀ x y H Q, r' x y H Q → r x y H Q) : OpR X f r' := fun pins s σ H x y v u Q I a b q => h pins s σ H x y v u Q I a b (hi _ _ _ _ q)
theorem CallR.imp {f : Value} {r r' : List V → Hp → VK → Prop} (h : CallR X f r) (hi : ∀ xs H Q, r' xs H Q → r xs H Q) : CallR X f r' := fun pins s σ H xs us Q I a q => h pins s σ H xs us Q I a (hi _ _ _ q)
theorem MtR.imp {id : String} {r r' : V → List V → Hp → VK → Prop} (h : MtR X id r) (hi : ∀ x xs H Q, r' x xs H Q → r x xs H Q) : MtR X id r' := fun pins s σ H x xs v us Q I a b q => h pins s σ H x xs v us Q I a b (hi _ _ _ _ q)
theorem IxR.imp {r r' : R2} (h : IxR X r) (hi : ∀ x y H Q, r' x y H Q → r x y H Q) : IxR X r' := fun value slice pins s σ H x y v u Q I a b q => h value slice pins s σ H x y v u Q I a b (hi _ _ _ _ q)

abbrev RX (cl : Nat → Addr) (X : Cx) (e : Expr) (m : Ex) : Prop := PE X e (TX X.K cl m)
abbrev RT (cl : Nat → Addr) (X : Cx) (e : Expr) (m : Tx) : Prop := PT X e (TTX X.K cl m)
abbrev RW (cl : Nat → Addr) (X : Cx) (e : Expr) (m : Tx) : Prop := PW X e (TTX X.K cl m)
abbrev RA (cl : Nat → Addr) (X : Cx) (e : List Expr) (m : Ax) : Prop := PA X e (TAX X.K cl m)
abbrev RS (cl : Nat → Addr) (X : Cx) (e : Stmt) (m : Sx) : Prop := PS X e (TSX X.K cl m)
abbrev RSs (cl : Nat → Addr) (X : Cx) (e : List Stmt) (m : Sx) : Prop := PSs X e (TSX X.K cl m)

/-! ### names, constants -/
def xVar (i : Nat) : Ex := fun env m => match env[i]? with
  | some (some p) => some (p, m)
  | _ => none
def xC (p : PV) : Ex := fun _ m => some (p, m)
theorem rx_var {i : Nat} {x : Str} {pos : Pos} (hN : X.N[i]? = some x) (hv : Vis X.env.scope x) (hd : (x == ("__debug__" : Str)) = false := by decide) (hcd : (x == ("__classdict__" : Str)) = false := by decide) : RX cl X (.Name x pos) (xVar i) :=
  PE.imp (pe_var hN hv hd hcd) fun σ H Q ⟨ρ, env, mem, r, hm, he, h, q⟩ => by
    unfold xVar at h
    split at h
    · rename_i p hp
      cases h
      obtain ⟨v, h1, h2⟩ := he.ok i p hp
      exact ⟨v, h1, q ρ v H .refl hm h2⟩
    · cases h
theorem rx_c {e : Expr} {p : PV} {v : V} (h : PE X e (tC v)) (hr : ∀ ρ H, Rep X.K ρ H p v) : RX cl X e (xC p) :=
  PE.imp h fun σ H Q ⟨ρ, env, mem, r, hm, he, h, q⟩ => by
    cases h
    exact q ρ v H .refl hm (hr ρ H)
theorem rx_int {i j pos} : RX cl X (.Constant (.int i) j pos) (xC (.int i)) := rx_c pe_int fun _ _ => by rw [Rep]
theorem rx_bl {i j pos} : RX cl X (.Constant (.bool i) j pos) (xC (.bl i)) := rx_c pe_bl fun _ _ => by rw [Rep]
theorem rx_non {j pos} : RX cl X (.Constant .none j pos) (xC .non) := rx_c pe_non fun _ _ => by rw [Rep]
theorem rx_str {i j pos} : RX cl X (.Constant (.str i) j pos) (xC (.str i)) := rx_c pe_str fun _ _ => by rw [Rep]
/-- a module's constant int -/
theorem rx_gint {x : Str} {i : Int} {pos : Pos} (h : ∃ t, X.mg x = some (.int i t)) (hg : Gl X x) (hd : (x == ("__debug__" : Str)) = false := by decide) : RX cl X (.Name x pos) (xC (.int i)) := by
  obtain ⟨t, h⟩ := h
  exact rx_c (v := .int i) (pe_glob hg h ⟨t, rfl⟩ hd) fun _ _ => by rw [Rep]

/-! ### operators -/
def x1 (g : PV → Mem → Option (PV × Mem)) (a : Ex) : Ex := fun env m => (a env m).bind fun r => g r.1 r.2
def x2 (g : PV → PV → Mem → Option (PV × Mem)) (a b : Ex) : Ex := fun env m => (a env m).bind fun r => (b env r.2).bind fun s => g r.1 s.1 s.2
theorem t1_of {g : PV → Mem → Option (PV × Mem)} {a : Ex} {σ H Q} (h : TX X.K cl (x1 g a) σ H Q) : TX X.K cl a σ H fun x H1 => G1 X.K cl g x H1 Q := by
  obtain ⟨ρ, env, mem, r, hm, he, h, q⟩ := h
  unfold x1 at h
  obtain ⟨r1, h1, h2⟩ := Option.bind_eq_some_iff.mp h
  exact ⟨ρ, env, mem, r1, hm, he, h1, fun ρ1 v1 H1 e1 m1 p1 => ⟨ρ1, r1.1, r1.2, r, m1, p1, h2, q.ext e1⟩⟩
theorem t2_of {g : PV → PV → Mem → Option (PV × Mem)} {a b : Ex} {σ H Q} (h : TX X.K cl (x2 g a b) σ H Q) : TX X.K cl a σ H fun x H1 => TX X.K cl b σ H1 fun y H2 => G2 X.K cl g x y H2 Q := by
  obtain ⟨ρ, env, mem, r, hm, he, h, q⟩ := h
  unfold x2 at h
  obtain ⟨r1, h1, h⟩ := Option.bind_eq_some_iff.mp h
  obtain ⟨r2, h2, h3⟩ := Option.bind_eq_some_iff.mp h
  exact ⟨ρ, env, mem, r1, hm, he, h1, fun ρ1 v1 H1 e1 m1 p1 => ⟨ρ1, env, r1.2, r2, m1, he.ext e1, h2, fun ρ2 v2 H2 e2 m2 p2 => ⟨ρ2, r1.1, r2.1, r2.2, r, m2, e2.rep _ _ p1, p2, h3, q.ext (e1.trans e2)⟩⟩⟩
variable {a b c e o : Expr} {es : List Expr} {pos p apos : Pos} {ma mb mc me : Ex} {x : Str}
theorem rx_bin {op : Operator} {g : PV → PV → Mem → Option (PV × Mem)} (ho : OpR X (binaryOp op) (G2 X.K cl g)) (ha : RX cl X a ma) (hb : RX cl X b mb) : RX cl X (.BinOp a op b pos) (x2 g ma mb) := PE.imp (pe_op ho ha hb) fun _ _ _ h => t2_of h
theorem rx_un {op : UnaryOp} {g : PV → Mem → Option (PV × Mem)} (ho : UnR X (unaryOp op) (G1 X.K cl g)) (ha : RX cl X a ma) : RX cl X (.UnaryOp op a pos) (x1 g ma) := PE.imp (pe_un ho ha) fun _ _ _ h => t1_of h
theorem rx_cmp {op : CmpOp} {g : PV → PV → Mem → Option (PV × Mem)} (ho : OpR X (compareOp op) (G2 X.K cl g)) (ha : RX cl X a ma) (hb : RX cl X b mb) (hm : behindInMarks op b = false) : RX cl X (.Compare a [op] [b] pos) (x2 g ma mb) := PE.imp (pe_cmpR ho ha hb hm) fun _ _ _ h => t2_of h

/-! ### tests -/
/-- a value that is a bool, as a test -/
def tBl (a : Ex) : Tx := fun env m => (a env m).bind fun r => match r.1 with
  | .bl b => some (b, r.2)
  | _ => none
theorem tBl_of {ma : Ex} {σ H Q} (h : TTX X.K cl (tBl ma) σ H Q) : TX X.K cl ma σ H fun x H1 => ∃ k, x = .bl k ∧ Q k H1 := by
  obtain ⟨ρ, env, mem, r, hm, he, h, q⟩ := h
  unfold tBl at h
  obtain ⟨r1, h1, h2⟩ := Option.bind_eq_some_iff.mp h
  refine ⟨ρ, env, mem, r1, hm, he, h1, fun ρ1 v1 H1 e1 m1 p1 => ?_⟩
  split at h2
  · rename_i k hk
    cases h2
    rw [hk, rep_bl] at p1
    exact ⟨k, p1, q ρ1 H1 e1 m1⟩
  · cases h2
theorem rt_cmp {op : CmpOp} {g : PV → PV → Mem → Option (PV × Mem)} (ho : OpR X (compareOp op) (G2 X.K cl g)) (ha : RX cl X a ma) (hb : RX cl X b mb) (hm : behindInMarks op b = false) : RT cl X (.Compare a [op] [b] pos) (tBl (x2 g ma mb)) :=
  PT.imp (pt_cmpR ho ha hb hm) fun _ _ _ h => t2_of (tBl_of h)
def truG : PV → Mem → Option Bool
  | .non, _ => some false
  | .bl b, _ => some b
  | .int i, _ => some (decide (i ≠ 0))
  | .str s, _ => if s.length ≤ sizeLine then some (decide (s.length ≠ 0)) else none
  | .tup ps, _ => some (!ps.isEmpty)
  | .ref i, m => match m[i]? with
    | some (.lst ps) => some (!ps.isEmpty)
    | some (.rol ps) => some (!ps.isEmpty)
    | some (.dic ps) => some (!ps.isEmpty)
    | _ => none
def tTru (a : Ex) : Tx := fun env m => (a env m).bind fun r => (truG r.1 r.2).map fun k => (k, r.2)
theorem RepL.empty {K ρ H ps xs} (h : RepL K ρ H ps xs) : xs.isEmpty = ps.isEmpty := by
  cases ps with
  | nil => rw [h.inv0]; rfl
  | cons p ps => obtain ⟨x, r, rfl, _⟩ := h.inv; rfl
theorem truG_ok {ρ : List Addr} {H : Hp} {mem : Mem} {p : PV} {v : V} {k : Bool} (hm : RelM X.K cl ρ H mem) (hp : Rep X.K ρ H p v) (h : truG p mem = some k) : TruV X.K v H k := by
  cases p with
  | non => rw [rep_non] at hp; subst hp; cases h; rfl
  | bl b => rw [rep_bl] at hp; subst hp; cases h; rfl
  | int i =>
    rw [rep_int] at hp; subst hp; cases h
    show decide (i ≠ 0) = (i != 0)
    rw [bne, Bool.beq_eq_decide_eq]
    simp
  | str s =>
    rw [rep_str] at hp; subst hp
    simp only [truG] at h
    split at h
    · rename_i hl
      cases h
      refine ⟨hl, ?_⟩
      rw [bne, Bool.beq_eq_decide_eq]
      by_cases z : s.length = 0
      · simp [z]
      · have : ¬ ((s.length : Int) = 0) := by omega
        simp [z, this]
    · cases h
  | tup ps =>
    rw [rep_tup] at hp
    obtain ⟨a, xs, rfl, h1, h2⟩ := hp
    replace h1 := h1.t
    cases h
    exact .inr (.inl ⟨xs, h1, by rw [h2.empty]⟩)
  | ref i =>
    rw [rep_ref] at hp
    obtain ⟨a, h1, rfl⟩ := hp
    simp only [truG] at h
    split at h
    · rename_i ps e
      cases h
      obtain ⟨xs, q1, q2⟩ := hm.ok i a _ h1 e
      exact .inl ⟨xs, .inl (.inl q1), by rw [q2.empty]⟩
    · rename_i ps e
      cases h
      obtain ⟨xs, q1, q2⟩ := hm.ok i a _ h1 e
      refine .inl ⟨xs, ?_, by rw [q2.empty]⟩
      rcases q1 with ⟨ob, q1⟩ | q1
      · exact .inl (.inr ⟨ob, q1⟩)
      · exact q1 H
    · rename_i ps e
      cases h
      obtain ⟨xs, q1, q2⟩ := hm.ok i a _ h1 e
      refine .inr (.inr ⟨xs, q1, ?_⟩)
      cases q2 <;> rfl
    · cases h
theorem rt_tru (ha : RX cl X a ma) (he : ∀ whole, isTrue a X.env whole = (do let v ← whole; standAt a.pos; holding [v] (truthy v)) := by intro _; rfl) : RT cl X a (tTru ma) :=
  PT.imp (pt_truth ha he) fun σ H Q ⟨ρ, env, mem, r, hm, hE, h, q⟩ => by
    unfold tTru at h
    obtain ⟨r1, h1, h2⟩ := Option.bind_eq_some_iff.mp h
    obtain ⟨k, h4, h3⟩ := Option.map_eq_some_iff.mp h2
    subst h3
    exact ⟨ρ, env, mem, r1, hm, hE, h1, fun ρ1 v1 H1 e1 m1 p1 => ⟨k, truG_ok m1 p1 h4, q ρ1 H1 e1 m1⟩⟩
def tNt (a : Tx) : Tx := fun env m => (a env m).map fun r => (!r.1, r.2)
def tAn (a b : Tx) : Tx := fun env m => (a env m).bind fun r => if r.1 = true then b env r.2 else some (false, r.2)
def tOr' (a b : Tx) : Tx := fun env m => (a env m).bind fun r => if r.1 = true then some (true, r.2) else b env r.2
variable {ta tb : Tx} {rest : List Expr}
theorem rt_not (ha : RT cl X a ta) : RT cl X (.UnaryOp .Not a pos) (tNt ta) :=
  PT.imp (pt_not ha) fun σ H Q ⟨ρ, env, mem, r, hm, hE, h, q⟩ => by
    unfold tNt at h
    obtain ⟨r1, h1, h2⟩ := Option.map_eq_some_iff.mp h
    subst h2
    exact ⟨ρ, env, mem, r1, hm, hE, h1, fun ρ1 H1 e1 m1 => q ρ1 H1 e1 m1⟩
theorem rw_and1 (ha : RT cl X a ta) : RW cl X (.BoolOp .And [a] pos) ta := pw_and1 ha
theorem rw_or1 (ha : RT cl X a ta) : RW cl X (.BoolOp .Or [a] pos) ta := pw_or1 ha
theorem rw_and (ha : RT cl X a ta) (hb : RW cl X (.BoolOp .And (b :: rest) pos) tb) : RW cl X (.BoolOp .And (a :: b :: rest) pos) (tAn ta tb) :=
  PW.imp (pw_and ha hb) fun σ H Q ⟨ρ, env, mem, r, hm, hE, h, q⟩ => by
    unfold tAn at h
    obtain ⟨r1, h1, h2⟩ := Option.bind_eq_some_iff.mp h
    refine ⟨ρ, env, mem, r1, hm, hE, h1, fun ρ1 H1 e1 m1 => ?_⟩
    split at h2
    · rename_i k
      rw [if_pos k]
      exact ⟨ρ1, env, r1.2, r, m1, hE.ext e1, h2, q.ext e1⟩
    · rename_i k
      rw [if_neg k]
      cases h2
      exact q ρ1 H1 e1 m1
theorem rw_or (ha : RT cl X a ta) (hb : RW cl X (.BoolOp .Or (b :: rest) pos) tb) : RW cl X (.BoolOp .Or (a :: b :: rest) pos) (tOr' ta tb) :=
  PW.imp (pw_or ha hb) fun σ H Q ⟨ρ, env, mem, r, hm, hE, h, q⟩ => by
    unfold tOr' at h
    obtain ⟨r1, h1, h2⟩ := Option.bind_eq_some_iff.mp h
    refine ⟨ρ, env, mem, r1, hm, hE, h1, fun ρ1 H1 e1 m1 => ?_⟩
    split at h2
    · rename_i k
      rw [if_pos k]
      cases h2
      exact q ρ1 H1 e1 m1
    · rename_i k
      rw [if_neg k]
      exact ⟨ρ1, env, r1.2, r, m1, hE.ext e1, h2, q.ext e1⟩
theorem rt_w (h : RW cl X a ta) : RT cl X a ta := h.pt

/-! ### and, or, not as values; a if t else b -/
def xNt (a : Ex) : Ex := fun env m => (a env m).bind fun r => match r.1 with
  | .bl b => some (.bl (!b), r.2)
  | _ => none
def xAn (a b : Ex) : Ex := fun env m => (a env m).bind fun r => match r.1 with
  | .bl k => if k = true then b env r.2 else some (.bl false, r.2)
  | _ => none
def xOr (a b : Ex) : Ex := fun env m => (a env m).bind fun r => match r.1 with
  | .bl k => if k = true then some (.bl true, r.2) else b env r.2
  | _ => none
def xIf (t : Tx) (a b : Ex) : Ex := fun env m => (t env m).bind fun r => if r.1 = true then a env r.2 else b env r.2
theorem rx_not (ha : RX cl X a ma) : RX cl X (.UnaryOp .Not a pos) (xNt ma) :=
  PE.imp (pe_not ha) fun σ H Q ⟨ρ, env, mem, r, hm, hE, h, q⟩ => by
    unfold xNt at h
    obtain ⟨r1, h1, h2⟩ := Option.bind_eq_some_iff.mp h
    refine ⟨ρ, env, mem, r1, hm, hE, h1, fun ρ1 v1 H1 e1 m1 p1 => ?_⟩
    split at h2
    · rename_i k hk
      cases h2
      rw [hk, rep_bl] at p1
      exact ⟨k, p1, q ρ1 _ H1 e1 m1 (by rw [Rep])⟩
    · cases h2
theorem rx_one {op} (h : RX cl X a ma) : RX cl X (.BoolOp op [a] pos) ma := pe_one h
theorem rx_and (ha : RX cl X a ma) (hb : RX cl X (.BoolOp .And (b :: rest) pos) mb) : RX cl X (.BoolOp .And (a :: b :: rest) pos) (xAn ma mb) :=
  PE.imp (pe_and ha hb) fun σ H Q ⟨ρ, env, mem, r, hm, hE, h, q⟩ => by
    unfold xAn at h
    obtain ⟨r1, h1, h2⟩ := Option.bind_eq_some_iff.mp h
    refine ⟨ρ, env, mem, r1, hm, hE, h1, fun ρ1 v1 H1 e1 m1 p1 => ?_⟩
    split at h2
    · rename_i k hk
      rw [hk, rep_bl] at p1
      refine ⟨k, p1, ?_⟩
      split at h2
      · rename_i z
        rw [if_pos z]
        exact ⟨ρ1, env, r1.2, r, m1, hE.ext e1, h2, q.ext e1⟩
      · rename_i z
        rw [if_neg z]
        cases h2
        exact q ρ1 _ H1 e1 m1 (by rw [Rep])
    · cases h2
theorem rx_or (ha : RX cl X a ma) (hb : RX cl X (.BoolOp .Or (b :: rest) pos) mb) : RX cl X (.BoolOp .Or (a :: b :: rest) pos) (xOr ma mb) :=
  PE.imp (pe_or ha hb) fun σ H Q ⟨ρ, env, mem, r, hm, hE, h, q⟩ => by
    unfold xOr at h
    obtain ⟨r1, h1, h2⟩ := Option.bind_eq_some_iff.mp h
    refine ⟨ρ, env, mem, r1, hm, hE, h1, fun ρ1 v1 H1 e1 m1 p1 => ?_⟩
    split at h2
    · rename_i k hk
      rw [hk, rep_bl] at p1
      refine ⟨k, p1, ?_⟩
      split at h2
      · rename_i z
        rw [if_pos z]
        cases h2
        exact q ρ1 _ H1 e1 m1 (by rw [Rep])
      · rename_i z
        rw [if_neg z]
        exact ⟨ρ1, env, r1.2, r, m1, hE.ext e1, h2, q.ext e1⟩
    · cases h2
theorem rx_ife (hc : RT cl X c ta) (ha : RX cl X a ma) (hb : RX cl X b mb) : RX cl X (.IfExp c a b pos) (xIf ta ma mb) :=
  PE.imp (pe_ifExp hc ha hb) fun σ H Q ⟨ρ, env, mem, r, hm, hE, h, q⟩ => by
    unfold xIf at h
    obtain ⟨r1, h1, h2⟩ := Option.bind_eq_some_iff.mp h
    refine ⟨ρ, env, mem, r1, hm, hE, h1, fun ρ1 H1 e1 m1 => ?_⟩
    split at h2
    · rename_i z
      rw [if_pos z]
      exact ⟨ρ1, env, r1.2, r, m1, hE.ext e1, h2, q.ext e1⟩
    · rename_i z
      rw [if_neg z]
      exact ⟨ρ1, env, r1.2, r, m1, hE.ext e1, h2, q.ext e1⟩

/-! ### arguments, displays, calls -/
def aNil : Ax := fun _ m => some ([], m)
def aCons (a : Ex) (r : Ax) : Ax := fun env m => (a env m).bind fun x => (r env x.2).bind fun xs => some (x.1 :: xs.1, xs.2)
theorem ra_nil : RA cl X [] aNil := PA.imp pa_nil fun σ H Q ⟨ρ, env, mem, r, hm, hE, h, q⟩ => by
  cases h
  exact q ρ [] H .refl hm .nil
theorem ra_cons {ma : Ex} {mr : Ax} (ha : RX cl X e ma) (hr : RA cl X es mr) (hs : starEach (e :: es) X.env = (false, eval e X.env) :: starEach es X.env := by rfl) : RA cl X (e :: es) (aCons ma mr) :=
  PA.imp (pa_cons ha hr hs) fun σ H Q ⟨ρ, env, mem, r, hm, hE, h, q⟩ => by
    unfold aCons at h
    obtain ⟨r1, h1, h⟩ := Option.bind_eq_some_iff.mp h
    obtain ⟨r2, h2, h3⟩ := Option.bind_eq_some_iff.mp h
    cases h3
    exact ⟨ρ, env, mem, r1, hm, hE, h1, fun ρ1 v1 H1 e1 m1 p1 => ⟨ρ1, env, r1.2, r2, m1, hE.ext e1, h2, fun ρ2 vs H2 e2 m2 p2 => q ρ2 _ H2 (e1.trans e2) m2 (.cons (e2.rep _ _ p1) p2)⟩⟩
variable {mA : Ax}
def xA (g : List PV → Mem → Option (PV × Mem)) (a : Ax) : Ex := fun env m => (a env m).bind fun r => g r.1 r.2
theorem tA_of {g : List PV → Mem → Option (PV × Mem)} {a : Ax} {σ H Q} (h : TX X.K cl (xA g a) σ H Q) : TAX X.K cl a σ H fun x H1 => GL X.K cl g x H1 Q := by
  obtain ⟨ρ, env, mem, r, hm, he, h, q⟩ := h
  unfold xA at h
  obtain ⟨r1, h1, h2⟩ := Option.bind_eq_some_iff.mp h
  exact ⟨ρ, env, mem, r1, hm, he, h1, fun ρ1 v1 H1 e1 m1 p1 => ⟨ρ1, r1.1, r1.2, r, m1, p1, h2, q.ext e1⟩⟩
def tupG : List PV → Mem → Option (PV × Mem) := fun ps m => if ps.length ≤ sizeLine then some (.tup ps, m) else none
def lstG : List PV → Mem → Option (PV × Mem) := fun ps m => if ps.length ≤ sizeLine then some (.ref m.length, m ++ [.lst ps]) else none
/-- a tuple object has been made -/
theorem new_tup {ρ H mem xs ps p} {ob : Obj} (hd : ob.dict = none) (hm : RelM X.K cl ρ H mem) (h : RepL X.K ρ H ps xs) (hp : H p = none) : Ext X.K ρ H ρ (upd H p (.frz ob (.tup xs))) ∧ RelM X.K cl ρ (upd H p (.frz ob (.tup xs))) mem ∧ Rep X.K ρ (upd H p (.frz ob (.tup xs))) (.tup ps) (.ref p) := by
  have e : Ext X.K ρ H ρ (upd H p (.frz ob (.tup xs))) := by
    have := ext_new (K := X.K) (ρ := ρ) (o := .frz ob (.tup xs)) hp []
    rwa [List.append_nil] at this
  refine ⟨e, ⟨hm.len, hm.inj, fun i a o h1 h2 => (hm.ok i a o h1 h2).ext e fun u q => by rw [upd_ne (ne_of_none q hp)]; exact q⟩, ?_⟩
  rw [rep_tup]
  exact ⟨p, xs, rfl, .inl ⟨ob, upd_same, hd⟩, e.repL _ _ h⟩
theorem laid_tup {pins : List (Addr × Obj)} {σ : L2.St} {H : Hp} {s : Shared} {xs : List V} {us : List Value} {Q : VK} (I : Inv X pins σ H s) (hz : xs.length ≤ sizeLine) (r : Vals xs us)
    (q : ∀ (p : Addr) (ob : Obj), ob.dict = none → H p = none → Q (.ref p) (upd H p (.frz ob (.tup xs)))) : EP X pins σ Q (.ref s.heap.objs.size) { s with heap := s.heap.push { cls := .type "tuple", data := .seq us.toArray } } :=
  ⟨.ref s.heap.objs.size, upd H s.heap.objs.size (.frz { cls := .type "tuple", data := .seq us.toArray } (.tup xs)), I.laid (t' := s.toks) (fun b u e => Heap.get?_push_of_some _ e) (Nat.le_refl _)
    (show ObjOk X.prog X.w _ _ _ (.frz _ (.tup xs)) from ⟨Heap.get?_push_size _ rfl, hz, us, r, ⟨_, Heap.get?_push_size _ rfl, rfl, _, rfl⟩⟩), rfl, q _ _ rfl (I.hok.fresh (Nat.le_refl _))⟩
/-- a tuple of written items: its object has no dict -/
def tTupP (t : TA) : TE := fun σ H Q => t σ H fun xs H1 => xs.length ≤ sizeLine ∧ ∀ (p : Addr) (ob : Obj), ob.dict = none → H1 p = none → Q (.ref p) (upd H1 p (.frz ob (.tup xs)))
theorem pe_tupP {x1 : Nat} {t : TA} (h : PA X es t) : PE X (.Tuple es x1 pos) (tTupP t) := by
  refine ⟨fun pins s σ H Q I hq => ?_⟩
  refine PySem.wpAny_Tuple_spliced (thn (h.run pos pins s σ H _ I hq) fun us s1 ⟨xs, H1, I1, r, z, q⟩ => ⟨by rw [← r.length]; exact z, ?_⟩)
  exact laid_tup I1 z r q
/-- a list object has been made -/
theorem new_lst {ρ H mem xs ps p} (hm : RelM X.K cl ρ H mem) (h : RepL X.K ρ H ps xs) (hp : H p = none) : Ext X.K ρ H (ρ ++ [p]) (upd H p (.lst xs)) ∧ RelM X.K cl (ρ ++ [p]) (upd H p (.lst xs)) (mem ++ [.lst ps]) ∧ Rep X.K (ρ ++ [p]) (upd H p (.lst xs)) (.ref mem.length) (.ref p) := by
  have e : Ext X.K ρ H (ρ ++ [p]) (upd H p (.lst xs)) := ext_new hp _
  refine ⟨e, hm.alloc hp ⟨xs, upd_same, e.repL _ _ h⟩, ?_⟩
  rw [rep_ref]
  exact ⟨p, by rw [← hm.len]; simp, rfl⟩
theorem rx_tup {k : Nat} (h : RA cl X es mA) : RX cl X (.Tuple es k pos) (xA tupG mA) := PE.imp (pe_tupP h) fun σ H Q hw => by
  obtain ⟨ρ, env, mem, r, hm, hE, h1, q⟩ := tA_of hw
  refine ⟨ρ, env, mem, r, hm, hE, h1, fun ρ1 vs H1 e1 m1 p1 => ?_⟩
  obtain ⟨ρ2, ps, mem2, r2, n1, n2, n3, n4⟩ := q ρ1 vs H1 e1 m1 p1
  unfold tupG at n3
  split at n3
  · rename_i hz
    cases n3
    refine ⟨by rw [n2.length]; exact hz, fun p ob hob hp => ?_⟩
    obtain ⟨z1, z2, z3⟩ := new_tup hob n1 n2 hp
    exact n4 _ _ _ z1 z2 z3
  · cases n3
theorem rx_lst (h : RA cl X es mA) : RX cl X (.List es pos) (xA lstG mA) := PE.imp (pe_lst h) fun σ H Q hw => by
  obtain ⟨ρ, env, mem, r, hm, hE, h1, q⟩ := tA_of hw
  refine ⟨ρ, env, mem, r, hm, hE, h1, fun ρ1 vs H1 e1 m1 p1 => ?_⟩
  obtain ⟨ρ2, ps, mem2, r2, n1, n2, n3, n4⟩ := q ρ1 vs H1 e1 m1 p1
  unfold lstG at n3
  split at n3
  · rename_i hz
    cases n3
    refine ⟨by rw [n2.length]; exact hz, fun p hp => ?_⟩
    obtain ⟨z1, z2, z3⟩ := new_lst n1 n2 hp
    exact n4 _ _ _ z1 z2 z3
  · cases n3
/-- a call of a def by its name -/
def xCall (n : Nat) (F : Fn) (a : Ax) : Ex := fun env m => (a env m).bind fun r => if r.1.length = n then F r.1 r.2 else none
theorem tCall_of {n : Nat} {F : Fn} {σ H Q} (h : TX X.K cl (xCall n F mA) σ H Q) : TAX X.K cl mA σ H fun vs H1 => SpF X.K cl n F (vs ++ []) H1 Q E0 := by
  obtain ⟨ρ, env, mem, r, hm, hE, h, q⟩ := h
  unfold xCall at h
  obtain ⟨r1, h1, h2⟩ := Option.bind_eq_some_iff.mp h
  refine ⟨ρ, env, mem, r1, hm, hE, h1, fun ρ1 v1 H1 e1 m1 p1 => ?_⟩
  split at h2
  · rename_i hl
    refine ⟨ρ1, r1.1, r1.2, r, hl, m1, by rw [List.append_nil]; exact p1, h2, q.ext e1⟩
  · cases h2
section
variable {k j n : Nat} {F : Fn} {C : Nat} {m : Str}
theorem rx_call (c : C8.Cal X.prog X.w X.K X.mg X.base k x (SpF X.K cl n F) []) (hr : Room j X.A) (hk : k ≤ j) (hg : Gl X x) (ha : RA cl X (e :: es) mA)
    (hdb : (x == ("__debug__" : Str)) = false := by decide) (he : starEach (e :: es) X.env = (false, eval e X.env) :: starEach es X.env := by rfl) (hpl : (backTo pos (starEach es X.env)).any (·.1) = false := by rfl) : RX cl X (.Call (.Name x p) (e :: es) [] pos) (xCall n F mA) :=
  PE.imp (C8.pe_c c hr hk hg ha hdb he hpl) fun _ _ _ h => tCall_of h
theorem rx_call0 (c : C8.Cal X.prog X.w X.K X.mg X.base k x (SpF X.K cl n F) []) (hr : Room j X.A) (hk : k ≤ j) (hg : Gl X x) (hdb : (x == ("__debug__" : Str)) = false := by decide) : RX cl X (.Call (.Name x p) [] [] pos) (xCall n F aNil) := by
  obtain ⟨f, fd, ps, ds, F', hm, kp, b, d⟩ := c.ex
  refine PE.imp (pe_call0 F' (hr.mono hk) hg hm kp b d pass0 hdb) fun σ H Q h => ?_
  obtain ⟨ρ, env, mem, r, hm, hE, h, q⟩ := h
  unfold xCall aNil at h
  rw [Option.bind_some] at h
  split at h
  · rename_i hl
    exact ⟨ρ, [], mem, r, hl, hm, RepL.nil, h, q⟩
  · cases h
/-- o.m(..), o an instance of the class C -/
def insG (C : Nat) (m : Str) (p : PV) (mem : Mem) : Bool := match p with
  | .ref i => match mem[i]? with
    | some (.ins c fs) => decide (c = C) && (fs.lookup m).isNone
    | _ => false
  | _ => false
def xMeth (C : Nat) (m : Str) (n : Nat) (F : Fn) (o : Ex) (a : Ax) : Ex := fun env mem => (o env mem).bind fun r => if insG C m r.1 r.2 = true then (a env r.2).bind fun s => if s.1.length = n then F (r.1 :: s.1) s.2 else none else none
theorem repF_lookup {K ρ H} : ∀ {fs : List (Str × PV)} {gs : List (Str × V)} (f : Str), RepF K ρ H fs gs → match fs.lookup f with
    | some p => ∃ v, gs.lookup f = some v ∧ Rep K ρ H p v
    | none => gs.lookup f = none
  | _, _, f, .nil => rfl
  | (a, p) :: fs, (b, v) :: gs, f, .cons h t => by
    obtain ⟨h1, h2⟩ := h
    have h1 : a = b := h1
    subst h1
    rw [List.lookup_cons, List.lookup_cons]
    cases z : f == a with
    | true => exact ⟨v, rfl, h2⟩
    | false => exact repF_lookup f t
theorem insG_ok {ρ H mem C m p v} (hm : RelM X.K cl ρ H mem) (hp : Rep X.K ρ H p v) (h : insG C m p mem = true) : ∃ a dx gs, v = .ref a ∧ H a = some (.ins (cl C) dx gs) ∧ gs.lookup m = none := by
  unfold insG at h
  split at h
  · rename_i i
    rw [rep_ref] at hp
    obtain ⟨a, h1, rfl⟩ := hp
    split at h
    · rename_i c fs e
      rw [Bool.and_eq_true] at h
      have hc : c = C := of_decide_eq_true h.1
      subst hc
      obtain ⟨dx, gs, q1, q2⟩ := hm.ok i a _ h1 e
      refine ⟨a, dx, gs, rfl, q1, ?_⟩
      have := repF_lookup m q2
      cases z : fs.lookup m with
      | none => rw [z] at this; exact this
      | some _ => rw [z] at h; simp at h
    · cases h
  · cases h
theorem rx_meth {pl : Sem Bool} (c : C8.Met X.prog X.w X.K X.mg X.base k (cl C) m (SpF X.K cl (n + 1) F) []) (hr : Room j X.A) (hk : k ≤ j) (ho : RX cl X o ma) (ha : RA cl X (e :: es) mA)
    (hst : starEach (e :: es) X.env = (false, eval e X.env) :: starEach es X.env := by rfl) (hpl : (backTo pos (starEach es X.env)).any (·.1) = false := by rfl)
    (ht : eval (.Call (.Attribute o m apos) (e :: es) [] pos) X.env = (do
      let ov ← eval o X.env
      standAt apos.atName
      let (f, first) ← holding [ov] (getMethod ov m pl)
      callWith pos f first (backTo pos (starEach (e :: es) X.env)) (backToKw pos (keywordEach [] X.env))) := by rfl) : RX cl X (.Call (.Attribute o m apos) (e :: es) [] pos) (xMeth C m n F ma mA) :=
  PE.imp (C8.pe_mt (pl := pl) c hr hk ho ha hst hpl ht) fun σ H Q ⟨ρ, env, mem, r, hm, hE, h, q⟩ => by
    unfold xMeth at h
    obtain ⟨r1, h1, h⟩ := Option.bind_eq_some_iff.mp h
    split at h
    · rename_i hi
      obtain ⟨r2, h2, h3⟩ := Option.bind_eq_some_iff.mp h
      split at h3
      · rename_i hl
        refine ⟨ρ, env, mem, r1, hm, hE, h1, fun ρ1 v1 H1 e1 m1 p1 => ?_⟩
        obtain ⟨a, dx, gs, rfl, i1, i2⟩ := insG_ok m1 p1 hi
        exact ⟨a, dx, gs, rfl, i1, i2, ρ1, env, r1.2, r2, m1, hE.ext e1, h2, fun ρ2 vs H2 e2 m2 p2 => ⟨ρ2, r1.1 :: r2.1, r2.2, r, by rw [List.length_cons, hl], m2, by rw [List.append_nil]; exact .cons (e2.rep _ _ p1) p2, h3, q.ext (e1.trans e2)⟩⟩
      · cases h3
    · cases h
theorem rx_meth0 {pl : Sem Bool} (c : C8.Met X.prog X.w X.K X.mg X.base k (cl C) m (SpF X.K cl 1 F) []) (hr : Room j X.A) (hk : k ≤ j) (ho : RX cl X o ma)
    (ht : eval (.Call (.Attribute o m apos) [] [] pos) X.env = (do
      let ov ← eval o X.env
      standAt apos.atName
      let (f, first) ← holding [ov] (getMethod ov m pl)
      callWith pos f first (backTo pos (starEach [] X.env)) (backToKw pos (keywordEach [] X.env))) := by rfl) : RX cl X (.Call (.Attribute o m apos) [] [] pos) (xMeth C m 0 F ma aNil) :=
  PE.imp (C8.pe_mt0 (pl := pl) c hr hk ho ht) fun σ H Q ⟨ρ, env, mem, r, hm, hE, h, q⟩ => by
    unfold xMeth at h
    obtain ⟨r1, h1, h⟩ := Option.bind_eq_some_iff.mp h
    split at h
    · rename_i hi
      obtain ⟨r2, h2, h3⟩ := Option.bind_eq_some_iff.mp h
      cases h2
      split at h3
      · rename_i hl
        refine ⟨ρ, env, mem, r1, hm, hE, h1, fun ρ1 v1 H1 e1 m1 p1 => ?_⟩
        obtain ⟨a, dx, gs, rfl, i1, i2⟩ := insG_ok m1 p1 hi
        exact ⟨a, dx, gs, rfl, i1, i2, ρ1, [r1.1], r1.2, r, rfl, m1, .cons p1 .nil, h3, q.ext e1⟩
      · cases h3
    · cases h
/-- C(..): a new instance, then __init__ -/
def xMake (C n : Nat) (F : Fn) (a : Ax) : Ex := fun env m => (a env m).bind fun r => if r.1.length = n then (F (.ref r.2.length :: r.1) (r.2 ++ [.ins C []])).bind fun s => match s.1 with
  | .non => some (.ref r.2.length, s.2)
  | _ => none else none
theorem rx_make (c : C8.Mak X.prog X.w X.K X.mg X.base k x (cl C) (SpF X.K cl (n + 1) F) []) (hr : Room j X.A) (hk : k + 1 ≤ j) (hg : Gl X x) (ha : RA cl X (e :: es) mA)
    (hdb : (x == ("__debug__" : Str)) = false := by decide) (he : starEach (e :: es) X.env = (false, eval e X.env) :: starEach es X.env := by rfl) (hpl : (backTo pos (starEach es X.env)).any (·.1) = false := by rfl) :
    RX cl X (.Call (.Name x p) (e :: es) [] pos) (xMake C n F mA) :=
  PE.imp (C8.pe_mk c hr hk hg ha hdb he hpl) fun σ H Q ⟨ρ, env, mem, r, hm, hE, h, q⟩ => by
    unfold xMake at h
    obtain ⟨r1, h1, h⟩ := Option.bind_eq_some_iff.mp h
    split at h
    · rename_i hl
      obtain ⟨r2, h2, h3⟩ := Option.bind_eq_some_iff.mp h
      refine ⟨ρ, env, mem, r1, hm, hE, h1, fun ρ1 v1 H1 e1 m1 p1 y dx hy hdx hne => ?_⟩
      have ed : Ext X.K ρ1 H1 ρ1 (upd H1 dx (.own y)) := by
        have := ext_new (K := X.K) (ρ := ρ1) (o := .own y) hdx []
        rwa [List.append_nil] at this
      have md : RelM X.K cl ρ1 (upd H1 dx (.own y)) r1.2 := ⟨m1.len, m1.inj, fun i a o h1 h2 => (m1.ok i a o h1 h2).ext ed fun u q => by rw [upd_ne (ne_of_none q hdx)]; exact q⟩
      have hy' : upd H1 dx (.own y) y = none := by rw [upd_ne (Ne.symm hne)]; exact hy
      have e2 : Ext X.K ρ1 (upd H1 dx (.own y)) (ρ1 ++ [y]) (upd (upd H1 dx (.own y)) y (.ins (cl C) dx [])) := ext_new hy' _
      have m2 := md.alloc (u := .ins (cl C) dx []) (o := .ins C []) hy' ⟨dx, [], upd_same, .nil⟩
      have ry : Rep X.K (ρ1 ++ [y]) (upd (upd H1 dx (.own y)) y (.ins (cl C) dx [])) (.ref r1.2.length) (.ref y) := by
        rw [rep_ref]
        exact ⟨y, by rw [← m1.len]; simp, rfl⟩
      refine ⟨ρ1 ++ [y], .ref r1.2.length :: r1.1, r1.2 ++ [.ins C []], r2, by rw [List.length_cons, hl], m2, by rw [List.append_nil]; exact .cons ry ((ed.trans e2).repL _ _ p1), h2, fun ρ3 v3 H3 e3 m3 p3 => ?_⟩
      split at h3
      · rename_i hn
        cases h3
        rw [hn, rep_non] at p3
        exact ⟨p3, q ρ3 _ H3 (e1.trans (ed.trans (e2.trans e3))) m3 (e3.rep _ _ ry)⟩
      · cases h3
    · cases h
/-- a built-in, by its rule -/
theorem rx_callB {id : String} {g : List PV → Mem → Option (PV × Mem)} (hc : CallR X (.builtin id) (GL X.K cl g)) (hg : Gl X x) (hm : X.mg x = none) (hv : bootBuiltins x = some (.builtin id)) (ha : RA cl X (e :: es) mA) (hn : x ≠ "__name__" := by decide) (hdb : (x == ("__debug__" : Str)) = false := by decide)
    (he : starEach (e :: es) X.env = (false, eval e X.env) :: starEach es X.env := by rfl) (hpl : (backTo pos (starEach es X.env)).any (·.1) = false := by rfl) : RX cl X (.Call (.Name x p) (e :: es) [] pos) (xA g mA) :=
  PE.imp (pe_callB hc hg hm hv ha hn hdb he hpl) fun _ _ _ h => tA_of h
theorem rx_callTy {id : String} {g : List PV → Mem → Option (PV × Mem)} (hc : CallR X (.type id) (GL X.K cl g)) (hg : Gl X x) (hm : X.mg x = none) (hv : bootBuiltins x = some (.type id)) (ha : RA cl X (e :: es) mA) (hn : x ≠ "__name__" := by decide) (hdb : (x == ("__debug__" : Str)) = false := by decide)
    (he : starEach (e :: es) X.env = (false, eval e X.env) :: starEach es X.env := by rfl) (hpl : (backTo pos (starEach es X.env)).any (·.1) = false := by rfl) : RX cl X (.Call (.Name x p) (e :: es) [] pos) (xA g mA) :=
  PE.imp (pe_callTy hc hg hm hv ha hn hdb he hpl) fun _ _ _ h => tA_of h
end
end
end Rf
end

section
set_option Elab.async false
set_option linter.all false
set_option maxRecDepth 100000
set_option autoImplicit false
namespace Rf
open PySem PySem.Spec L2

/-! ### subscripts -/
theorem ixN_lt {n : Nat} {i : Int} {j : Nat} (h : ixN n i = some j) : j < n := (ixN_seq h).2.1
theorem RepL.atI {K ρ H} {ps : List PV} {xs : List V} {i : Int} {p : PV} (h : RepL K ρ H ps xs) (e : L2.atI ps i = some p) : ∃ x, L2.atI xs i = some x ∧ Rep K ρ H p x := by
  unfold L2.atI at e ⊢
  rw [h.length]
  cases z : ixN ps.length i with
  | none => rw [z] at e; cases e
  | some j =>
    rw [z] at e
    exact h.get e
def keyOf : PV → Option Key
  | .int i => some (.inl i)
  | .str s => some (.inr s)
  | _ => none
def valP {κ : Type} [DecidableEq κ] (kvs : List (κ × PV)) (k : κ) : Option PV := (kvs.find? fun kv => decide (kv.1 = k)).map (·.2)
def putP {κ : Type} [DecidableEq κ] (kvs : List (κ × PV)) (k : κ) (v : PV) : List (κ × PV) :=
  if (kvs.any fun kv => decide (kv.1 = k)) = true then kvs.map (fun kv => if kv.1 = k then (kv.1, v) else kv) else kvs ++ [(k, v)]
theorem keyOf_rep {K ρ H p v k} (h : Rep K ρ H p v) (e : keyOf p = some k) : v = kV k := by
  cases p with
  | int i => cases e; rw [rep_int] at h; exact h
  | str i => cases e; rw [rep_str] at h; exact h
  | _ => cases e
section
variable {κ : Type} [DecidableEq κ] {K : PySem.W.Frag} {ρ : List Addr} {H : Hp}
theorem valP_rep (k : κ) : ∀ {kvs : List (κ × PV)} {kws : List (κ × V)}, RepF K ρ H kvs kws → match valP kvs k with
    | some p => ∃ v, valV kws k = some v ∧ Rep K ρ H p v
    | none => valV kws k = none
  | _, _, .nil => rfl
  | (a, p) :: fs, (b, v) :: gs, .cons h t => by
    obtain ⟨h1, h2⟩ := h
    have h1 : a = b := h1
    subst h1
    unfold valP valV
    rw [List.find?_cons, List.find?_cons]
    by_cases z : a = k
    · simp only [z, decide_true]
      exact ⟨v, rfl, h2⟩
    · simp only [z, decide_false]
      exact valP_rep k t
theorem any_rep (k : κ) : ∀ {kvs : List (κ × PV)} {kws : List (κ × V)}, RepF K ρ H kvs kws → (kvs.any fun kv => decide (kv.1 = k)) = (kws.any fun kv => decide (kv.1 = k))
  | _, _, .nil => rfl
  | (a, p) :: fs, (b, v) :: gs, .cons h t => by
    obtain ⟨h1, h2⟩ := h
    have h1 : a = b := h1
    subst h1
    rw [List.any_cons, List.any_cons, any_rep k t]
theorem map_rep (k : κ) {p : PV} {v : V} (r : Rep K ρ H p v) : ∀ {kvs : List (κ × PV)} {kws : List (κ × V)}, RepF K ρ H kvs kws → RepF K ρ H (kvs.map fun kv => if kv.1 = k then (kv.1, p) else kv) (kws.map fun kv => if kv.1 = k then (kv.1, v) else kv)
  | _, _, .nil => .nil
  | (a, q) :: fs, (b, w) :: gs, .cons h t => by
    obtain ⟨h1, h2⟩ := h
    have h1 : a = b := h1
    subst h1
    rw [List.map_cons, List.map_cons]
    refine .cons ?_ (map_rep k r t)
    by_cases z : a = k
    · rw [if_pos z, if_pos z]; exact ⟨rfl, r⟩
    · rw [if_neg z, if_neg z]; exact ⟨rfl, h2⟩
theorem paired_append {α β : Type} {R : α → β → Prop} : ∀ {a : List α} {b : List β} {a' : List α} {b' : List β}, Paired R a b → Paired R a' b' → Paired R (a ++ a') (b ++ b')
  | _, _, _, _, .nil, h => h
  | _, _, _, _, .cons r t, h => .cons r (paired_append t h)
theorem putP_rep {kvs : List (κ × PV)} {kws : List (κ × V)} (h : RepF K ρ H kvs kws) (k : κ) {p : PV} {v : V} (r : Rep K ρ H p v) : RepF K ρ H (putP kvs k p) (putK kws k v) := by
  unfold putP putK
  rw [any_rep k h]
  split
  · exact map_rep k r h
  · exact paired_append h (.cons ⟨rfl, r⟩ .nil)
end
def seqAt (ps : List PV) (q : PV) (m : Mem) : Option (PV × Mem) := match q with
  | .int i => (atI ps i).map (·, m)
  | _ => none
def ixG : PV → PV → Mem → Option (PV × Mem)
  | .tup ps, q, m => seqAt ps q m
  | .str z, .int i, m => if z.length ≤ sizeLine then (atI z.cps.toList i).map fun c => (.str ⟨#[c]⟩, m) else none
  | .ref r, q, m => match m[r]? with
    | some (.lst ps) => seqAt ps q m
    | some (.rol ps) => seqAt ps q m
    | some (.dic kvs) => (keyOf q).bind fun k => (valP kvs k).map (·, m)
    | _ => none
  | _, _, _ => none
def isDic (p : PV) (m : Mem) : Bool := match p with
  | .ref r => match m[r]? with
    | some (.dic _) => true
    | _ => false
  | _ => false
section
variable {X : Cx} {cl : Nat → Addr}
theorem seqAt_rep {ρ H mem ps xs q y r} (h : RepL X.K ρ H ps xs) (hq : Rep X.K ρ H q y) (e : seqAt ps q mem = some r) : ∃ i x, y = .int i ∧ L2.atI xs i = some x ∧ Rep X.K ρ H r.1 x ∧ r.2 = mem := by
  unfold seqAt at e
  split at e
  · rename_i i
    rw [rep_int] at hq
    obtain ⟨p, e1, e2⟩ := Option.map_eq_some_iff.mp e
    subst e2
    obtain ⟨x, h1, h2⟩ := h.atI e1
    exact ⟨i, x, hq, h1, h2, rfl⟩
  · cases e
theorem sq_of {ρ : List Addr} {H : Hp} {mem : Mem} {i : Nat} {a : Addr} {ps : List PV} (hm : RelM X.K cl ρ H mem) (ha : ρ[i]? = some a) (h : mem[i]? = some (Ob.lst ps) ∨ mem[i]? = some (Ob.rol ps)) : ∃ xs, SqL X.K H a xs ∧ RepL X.K ρ H ps xs := by
  rcases h with h | h
  · obtain ⟨xs, q1, q2⟩ := hm.ok i a _ ha h
    exact ⟨xs, .inl (.inl q1), q2⟩
  · obtain ⟨xs, q1, q2⟩ := hm.ok i a _ ha h
    refine ⟨xs, ?_, q2⟩
    rcases q1 with ⟨ob, q1⟩ | q1
    · exact .inl (.inr ⟨ob, q1⟩)
    · exact q1 H
theorem ixG_seq {ρ H mem p q r x y Q} (hm : RelM X.K cl ρ H mem) (hp : Rep X.K ρ H p x) (hq : Rep X.K ρ H q y) (h : ixG p q mem = some r) (hd : isDic p mem = false) (k : KE X.K cl ρ H r Q) : rIx X.K x y H Q := by
  cases p with
  | tup ps =>
    rw [rep_tup] at hp
    obtain ⟨a, xs, rfl, h1, h2⟩ := hp
    replace h1 := h1.t
    obtain ⟨i, z, rfl, e1, e2, e3⟩ := seqAt_rep h2 hq h
    exact .inr (.inl ⟨a, xs, i, z, rfl, rfl, h1, e1, k ρ z H .refl (by rw [e3]; exact hm) e2⟩)
  | str z =>
    rw [rep_str] at hp
    subst hp
    cases q with
    | int i =>
      rw [rep_int] at hq
      subst hq
      simp only [ixG] at h
      split at h
      · rename_i hz
        obtain ⟨c, e1, e2⟩ := Option.map_eq_some_iff.mp h
        subst e2
        exact .inr (.inr ⟨z, i, c, rfl, rfl, hz, e1, k ρ _ H .refl hm (by rw [Rep])⟩)
      · cases h
    | _ => cases h
  | ref i =>
    rw [rep_ref] at hp
    obtain ⟨a, ha, rfl⟩ := hp
    simp only [ixG] at h
    simp only [isDic] at hd
    split at h
    · rename_i ps e
      obtain ⟨xs, s1, s2⟩ := sq_of hm ha (.inl e)
      obtain ⟨i, z, rfl, e1, e2, e3⟩ := seqAt_rep s2 hq h
      exact .inl ⟨a, xs, i, z, rfl, rfl, s1, e1, k ρ z H .refl (by rw [e3]; exact hm) e2⟩
    · rename_i ps e
      obtain ⟨xs, s1, s2⟩ := sq_of hm ha (.inr e)
      obtain ⟨i, z, rfl, e1, e2, e3⟩ := seqAt_rep s2 hq h
      exact .inl ⟨a, xs, i, z, rfl, rfl, s1, e1, k ρ z H .refl (by rw [e3]; exact hm) e2⟩
    · rename_i kvs e
      rw [e] at hd
      cases hd
    · cases h
  | _ => cases h
theorem ixG_dic {ρ H mem p q r x y Q} (hm : RelM X.K cl ρ H mem) (hp : Rep X.K ρ H p x) (hq : Rep X.K ρ H q y) (h : ixG p q mem = some r) (hd : isDic p mem = true) (k : KE X.K cl ρ H r Q) : ∃ a v, x = .ref a ∧ DGet H a y (some v) ∧ Q v H := by
  unfold isDic at hd
  split at hd
  · rename_i i
    rw [rep_ref] at hp
    obtain ⟨a, ha, rfl⟩ := hp
    split at hd
    · rename_i kvs e
      simp only [ixG, e] at h
      obtain ⟨k1, h1, h2⟩ := Option.bind_eq_some_iff.mp h
      obtain ⟨v1, h3, h4⟩ := Option.map_eq_some_iff.mp h2
      subst h4
      obtain ⟨kws, z1, z2⟩ := hm.ok i a _ ha e
      have z3 := valP_rep k1 z2
      rw [h3] at z3
      obtain ⟨w, z4, z5⟩ := z3
      have ey := keyOf_rep hq h1
      subst ey
      refine ⟨a, w, rfl, ?_, k ρ w H .refl hm z5⟩
      have := DGet.k (k := k1) z1
      rwa [z4] at this
    · cases hd
  · cases hd
variable {a b c e o : Expr} {es : List Expr} {pos p apos pos' : Pos} {ma mb mc me mo mi : Ex} {x f : Str}
theorem rx_ix (hu : X.A.units + 1 < cLine) (ha : RX cl X a ma) (hb : RX cl X b mb) (hs : PlainIx b) : RX cl X (.Subscript a b pos) (x2 ixG ma mb) :=
  PE.imp (PE.or (pe_ix ix_seq ha hb hs) (pe_dget hu ha hb hs)) fun σ H Q h => by
    obtain ⟨ρ, env, mem, r, hm, he, h, q⟩ := h
    unfold x2 at h
    obtain ⟨r1, h1, h⟩ := Option.bind_eq_some_iff.mp h
    obtain ⟨r2, h2, h3⟩ := Option.bind_eq_some_iff.mp h
    cases hd : isDic r1.1 r2.2 with
    | false => exact .inl ⟨ρ, env, mem, r1, hm, he, h1, fun ρ1 v1 H1 e1 m1 p1 => ⟨ρ1, env, r1.2, r2, m1, he.ext e1, h2, fun ρ2 v2 H2 e2 m2 p2 => ixG_seq m2 (e2.rep _ _ p1) p2 h3 hd (q.ext (e1.trans e2))⟩⟩
    | true => exact .inr ⟨ρ, env, mem, r1, hm, he, h1, fun ρ1 v1 H1 e1 m1 p1 => ⟨ρ1, env, r1.2, r2, m1, he.ext e1, h2, fun ρ2 v2 H2 e2 m2 p2 => ixG_dic m2 (e2.rep _ _ p1) p2 h3 hd (q.ext (e1.trans e2))⟩⟩

/-! ### slices -/
abbrev Ox := Env → Mem → Option (Option Int × Mem)
def TOX (K : PySem.W.Frag) (cl : Nat → Addr) (m : Ox) : TO := fun σ H Q => ∃ ρ env mem r, RelM K cl ρ H mem ∧ RelE K ρ H σ env ∧ m env mem = some r ∧ ∀ ρ' H', Ext K ρ H ρ' H' → RelM K cl ρ' H' r.2 → Q r.1 H'
abbrev RO (cl : Nat → Addr) (X : Cx) (e : Option Expr) (m : Ox) : Prop := PO X e (TOX X.K cl m)
theorem PO.imp {e : Option Expr} {t t' : TO} (h : PO X e t) (hi : ∀ σ H Q, t' σ H Q → t σ H Q) : PO X e t' := ⟨fun pins s σ H Q I q => h.run pins s σ H Q I (hi _ _ _ q)⟩
def oNone : Ox := fun _ m => some (none, m)
def oSome (a : Ex) : Ox := fun env m => (a env m).bind fun r => match r.1 with
  | .int i => some (some i, r.2)
  | _ => none
theorem ro_none : RO cl X none oNone := PO.imp po_none fun σ H Q ⟨ρ, env, mem, r, hm, hE, h, q⟩ => by
  cases h
  exact q ρ H .refl hm
theorem ro_some (h : RX cl X e me) : RO cl X (some e) (oSome me) := PO.imp (po_some h) fun σ H Q ⟨ρ, env, mem, r, hm, hE, h, q⟩ => by
  unfold oSome at h
  obtain ⟨r1, h1, h2⟩ := Option.bind_eq_some_iff.mp h
  refine ⟨ρ, env, mem, r1, hm, hE, h1, fun ρ1 v1 H1 e1 m1 p1 => ?_⟩
  split at h2
  · rename_i i hi
    cases h2
    rw [hi, rep_int] at p1
    exact ⟨i, p1, q ρ1 H1 e1 m1⟩
  · cases h2
def cutP (xs : List PV) (lo hi : Option Int) : List PV := (xs.drop (HT.sIx xs.length 0 lo)).take (HT.sIx xs.length xs.length hi - HT.sIx xs.length 0 lo)
theorem cutP_rep {ρ H} {ps : List PV} {xs : List V} (h : RepL X.K ρ H ps xs) (lo hi : Option Int) : RepL X.K ρ H (cutP ps lo hi) (cutV xs lo hi) := by
  unfold cutP cutV
  rw [h.length]
  exact (h.drop _).take _
def slG (p : PV) (lo hi : Option Int) (m : Mem) : Option (PV × Mem) := match p with
  | .tup ps => some (.tup (cutP ps lo hi), m)
  | .str z => if z.length ≤ sizeLine then some (.str (cutS z lo hi), m) else none
  | .ref r => match m[r]? with
    | some (.lst ps) => some (.ref m.length, m ++ [.lst (cutP ps lo hi)])
    | some (.rol ps) => some (.ref m.length, m ++ [.lst (cutP ps lo hi)])
    | _ => none
  | _ => none
/-- t[lo:hi], the new object without a dict -/
def rSlP (K : PySem.W.Frag) : V → Option Int → Option Int → Hp → VK → Prop := fun x lo hi H Q => ∃ a xs, x = .ref a ∧ SqT K H a xs ∧
  (HT.sIx xs.length 0 lo = 0 ∧ HT.sIx xs.length xs.length hi = xs.length → Q (.ref a) H) ∧ (¬ (HT.sIx xs.length 0 lo = 0 ∧ HT.sIx xs.length xs.length hi = xs.length) → ∀ (p : Addr) (ob : Obj), ob.dict = none → H p = none → Q (.ref p) (upd H p (.frz ob (.tup (cutV xs lo hi)))))
theorem sl_tupP : SlR X (rSlP X.K) := by
  intro pins s σ H x v vl vu lo hi sl Q I rx hs pl pu h
  obtain ⟨a, xs, rfl, hx, q1, q2⟩ := h
  by_cases hw : HT.sIx xs.length 0 lo = 0 ∧ HT.sIx xs.length xs.length hi = xs.length
  · exact sl_tupA pins s σ H _ v vl vu lo hi sl Q I rx hs pl pu ⟨a, xs, rfl, hx, q1, fun n => absurd hw n⟩
  · cases rx
    obtain ⟨its, r, ht, hz⟩ := I.tuple hx
    have hlen : its.toArray.size = xs.length := by rw [List.size_toArray]; exact r.length.symm
    refine ⟨"tuple", _, PyProof.Rows.slot_tuple_getitem.lookup, ht.typeIs, ?_⟩
    refine HT.getItem_tuple_cut ht hs pl pu (by rw [hlen]; exact hw) ?_ (by rw [hlen]; exact hz)
    rw [hlen]
    exact laid_tup I (Nat.le_trans (cutV_length xs lo hi) hz) ((r.drop (HT.sIx xs.length 0 lo)).take (HT.sIx xs.length xs.length hi - HT.sIx xs.length 0 lo)) (q2 hw)
def xSl (a : Ex) (lo hi : Ox) : Ex := fun env m => (a env m).bind fun r => (lo env r.2).bind fun s => (hi env s.2).bind fun t => slG r.1 s.1 t.1 t.2
theorem rx_sl {lo hi : Option Expr} {ol oh : Ox} {p2 : Pos} (ha : RX cl X a ma) (hl : RO cl X lo ol) (hh : RO cl X hi oh) : RX cl X (.Subscript a (.Slice lo hi none p2) pos) (xSl ma ol oh) :=
  PE.imp (pe_slice (sl_list.or (sl_tupP.or sl_str)) ha hl hh) fun σ H Q ⟨ρ, env, mem, r, hm, hE, h, q⟩ => by
    unfold xSl at h
    obtain ⟨r1, h1, h⟩ := Option.bind_eq_some_iff.mp h
    obtain ⟨r2, h2, h⟩ := Option.bind_eq_some_iff.mp h
    obtain ⟨r3, h3, h4⟩ := Option.bind_eq_some_iff.mp h
    refine ⟨ρ, env, mem, r1, hm, hE, h1, fun ρ1 v1 H1 e1 m1 p1 => ⟨ρ1, env, r1.2, r2, m1, hE.ext e1, h2, fun ρ2 H2 e2 m2 => ⟨ρ2, env, r2.2, r3, m2, (hE.ext e1).ext e2, h3, fun ρ3 H3 e3 m3 => ?_⟩⟩⟩
    have p3 := (e2.trans e3).rep _ _ p1
    have q3 := q.ext (e1.trans (e2.trans e3))
    generalize r1.1 = p at h4 p3
    cases p with
    | tup ps =>
      rw [rep_tup] at p3
      obtain ⟨a, xs, rfl, i1, i2⟩ := p3
      cases h4
      refine .inr (.inl ⟨a, xs, rfl, i1.t, fun hw => ?_, fun hw p ob hob hp => ?_⟩)
      · refine q3 ρ3 _ H3 .refl m3 ?_
        rw [rep_tup]
        refine ⟨a, xs, rfl, i1, ?_⟩
        have e : cutP ps r2.1 r3.1 = ps := by
          unfold cutP
          rw [i2.length] at hw
          rw [hw.1, hw.2]
          simp
        rw [e]
        exact i2
      · obtain ⟨z1, z2, z3⟩ := new_tup hob m3 (cutP_rep i2 r2.1 r3.1) hp
        exact q3 _ _ _ z1 z2 z3
    | str z =>
      rw [rep_str] at p3
      subst p3
      simp only [slG] at h4
      split at h4
      · rename_i hz
        cases h4
        exact .inr (.inr ⟨z, rfl, hz, q3 ρ3 _ H3 .refl m3 (by rw [Rep])⟩)
      · cases h4
    | ref i =>
      rw [rep_ref] at p3
      obtain ⟨a, ha, rfl⟩ := p3
      simp only [slG] at h4
      split at h4
      · rename_i ps e
        cases h4
        obtain ⟨xs, s1, s2⟩ := sq_of m3 ha (.inl e)
        refine .inl ⟨a, xs, rfl, s1, fun p hp => ?_⟩
        obtain ⟨z1, z2, z3⟩ := new_lst m3 (cutP_rep s2 r2.1 r3.1) hp
        exact q3 _ _ _ z1 z2 z3
      · rename_i ps e
        cases h4
        obtain ⟨xs, s1, s2⟩ := sq_of m3 ha (.inr e)
        refine .inl ⟨a, xs, rfl, s1, fun p hp => ?_⟩
        obtain ⟨z1, z2, z3⟩ := new_lst m3 (cutP_rep s2 r2.1 r3.1) hp
        exact q3 _ _ _ z1 z2 z3
      · cases h4
    | _ => cases h4

/-! ### fields -/
def fldG (C : Nat) (f : Str) (p : PV) (m : Mem) : Option (PV × Mem) := match p with
  | .ref r => match m[r]? with
    | some (.ins c fs) => if c = C then (fs.lookup f).map (·, m) else none
    | _ => none
  | _ => none
theorem rx_fld {C : Nat} (hc : Cls X.K (cl C)) (hn : NoAttr X.K (cl C) f) (he : RX cl X e me) (hb : attributeBase e f X.env (eval e X.env) = eval e X.env := by rfl) : RX cl X (.Attribute e f pos) (x1 (fldG C f) me) :=
  PE.imp (pe_fld he hb) fun σ H Q h => by
    obtain ⟨ρ, env, mem, r, hm, hE, h, q⟩ := t1_of h
    refine ⟨ρ, env, mem, r, hm, hE, h, fun ρ1 v1 H1 e1 m1 p1 => ?_⟩
    obtain ⟨ρ2, p2, mem2, r2, n1, n2, n3, n4⟩ := q ρ1 v1 H1 e1 m1 p1
    unfold fldG at n3
    split at n3
    · rename_i i
      rw [rep_ref] at n2
      obtain ⟨a, ha, rfl⟩ := n2
      split at n3
      · rename_i c fs e
        split at n3
        · rename_i hC
          subst hC
          obtain ⟨v, n5, n6⟩ := Option.map_eq_some_iff.mp n3
          subst n6
          obtain ⟨dx, gs, z1, z2⟩ := n1.ok i a _ ha e
          have z3 := repF_lookup f z2
          rw [n5] at z3
          obtain ⟨w, z4, z5⟩ := z3
          exact ⟨a, _, dx, gs, w, rfl, z1, hc, hn, z4, n4 ρ2 w H1 .refl n1 z5⟩
        · cases n3
      · cases n3
    · cases n3

/-! ### statements -/
def sNx : Sx := fun env m => some (.nx, env, m)
def sBk : Sx := fun env m => some (.bk, env, m)
def sCt : Sx := fun env m => some (.ct, env, m)
def sNo : Sx := fun _ _ => none
def sSq (a b : Sx) : Sx := fun env m => (a env m).bind fun r => match r.1 with
  | .nx => b r.2.1 r.2.2
  | _ => some r
variable {st : Stmt} {sts : List Stmt} {sa sb : Sx}
theorem rss_nil : RSs cl X [] sNx := PSs.imp pss_nil fun D σ H ⟨ρ, env, mem, r, hm, hE, h, q⟩ => by
  cases h
  exact q ρ σ H .refl hm hE
theorem rs_pass : RS cl X (.Pass pos) sNx := PS.imp ps_pass fun D σ H ⟨ρ, env, mem, r, hm, hE, h, q⟩ => by
  cases h
  exact q ρ σ H .refl hm hE
theorem rs_break : RS cl X (.Break pos) sBk := PS.imp ps_break fun D σ H ⟨ρ, env, mem, r, hm, hE, h, q⟩ => by
  cases h
  exact q ρ σ H .refl hm hE
theorem rs_continue : RS cl X (.Continue pos) sCt := PS.imp ps_continue fun D σ H ⟨ρ, env, mem, r, hm, hE, h, q⟩ => by
  cases h
  exact q ρ σ H .refl hm hE
theorem rs_never : RS cl X st sNo := PS.imp ps_never fun D σ H ⟨ρ, env, mem, r, hm, hE, h, q⟩ => by cases h
theorem rs_doc {x : Str} {j : Nat} {pos'} : RS cl X (.Expr (.Constant (.str x) j pos) pos') sNx := PS.imp ps_doc fun D σ H ⟨ρ, env, mem, r, hm, hE, h, q⟩ => by
  cases h
  exact q ρ σ H .refl hm hE
theorem rss_cons (h1 : RS cl X st sa) (h2 : RSs cl X sts sb) : RSs cl X (st :: sts) (sSq sa sb) := PSs.imp (pss_cons h1 h2) fun D σ H ⟨ρ, env, mem, r, hm, hE, h, q⟩ => by
  unfold sSq at h
  obtain ⟨r1, e1, h⟩ := Option.bind_eq_some_iff.mp h
  refine ⟨ρ, env, mem, r1, hm, hE, e1, fun ρ1 σ1 H1 x1 m1 E1 => ?_⟩
  obtain ⟨f, env1, mem1⟩ := r1
  cases f with
  | nx => exact ⟨ρ1, env1, mem1, r, m1, E1, h, q.ext x1⟩
  | rt v => cases h; exact q ρ1 σ1 H1 x1 m1 E1
  | bk => cases h; exact q ρ1 σ1 H1 x1 m1 E1
  | ct => cases h; exact q ρ1 σ1 H1 x1 m1 E1
theorem rss_one (h1 : RS cl X st sa) : RSs cl X [st] sa := pss_one h1
def sEx (a : Ex) : Sx := fun env m => (a env m).bind fun r => some (.nx, env, r.2)
def sRt (a : Ex) : Sx := fun env m => (a env m).bind fun r => some (.rt r.1, env, r.2)
def sRn : Sx := fun env m => some (.rt .non, env, m)
def sIf (t : Tx) (a b : Sx) : Sx := fun env m => (t env m).bind fun r => if r.1 = true then a env r.2 else b env r.2
theorem rs_expr (he : RX cl X e me) (hs : swapsWith e none pos.line X.env = pure false := by rfl) : RS cl X (.Expr e pos) (sEx me) := PS.imp (ps_expr he hs) fun D σ H ⟨ρ, env, mem, r, hm, hE, h, q⟩ => by
  unfold sEx at h
  obtain ⟨r1, e1, h⟩ := Option.bind_eq_some_iff.mp h
  cases h
  exact ⟨ρ, env, mem, r1, hm, hE, e1, fun ρ1 v1 H1 x1 m1 p1 => q ρ1 σ H1 x1 m1 (hE.ext x1)⟩
theorem rs_ret (he : RX cl X e me) : RS cl X (.Return (some e) pos) (sRt me) := PS.imp (ps_ret he) fun D σ H ⟨ρ, env, mem, r, hm, hE, h, q⟩ => by
  unfold sRt at h
  obtain ⟨r1, e1, h⟩ := Option.bind_eq_some_iff.mp h
  cases h
  exact ⟨ρ, env, mem, r1, hm, hE, e1, fun ρ1 v1 H1 x1 m1 p1 => q ρ1 σ H1 x1 m1 (hE.ext x1) v1 p1⟩
theorem rs_retN : RS cl X (.Return none pos) sRn := PS.imp ps_retN fun D σ H ⟨ρ, env, mem, r, hm, hE, h, q⟩ => by
  cases h
  exact q ρ σ H .refl hm hE _ (by rw [Rep])
theorem rs_if {tc : Tx} {xs ys : List Stmt} (hc : RT cl X c tc) (ha : RSs cl X xs sa) (hb : RSs cl X ys sb) : RS cl X (.If c xs ys pos) (sIf tc sa sb) := PS.imp (ps_if hc ha hb) fun D σ H ⟨ρ, env, mem, r, hm, hE, h, q⟩ => by
  unfold sIf at h
  obtain ⟨r1, e1, h⟩ := Option.bind_eq_some_iff.mp h
  refine ⟨ρ, env, mem, r1, hm, hE, e1, fun ρ1 H1 x1 m1 => ?_⟩
  split at h
  · rename_i z
    rw [if_pos z]
    exact ⟨ρ1, env, r1.2, r, m1, hE.ext x1, h, q.ext x1⟩
  · rename_i z
    rw [if_neg z]
    exact ⟨ρ1, env, r1.2, r, m1, hE.ext x1, h, q.ext x1⟩

/-! ### targets -/
abbrev Gx := PV → Env → Mem → Option (Env × Mem)
abbrev Gxs := List PV → Env → Mem → Option (Env × Mem)
def KG (K : PySem.W.Frag) (cl : Nat → Addr) (ρ : List Addr) (H : Hp) (r : Env × Mem) (Q : L2.St → Hp → Prop) : Prop := ∀ ρ' σ' H', Ext K ρ H ρ' H' → RelM K cl ρ' H' r.2 → RelE K ρ' H' σ' r.1 → Q σ' H'
theorem KG.ext {K cl ρ H ρ' H'} {r : Env × Mem} {Q} (h : KG K cl ρ H r Q) (e : Ext K ρ H ρ' H') : KG K cl ρ' H' r Q := fun ρ2 v H2 e2 => h ρ2 v H2 (e.trans e2)
def TGX (K : PySem.W.Frag) (cl : Nat → Addr) (g : Gx) : TG := fun v σ H Q => ∃ ρ p env mem r, RelM K cl ρ H mem ∧ RelE K ρ H σ env ∧ Rep K ρ H p v ∧ g p env mem = some r ∧ KG K cl ρ H r Q
def TGsX (K : PySem.W.Frag) (cl : Nat → Addr) (g : Gxs) : TGs := fun vs σ H Q => ∃ ρ ps env mem r, RelM K cl ρ H mem ∧ RelE K ρ H σ env ∧ RepL K ρ H ps vs ∧ g ps env mem = some r ∧ KG K cl ρ H r Q
abbrev RG (cl : Nat → Addr) (X : Cx) (e : Expr) (g : Gx) : Prop := PG X e (TGX X.K cl g)
abbrev RGs (cl : Nat → Addr) (X : Cx) (e : List Expr) (g : Gxs) : Prop := PGs X e (TGsX X.K cl g)
theorem PG.imp {e : Expr} {t t' : TG} (h : PG X e t) (hi : ∀ v σ H Q, t' v σ H Q → t v σ H Q) : PG X e t' := ⟨fun pins s σ H v u Q I r q => h.run pins s σ H v u Q I r (hi _ _ _ _ q)⟩
theorem PGs.imp {e : List Expr} {t t' : TGs} (h : PGs X e t) (hi : ∀ v σ H Q, t' v σ H Q → t v σ H Q) : PGs X e t' := ⟨fun pins s σ H v u Q I r q => h.run pins s σ H v u Q I r (hi _ _ _ _ q)⟩
def gNm (i : Nat) : Gx := fun p env m => some (env.set i (some p), m)
theorem rg_name {i : Nat} (hN : X.N.Nodup) (hi : X.N[i]? = some x) (hx : Loc X.env.scope x) (hf : X.fn x = true ∨ X.env.scope.names.lookup x = some .local := by first | exact .inl rfl | exact .inr rfl | assumption) : RG cl X (.Name x pos) (gNm i) :=
  PG.imp (pg_name hN hi hx hf) fun v σ H Q ⟨ρ, p, env, mem, r, hm, hE, hp, h, q⟩ => by
    cases h
    exact q ρ _ H .refl hm (hE.set i hp)
def gsNil : Gxs := fun ps env m => match ps with
  | [] => some (env, m)
  | _ => none
def gsCons (g : Gx) (r : Gxs) : Gxs := fun ps env m => match ps with
  | p :: qs => (g p env m).bind fun s => r qs s.1 s.2
  | [] => none
theorem rgs_nil : RGs cl X [] gsNil := PGs.imp pgs_nil fun v σ H Q ⟨ρ, p, env, mem, r, hm, hE, hp, h, q⟩ => by
  unfold gsNil at h
  split at h
  · cases h
    exact ⟨hp.inv0, q ρ _ H .refl hm hE⟩
  · cases h
theorem rgs_cons {g : Gx} {gs : Gxs} (h1 : RG cl X e g) (h2 : RGs cl X es gs) (hs : (assignEach (e :: es) X.env).map (·.2) = assign e X.env :: (assignEach es X.env).map (·.2) := by rfl) : RGs cl X (e :: es) (gsCons g gs) :=
  PGs.imp (pgs_cons h1 h2 hs) fun v σ H Q ⟨ρ, p, env, mem, r, hm, hE, hp, h, q⟩ => by
    unfold gsCons at h
    split at h
    · obtain ⟨x, xs, rfl, i1, i2⟩ := hp.inv
      obtain ⟨r1, e1, e2⟩ := Option.bind_eq_some_iff.mp h
      exact ⟨x, xs, rfl, ρ, _, env, mem, r1, hm, hE, i1, e1, fun ρ1 σ1 H1 x1 m1 E1 => ⟨ρ1, _, r1.1, r1.2, r, m1, E1, x1.repL _ _ i2, e2, q.ext x1⟩⟩
    · cases h
/-- a, b = e: e a tuple -/
def gTu (n : Nat) (g : Gxs) : Gx := fun p env m => match p with
  | .tup ps => if ps.length = n then g ps env m else none
  | _ => none
theorem rg_tup {k n : Nat} {gs : Gxs} (hc : X.calm = true) (h : RGs cl X es gs) (hn : (assignEach es X.env).length = n := by rfl) (hst : (assignEach es X.env).findIdx? (·.1) = none := by rfl) : RG cl X (.Tuple es k pos) (gTu n gs) :=
  PG.imp (pg_tup hc h hn hst) fun v σ H Q ⟨ρ, p, env, mem, r, hm, hE, hp, h, q⟩ => by
    unfold gTu at h
    split at h
    · rw [rep_tup] at hp
      obtain ⟨a, xs, rfl, h1, h2⟩ := hp
      replace h1 := h1.t
      split at h
      · rename_i hl
        exact ⟨a, xs, rfl, h1, by rw [h2.length, hl], ρ, _, env, mem, r, hm, hE, h2, h, q⟩
      · cases h
    · cases h
/-- name = e, any target = e -/
def sAs (a : Ex) (g : Gx) : Sx := fun env m => (a env m).bind fun r => (g r.1 env r.2).bind fun s => some (.nx, s.1, s.2)
theorem tAs_of {ma : Ex} {g : Gx} {D σ H} (h : TSX X.K cl (sAs ma g) D σ H) : TX X.K cl ma σ H fun x H1 => TGX X.K cl g x σ H1 D.nx := by
  obtain ⟨ρ, env, mem, r, hm, hE, h, q⟩ := h
  unfold sAs at h
  obtain ⟨r1, e1, h⟩ := Option.bind_eq_some_iff.mp h
  obtain ⟨r2, e2, h⟩ := Option.bind_eq_some_iff.mp h
  cases h
  exact ⟨ρ, env, mem, r1, hm, hE, e1, fun ρ1 v1 H1 x1 m1 p1 => ⟨ρ1, r1.1, env, r1.2, r2, m1, hE.ext x1, p1, e2, fun ρ2 σ2 H2 x2 m2 E2 => q ρ2 σ2 H2 (x1.trans x2) m2 E2⟩⟩
theorem rs_asg {tg : Expr} {g : Gx} (he : RX cl X e me) (hg : RG cl X tg g) (hs : swapsWithSole [tg] e pos.line X.env = pure false := by rfl) (hw : swappedStores [tg] e X.env = pure none := by rfl)
    (h1 : (assignEach [tg] X.env).map (·.2) = [assign tg X.env] := by rfl) : RS cl X (.Assign [tg] e pos) (sAs me g) := PS.imp (ps_asg he hg hs hw h1) fun D σ H h => tAs_of h
theorem rs_set {i : Nat} (hN : X.N.Nodup) (hi : X.N[i]? = some x) (hx : Loc X.env.scope x) (he : RX cl X e me) (hs : swapsWith e (some (.Name x pos')) pos.line X.env = pure false := by rfl) (hf : X.fn x = true ∨ X.env.scope.names.lookup x = some .local := by first | exact .inl rfl | exact .inr rfl | assumption) :
    RS cl X (.Assign [.Name x pos'] e pos) (sAs me (gNm i)) := PS.imp (ps_set hN hi hx he hs hf) fun D σ H h => by
  obtain ⟨ρ, env, mem, r, hm, hE, h, q⟩ := tAs_of h
  refine ⟨ρ, env, mem, r, hm, hE, h, fun ρ1 v1 H1 x1 m1 p1 => ?_⟩
  obtain ⟨ρ2, p, env2, mem2, r2, n1, n2, n3, n4, n5⟩ := q ρ1 v1 H1 x1 m1 p1
  cases n4
  exact n5 ρ2 _ H1 .refl n1 (n2.set i n3)
/-- o[i] = e -/
def setG (p q v : PV) (m : Mem) : Option Mem := match p with
  | .ref r => match m[r]? with
    | some (.lst ps) => match q with
      | .int i => (ixN ps.length i).map fun j => m.set r (.lst (ps.set j v))
      | _ => none
    | some (.dic kvs) => if kvs.length < sizeLine then (keyOf q).map fun k => m.set r (.dic (putP kvs k v)) else none
    | _ => none
  | _ => none
def gIx (o i : Ex) : Gx := fun p env m => (o env m).bind fun r => (i env r.2).bind fun s => (setG r.1 s.1 p s.2).map fun m' => (env, m')
theorem PSet.or {t t' : TSet} (h : PSet X t) (h' : PSet X t') : PSet X (fun o i v H Q => t o i v H Q ∨ t' o i v H Q) := fun pins s σ H o i v ov iv u Q I a b c q => q.elim (h pins s σ H o i v ov iv u Q I a b c) (h' pins s σ H o i v ov iv u Q I a b c)
theorem rg_ix (hu : X.A.units + 1 < cLine) (ho : RX cl X o mo) (hi : RX cl X e mi) (ha : ∀ v, assign (.Subscript o e pos) X.env v = (do
      let ov ← holding [v] (eval o X.env)
      let iv ← holding [v, ov] (eval e X.env)
      standAt pos
      holding [v, ov, iv] (setItem ov iv v)
      release [v, ov, iv] []) := by intro _; rfl) : RG cl X (.Subscript o e pos) (gIx mo mi) :=
  PG.imp (pg_sub ho hi (PSet.or set_list (set_dict hu)) ha) fun v σ H Q ⟨ρ, p, env, mem, r, hm, hE, hp, h, q⟩ => by
    unfold gIx at h
    obtain ⟨r1, e1, h⟩ := Option.bind_eq_some_iff.mp h
    obtain ⟨r2, e2, h⟩ := Option.bind_eq_some_iff.mp h
    obtain ⟨m', e3, h⟩ := Option.map_eq_some_iff.mp h
    subst h
    refine ⟨ρ, env, mem, r1, hm, hE, e1, fun ρ1 v1 H1 x1 m1 p1 => ⟨ρ1, env, r1.2, r2, m1, hE.ext x1, e2, fun ρ2 v2 H2 x2 m2 p2 => ?_⟩⟩
    have q1 := x2.rep _ _ p1
    have q0 := (x1.trans x2).rep _ _ hp
    have qE := hE.ext (x1.trans x2)
    unfold setG at e3
    split at e3
    · rename_i i hr
      rw [hr, rep_ref] at q1
      obtain ⟨a, ha, rfl⟩ := q1
      split at e3
      · rename_i ps hi
        split at e3
        · rename_i k hk
          obtain ⟨j, e4, e5⟩ := Option.map_eq_some_iff.mp e3
          subst e5
          rw [hk, rep_int] at p2
          subst p2
          obtain ⟨xs, z1, z2⟩ := m2.ok i a _ ha hi
          refine .inl ⟨a, xs, k, j, rfl, rfl, z1, by rw [z2.length]; exact e4, ?_⟩
          have x3 : Ext X.K ρ2 H2 ρ2 (upd H2 a (.lst (xs.set j v))) := ext_set m2 ha hi rfl
          exact q ρ2 σ _ ((x1.trans x2).trans x3) (m2.set ha hi rfl rfl ⟨_, upd_same, x3.repL _ _ (z2.set j q0)⟩) (qE.ext x3)
        · cases e3
      · rename_i kvs hi
        split at e3
        · rename_i hl
          obtain ⟨k, e4, e5⟩ := Option.map_eq_some_iff.mp e3
          subst e5
          have ek := keyOf_rep p2 e4
          subst ek
          obtain ⟨kws, z1, z2⟩ := m2.ok i a _ ha hi
          have x3 : Ext X.K ρ2 H2 ρ2 (upd H2 a (.dK (putK kws k v))) := ext_set m2 ha hi rfl
          refine .inr ⟨a, _, rfl, DPut.k z1 (by rw [← Paired.length z2]; exact hl), ?_⟩
          exact q ρ2 σ _ ((x1.trans x2).trans x3) (m2.set ha hi rfl rfl ⟨_, upd_same, putP_rep (x3.repF z2) k (x3.rep _ _ q0)⟩) (qE.ext x3)
        · cases e3
      · cases e3
    · cases e3
/-- o.f = e -/
def putFP (f : Str) (v : PV) : List (Str × PV) → List (Str × PV)
  | [] => [(f, v)]
  | (g, u) :: r => if g = f then (g, v) :: r else (g, u) :: putFP f v r
def sFd (C : Nat) (f : Str) (o v : Ex) : Sx := fun env m => (v env m).bind fun r => (o env r.2).bind fun s => match s.1 with
  | .ref i => match s.2[i]? with
    | some (.ins c fs) => if c = C ∧ fs.length < 1000 then some (.nx, env, s.2.set i (.ins c (putFP f r.1 fs))) else none
    | _ => none
  | _ => none
theorem putFP_rep {K ρ H} (f : Str) {p : PV} {v : V} (r : Rep K ρ H p v) : ∀ {fs : List (Str × PV)} {gs : List (Str × V)}, RepF K ρ H fs gs → RepF K ρ H (putFP f p fs) (putF f v gs)
  | _, _, .nil => .cons ⟨rfl, r⟩ .nil
  | (a, q) :: fs, (b, w) :: gs, .cons h t => by
    obtain ⟨h1, h2⟩ := h
    have h1 : a = b := h1
    subst h1
    unfold putFP putF
    split
    · exact .cons ⟨rfl, r⟩ t
    · exact .cons ⟨rfl, h2⟩ (putFP_rep f r t)
end
end Rf
end

section
set_option Elab.async false
set_option linter.all false
set_option maxRecDepth 100000
set_option autoImplicit false
namespace Rf
open PySem PySem.Spec L2
section
variable {X : Cx} {cl : Nat → Addr}
variable {a b c e o : Expr} {es : List Expr} {pos p apos pos' : Pos} {ma mb mc me mo mi : Ex} {x f : Str} {mA : Ax}
variable {st : Stmt} {sts : List Stmt} {sa sb : Sx}
theorem rs_fld {C : Nat} {value : Expr} (hc : Cls X.K (cl C)) (hn : NoAttr X.K (cl C) f) (ho : RX cl X o mo) (hv : RX cl X value me) (hs : swapsWith value (some (.Attribute o f pos')) pos.line X.env = pure false := by rfl) : RS cl X (.Assign [.Attribute o f pos'] value pos) (sFd C f mo me) :=
  PS.imp (ps_fld ho hv hs) fun D σ H ⟨ρ, env, mem, r, hm, hE, h, q⟩ => by
    unfold sFd at h
    obtain ⟨r1, e1, h⟩ := Option.bind_eq_some_iff.mp h
    obtain ⟨r2, e2, h⟩ := Option.bind_eq_some_iff.mp h
    refine ⟨ρ, env, mem, r1, hm, hE, e1, fun ρ1 v1 H1 x1 m1 p1 => ⟨ρ1, env, r1.2, r2, m1, hE.ext x1, e2, fun ρ2 v2 H2 x2 m2 p2 => ?_⟩⟩
    split at h
    · rename_i i hi
      rw [hi, rep_ref] at p2
      obtain ⟨a, ha, rfl⟩ := p2
      split at h
      · rename_i c fs hf
        split at h
        · rename_i hC
          obtain ⟨hC, hl⟩ := hC
          obtain rfl := Option.some.inj h
          subst hC
          obtain ⟨dx, gs, z1, z2⟩ := m2.ok i a _ ha hf
          refine ⟨a, _, dx, gs, rfl, z1, hc, hn, by rw [← Paired.length z2]; exact hl, ?_⟩
          have x3 : Ext X.K ρ2 H2 ρ2 (upd H2 a (.ins (cl c) dx (putF f v1 gs))) := ext_set m2 ha hf rfl
          exact q ρ2 σ _ ((x1.trans x2).trans x3) (m2.set ha hf rfl rfl ⟨dx, _, upd_same, putFP_rep f ((x2.trans x3).rep _ _ p1) (x3.repF z2)⟩) ((hE.ext (x1.trans x2)).ext x3)
        · cases h
      · cases h
    · cases h
/-- name op= e -/
def sAu (i : Nat) (g : PV → PV → Mem → Option (PV × Mem)) (a : Ex) : Sx := fun env m => match env[i]? with
  | some (some p) => (a env m).bind fun r => (g p r.1 r.2).bind fun s => some (.nx, env.set i (some s.1), s.2)
  | _ => none
theorem rs_aug {i : Nat} {op : Operator} {g : PV → PV → Mem → Option (PV × Mem)} (hN : X.N.Nodup) (hi : X.N[i]? = some x) (hx : Loc X.env.scope x) (he : RX cl X e me) (ho : PIp X op (G2 X.K cl g)) (hf : X.fn x = true ∨ X.env.scope.names.lookup x = some .local := by first | exact .inl rfl | exact .inr rfl | assumption) :
    RS cl X (.AugAssign (.Name x pos') op e pos) (sAu i g me) := PS.imp (ps_aug hN hi hx he ho hf) fun D σ H ⟨ρ, env, mem, r, hm, hE, h, q⟩ => by
  unfold sAu at h
  split at h
  · rename_i p0 hp
    obtain ⟨r1, e1, h⟩ := Option.bind_eq_some_iff.mp h
    obtain ⟨r2, e2, h⟩ := Option.bind_eq_some_iff.mp h
    cases h
    obtain ⟨v, h1, h2⟩ := hE.ok i p0 hp
    refine ⟨v, h1, ρ, env, mem, r1, hm, hE, e1, fun ρ1 v1 H1 x1 m1 p1 => ⟨ρ1, p0, r1.1, r1.2, r2, m1, x1.rep _ _ h2, p1, e2, fun ρ2 v2 H2 x2 m2 p2 => ?_⟩⟩
    exact q ρ2 _ H2 (x1.trans x2) m2 ((hE.ext (x1.trans x2)).set i p2)
  · cases h

/-! ### what is walked -/
structure Sq where
  items : List PV
  guard : List (Nat × Ob)
def okG (g : List (Nat × Ob)) (m : Mem) : Bool := g.all fun q => decide (m[q.1]? = some q.2)
theorem okG_nil {m : Mem} : okG [] m = true := rfl
theorem okG_cons {q : Nat × Ob} {g : List (Nat × Ob)} {m : Mem} : okG (q :: g) m = true ↔ m[q.1]? = some q.2 ∧ okG g m = true := by
  unfold okG
  rw [List.all_cons, Bool.and_eq_true, decide_eq_true_eq]
structure ItX (K : PySem.W.Frag) (cl : Nat → Addr) (J : It) (s : Sq) (ρ : List Addr) (H : Hp) : Prop where
  go : ∀ (ρ' : List Addr) (H' : Hp) (m : Mem) (i : Nat) (p : PV), Ext K ρ H ρ' H' → RelM K cl ρ' H' m → okG s.guard m = true → s.items[i]? = some p → J.go i H' ∧ ∀ x H'', J.yld i H' x H'' → Ext K ρ' H' ρ' H'' ∧ RelM K cl ρ' H'' m ∧ Rep K ρ' H'' p x
  stop : ∀ (ρ' : List Addr) (H' : Hp) (m : Mem), Ext K ρ H ρ' H' → RelM K cl ρ' H' m → okG s.guard m = true → J.stop s.items.length H'
theorem ItX.ext {K cl J s ρ H ρ' H'} (h : ItX K cl J s ρ H) (e : Ext K ρ H ρ' H') : ItX K cl J s ρ' H' := ⟨fun ρ2 H2 m i p e2 => h.go ρ2 H2 m i p (e.trans e2), fun ρ2 H2 m e2 => h.stop ρ2 H2 m (e.trans e2)⟩
abbrev Ix := Env → Mem → Option (Sq × Mem)
def TIX (K : PySem.W.Frag) (cl : Nat → Addr) (m : Ix) : TI := fun σ H R => ∃ ρ env mem r, RelM K cl ρ H mem ∧ RelE K ρ H σ env ∧ m env mem = some r ∧ ∀ ρ' H' J, Ext K ρ H ρ' H' → RelM K cl ρ' H' r.2 → okG r.1.guard r.2 = true → ItX K cl J r.1 ρ' H' → R J H'
abbrev RI (cl : Nat → Addr) (X : Cx) (tg e : Expr) (m : Ix) : Prop := PI X tg e (TIX X.K cl m)
theorem PI.imp {tg e : Expr} {t t' : TI} (h : PI X tg e t) (hi : ∀ σ H R, t' σ H R → t σ H R) : PI X tg e t' := ⟨fun pins s σ H R I q => h.run pins s σ H R I (hi _ _ _ q)⟩
/-- a list by itself; a tuple -/
def sqOf (p : PV) (m : Mem) : Option Sq := match p with
  | .ref r => match m[r]? with
    | some (.lst ps) => some ⟨ps, [(r, .lst ps)]⟩
    | some (.rol ps) => some ⟨ps, [(r, .rol ps)]⟩
    | _ => none
  | _ => none
def tqOf (p : PV) : Option Sq := match p with
  | .tup ps => some ⟨ps, []⟩
  | _ => none
def iSq (a : Ex) : Ix := fun env m => (a env m).bind fun r => (sqOf r.1 r.2).map (·, r.2)
def iTp (a : Ex) : Ix := fun env m => (a env m).bind fun r => (tqOf r.1).map (·, r.2)
theorem sqOf_ok {ρ : List Addr} {H : Hp} {m : Mem} {p : PV} {v : V} {s : Sq} (hm : RelM X.K cl ρ H m) (hp : Rep X.K ρ H p v) (h : sqOf p m = some s) : ∃ a, v = .ref a ∧ okG s.guard m = true ∧ (∃ xs, SqL X.K H a xs) ∧
    ∀ (ρ' : List Addr) (H' : Hp) (m' : Mem), Ext X.K ρ H ρ' H' → RelM X.K cl ρ' H' m' → okG s.guard m' = true → ∃ xs, SqL X.K H' a xs ∧ RepL X.K ρ' H' s.items xs := by
  unfold sqOf at h
  split at h
  · rename_i i
    rw [rep_ref] at hp
    obtain ⟨a, ha, rfl⟩ := hp
    split at h
    · rename_i ps e
      cases h
      obtain ⟨xs, s1, s2⟩ := sq_of hm ha (.inl e)
      exact ⟨a, rfl, okG_cons.mpr ⟨e, rfl⟩, ⟨xs, s1⟩, fun ρ' H' m' x1 m1 k => sq_of m1 (x1.at ha) (.inl (okG_cons.mp k).1)⟩
    · rename_i ps e
      cases h
      obtain ⟨xs, s1, s2⟩ := sq_of hm ha (.inr e)
      exact ⟨a, rfl, okG_cons.mpr ⟨e, rfl⟩, ⟨xs, s1⟩, fun ρ' H' m' x1 m1 k => sq_of m1 (x1.at ha) (.inr (okG_cons.mp k).1)⟩
    · cases h
  · cases h
theorem ri_list {tg : Expr} (ha : RX cl X a ma) : RI cl X tg a (iSq ma) := PI.imp (pi_list ha) fun σ H R ⟨ρ, env, mem, r, hm, hE, h, q⟩ => by
  unfold iSq at h
  obtain ⟨r1, e1, h⟩ := Option.bind_eq_some_iff.mp h
  obtain ⟨s, e2, h⟩ := Option.map_eq_some_iff.mp h
  subst h
  refine ⟨ρ, env, mem, r1, hm, hE, e1, fun ρ1 v1 H1 x1 m1 p1 => ?_⟩
  obtain ⟨a, rfl, k, z1, z2⟩ := sqOf_ok m1 p1 e2
  refine ⟨a, rfl, z1, q ρ1 H1 _ x1 m1 k ⟨fun ρ' H' m i p x2 m2 k2 hi => ?_, fun ρ' H' m x2 m2 k2 => ?_⟩⟩
  · obtain ⟨xs, y1, y2⟩ := z2 ρ' H' m x2 m2 k2
    obtain ⟨x, y3, y4⟩ := y2.get hi
    refine ⟨⟨xs, x, y1, y3⟩, fun x' H'' ⟨e, y⟩ => ?_⟩
    subst e
    have := (y xs y1).symm.trans y3
    cases this
    exact ⟨.refl, m2, y4⟩
  · obtain ⟨xs, y1, y2⟩ := z2 ρ' H' m x2 m2 k2
    exact ⟨xs, y1, by rw [y2.length]; exact Nat.le_refl _⟩
theorem ri_tup {tg : Expr} (ha : RX cl X a ma) : RI cl X tg a (iTp ma) := PI.imp (pi_tup ha) fun σ H R ⟨ρ, env, mem, r, hm, hE, h, q⟩ => by
  unfold iTp at h
  obtain ⟨r1, e1, h⟩ := Option.bind_eq_some_iff.mp h
  obtain ⟨s, e2, h⟩ := Option.map_eq_some_iff.mp h
  subst h
  refine ⟨ρ, env, mem, r1, hm, hE, e1, fun ρ1 v1 H1 x1 m1 p1 => ?_⟩
  unfold tqOf at e2
  split at e2
  · rename_i ps hps
    cases e2
    rw [hps, rep_tup] at p1
    obtain ⟨a, xs, rfl, i1, i2⟩ := p1
    replace i1 := i1.t
    refine ⟨a, rfl, ⟨xs, i1⟩, q ρ1 H1 _ x1 m1 rfl ⟨fun ρ' H' m i p x2 m2 k2 hi => ?_, fun ρ' H' m x2 m2 k2 => ?_⟩⟩
    · obtain ⟨x, y3, y4⟩ := (x2.repL _ _ i2).get hi
      refine ⟨⟨xs, x, x2.tup _ _ i1, y3⟩, fun x' H'' ⟨e, y⟩ => ?_⟩
      subst e
      have := (y xs (x2.tup _ _ i1)).symm.trans y3
      cases this
      exact ⟨.refl, m2, y4⟩
    · exact ⟨xs, x2.tup _ _ i1, by rw [i2.length]; exact Nat.le_refl _⟩
  · cases e2
/-- range(n), range(lo, hi) -/
def rangeP (lo : Int) (n : Nat) : List PV := (List.range n).map fun (i : Nat) => PV.int (lo + i)
def rngG : List PV → Option Sq
  | [.int j] => if -(2 ^ 62) ≤ j ∧ j < 2 ^ 62 then some ⟨rangeP 0 j.toNat, []⟩ else none
  | [.int i, .int j] => if -(2 ^ 62) ≤ i ∧ i < 2 ^ 62 ∧ -(2 ^ 62) ≤ j ∧ j < 2 ^ 62 then some ⟨rangeP i (j - i).toNat, []⟩ else none
  | _ => none
def iRg (a : Ax) : Ix := fun env m => (a env m).bind fun r => (rngG r.1).map (·, r.2)
theorem itr_ok {ρ : List Addr} {H : Hp} {lo : Int} {n : Nat} : ItX X.K cl (Itr lo n) ⟨rangeP lo n, []⟩ ρ H := by
  refine ⟨fun ρ' H' m i p x2 m2 k2 hi => ?_, fun ρ' H' m x2 m2 k2 => ?_⟩
  · unfold rangeP at hi
    simp only [List.getElem?_map, Option.map_eq_some_iff] at hi
    obtain ⟨j, h1, h2⟩ := hi
    obtain ⟨h3, h4⟩ := List.getElem?_eq_some_iff.mp h1
    have h5 : j = i := by rw [← h4]; simp
    have h6 : i < n := by simpa using h3
    subst h5
    refine ⟨h6, fun x H'' ⟨e1, e2⟩ => ?_⟩
    subst e1 e2 h2
    exact ⟨.refl, m2, by rw [Rep]⟩
  · show n ≤ (rangeP lo n).length
    unfold rangeP
    simp
theorem ri_range1 {tg : Expr} (hg : Gl X "range") (hm : X.mg "range" = none) (ha : RX cl X a ma) (hs : starEach [a] X.env = [(false, eval a X.env)] := by rfl) (hs2 : starEach [a] X.env = (false, eval a X.env) :: starEach [] X.env := by rfl) : RI cl X tg (.Call (.Name "range" p) [a] [] pos) (iRg (aCons ma aNil)) :=
  PI.imp (pi_range1 hg hm (ra_cons ha ra_nil hs2) hs) fun σ H R ⟨ρ, env, mem, r, hm, hE, h, q⟩ => by
    unfold iRg at h
    obtain ⟨r1, e1, h⟩ := Option.bind_eq_some_iff.mp h
    obtain ⟨s, e2, h⟩ := Option.map_eq_some_iff.mp h
    subst h
    refine ⟨ρ, env, mem, r1, hm, hE, e1, fun ρ1 vs H1 x1 m1 p1 => ?_⟩
    unfold aCons aNil at e1
    obtain ⟨r2, e3, e1⟩ := Option.bind_eq_some_iff.mp e1
    simp only [Option.bind_some] at e1
    obtain rfl := Option.some.inj e1
    obtain ⟨x, xs, rfl, i1, i2⟩ := p1.inv
    obtain rfl := i2.inv0
    simp only [rngG] at e2
    split at e2
    · rename_i j hj
      obtain ⟨hj, -⟩ := List.cons.inj hj
      rw [hj, rep_int] at i1
      subst i1
      split at e2
      · rename_i hb
        obtain rfl := Option.some.inj e2
        exact ⟨j, rfl, hb.1, hb.2, q ρ1 H1 _ x1 m1 rfl itr_ok⟩
      · cases e2
    · rename_i hj
      cases (List.cons.inj hj).2
    · cases e2
theorem ri_range2 {tg : Expr} (hg : Gl X "range") (hm : X.mg "range" = none) (ha : RX cl X a ma) (hb : RX cl X b mb) (hs : starEach [a, b] X.env = [(false, eval a X.env), (false, eval b X.env)] := by rfl) (hs2 : starEach [b] X.env = [(false, eval b X.env)] := by rfl)
    (hs3 : starEach [a, b] X.env = (false, eval a X.env) :: starEach [b] X.env := by rfl) (hs4 : starEach [b] X.env = (false, eval b X.env) :: starEach [] X.env := by rfl) : RI cl X tg (.Call (.Name "range" p) [a, b] [] pos) (iRg (aCons ma (aCons mb aNil))) :=
  PI.imp (pi_range2 hg hm (ra_cons ha (ra_cons hb ra_nil hs4) hs3) hs hs2) fun σ H R ⟨ρ, env, mem, r, hm, hE, h, q⟩ => by
    unfold iRg at h
    obtain ⟨r1, e1, h⟩ := Option.bind_eq_some_iff.mp h
    obtain ⟨s, e2, h⟩ := Option.map_eq_some_iff.mp h
    subst h
    refine ⟨ρ, env, mem, r1, hm, hE, e1, fun ρ1 vs H1 x1 m1 p1 => ?_⟩
    unfold aCons aNil at e1
    obtain ⟨r2, e3, e1⟩ := Option.bind_eq_some_iff.mp e1
    obtain ⟨r3, e4, e1⟩ := Option.bind_eq_some_iff.mp e1
    obtain ⟨r4, e5, e4⟩ := Option.bind_eq_some_iff.mp e4
    simp only [Option.bind_some] at e4
    obtain rfl := Option.some.inj e4
    obtain rfl := Option.some.inj e1
    obtain ⟨x, xs, rfl, i1, i2⟩ := p1.inv
    obtain ⟨y, ys, rfl, i3, i4⟩ := i2.inv
    obtain rfl := i4.inv0
    simp only [rngG] at e2
    split at e2
    · rename_i hj
      cases (List.cons.inj hj).2
    · rename_i i j hj
      obtain ⟨hj1, hj⟩ := List.cons.inj hj
      obtain ⟨hj2, -⟩ := List.cons.inj hj
      rw [hj1, rep_int] at i1
      rw [hj2, rep_int] at i3
      subst i1 i3
      split at e2
      · rename_i hb
        obtain rfl := Option.some.inj e2
        exact ⟨i, j, rfl, hb, q ρ1 H1 _ x1 m1 rfl itr_ok⟩
      · cases e2
    · cases e2
/-- a text, sign by sign -/
def signsP (z : Str) : List PV := z.cps.toList.map fun c => PV.str ⟨#[c]⟩
def iSt (a : Ex) : Ix := fun env m => (a env m).bind fun r => match r.1 with
  | .str z => some (⟨signsP z, []⟩, r.2)
  | _ => none
theorem ri_str {tg : Expr} (ha : RX cl X a ma) : RI cl X tg a (iSt ma) := PI.imp (pi_str ha) fun σ H R ⟨ρ, env, mem, r, hm, hE, h, q⟩ => by
  unfold iSt at h
  obtain ⟨r1, e1, h⟩ := Option.bind_eq_some_iff.mp h
  refine ⟨ρ, env, mem, r1, hm, hE, e1, fun ρ1 v1 H1 x1 m1 p1 => ?_⟩
  split at h
  · rename_i z hz
    obtain rfl := Option.some.inj h
    rw [hz, rep_str] at p1
    refine ⟨z, p1, q ρ1 H1 _ x1 m1 rfl ⟨fun ρ' H' m i p x2 m2 k2 hi => ?_, fun ρ' H' m x2 m2 k2 => ?_⟩⟩
    · unfold signsP at hi
      simp only [List.getElem?_map, Option.map_eq_some_iff] at hi
      obtain ⟨c, h1, h2⟩ := hi
      have h1' : z.cps[i]? = some c := by rw [← Array.getElem?_toList]; exact h1
      refine ⟨(Array.getElem?_eq_some_iff.mp h1').1, fun x H'' ⟨e, c', y1, y2⟩ => ?_⟩
      subst e
      rw [h1'] at y1
      cases y1
      subst y2 h2
      exact ⟨.refl, m2, by rw [Rep]⟩
    · show z.cps.size ≤ (signsP z).length
      unfold signsP
      simp
  · cases h
/-- zip(xs, ys) of two lists; enumerate(xs) -/
def zipG : List PV → Mem → Option Sq
  | [p, q], m => (sqOf p m).bind fun s => (sqOf q m).map fun t => ⟨(s.items.zip t.items).map fun z => .tup [z.1, z.2], s.guard ++ t.guard⟩
  | _, _ => none
def iZp (a : Ax) : Ix := fun env m => (a env m).bind fun r => (zipG r.1 r.2).map (·, r.2)
theorem okG_append {g h : List (Nat × Ob)} {m : Mem} : okG (g ++ h) m = true ↔ okG g m = true ∧ okG h m = true := by
  unfold okG
  rw [List.all_append, Bool.and_eq_true]
def enP : Nat → List PV → List PV
  | _, [] => []
  | i, p :: ps => .tup [.int i, p] :: enP (i + 1) ps
def enG : List PV → Mem → Option Sq
  | [p], m => (sqOf p m).map fun s => ⟨enP 0 s.items, s.guard⟩
  | _, _ => none
def iEn (a : Ax) : Ix := fun env m => (a env m).bind fun r => (enG r.1 r.2).map (·, r.2)
theorem enP_get : ∀ (ps : List PV) (k i : Nat) (p : PV), (enP k ps)[i]? = some p → ∃ q, ps[i]? = some q ∧ p = .tup [.int ((k + i : Nat) : Int), q]
  | [], _, _, _, h => by simp [enP] at h
  | a :: ps, k, 0, p, h => by
    simp only [enP, List.getElem?_cons_zero, Option.some.injEq] at h
    exact ⟨a, rfl, h.symm⟩
  | a :: ps, k, i + 1, p, h => by
    simp only [enP, List.getElem?_cons_succ] at h
    obtain ⟨q, h1, h2⟩ := enP_get ps (k + 1) i p h
    refine ⟨q, by simpa using h1, ?_⟩
    rw [h2]
    congr 4
    omega
theorem enP_len : ∀ (ps : List PV) (k : Nat), (enP k ps).length = ps.length
  | [], _ => rfl
  | a :: ps, k => by simp [enP, enP_len ps]
/-! ### for -/
def forL (g : Gx) (body : Sx) (gd : List (Nat × Ob)) : List PV → Env → Mem → Option (Fl × Env × Mem)
  | [], env, m => some (.nx, env, m)
  | p :: ps, env, m => (g p env m).bind fun r => (body r.1 r.2).bind fun s => match s.1 with
    | .nx => if okG gd s.2.2 = true then forL g body gd ps s.2.1 s.2.2 else none
    | .ct => if okG gd s.2.2 = true then forL g body gd ps s.2.1 s.2.2 else none
    | .bk => some (.nx, s.2)
    | .rt _ => some s
def sFor (it : Ix) (g : Gx) (body : Sx) : Sx := fun env m => (it env m).bind fun r => if okG r.1.guard r.2 = true then forL g body r.1.guard r.1.items env r.2 else none
theorem rs_for {tg iter : Expr} {mi : Ix} {g : Gx} (hp : PassesOwn (model X.prog X.w) X.A X.env X.xe) (hc : X.calm = true) (hi : RI cl X tg iter mi) (hg : RG cl X tg g) (hb : RSs cl X sts sb)
    (hs : ∀ x, foldedSetIterable iter X.env x = pure x := by intro _; rfl) : RS cl X (.For tg iter sts [] pos) (sFor mi g sb) := PS.imp (ps_for hp hc hi hg hb hs) fun D σ H ⟨ρ, env, mem, r, hm, hE, h, q⟩ => by
  unfold sFor at h
  obtain ⟨r1, e1, h⟩ := Option.bind_eq_some_iff.mp h
  split at h
  · refine ⟨ρ, env, mem, r1, hm, hE, e1, fun ρ1 H1 J x1 m1 k1 IJ => ?_⟩
    have q1 := q.ext x1
    refine ⟨fun i n σ' H' => n = r1.1.items.length - i ∧ i ≤ r1.1.items.length ∧ ∃ ρ' env' m', Ext X.K ρ1 H1 ρ' H' ∧ RelM X.K cl ρ' H' m' ∧ RelE X.K ρ' H' σ' env' ∧ okG r1.1.guard m' = true ∧ forL g sb r1.1.guard (r1.1.items.drop i) env' m' = some r,
      ⟨_, rfl, Nat.zero_le _, ρ1, env, r1.2, .refl, m1, hE.ext x1, k1, h⟩, ?_⟩
    rintro i n σ' H' ⟨rfl, hi, ρ', env', m', x2, m2, E2, k2, hf⟩
    by_cases hlt : i < r1.1.items.length
    · have hd : r1.1.items.drop i = r1.1.items[i] :: r1.1.items.drop (i + 1) := List.drop_eq_getElem_cons hlt
      rw [hd] at hf
      unfold forL at hf
      obtain ⟨r2, e2, hf⟩ := Option.bind_eq_some_iff.mp hf
      obtain ⟨r3, e3, hf⟩ := Option.bind_eq_some_iff.mp hf
      obtain ⟨g1, g2⟩ := IJ.go ρ' H' m' i r1.1.items[i] x2 m2 k2 (List.getElem?_eq_getElem hlt)
      refine .inr ⟨g1, fun σ'' H'' => i + 1 ≤ r1.1.items.length ∧ ∃ ρ' env' m', Ext X.K ρ1 H1 ρ' H'' ∧ RelM X.K cl ρ' H'' m' ∧ RelE X.K ρ' H'' σ'' env' ∧ okG r1.1.guard m' = true ∧ forL g sb r1.1.guard (r1.1.items.drop (i + 1)) env' m' = some r,
        fun σ'' H'' hN => ⟨_, by omega, rfl, hN⟩, fun x H'' hy => ?_⟩
      obtain ⟨y1, y2, y3⟩ := g2 x H'' hy
      refine ⟨ρ', _, env', m', r2, y2, E2.ext y1, y3, e2, fun ρ3 σ3 H3 x3 m3 E3 => ⟨ρ3, r2.1, r2.2, r3, m3, E3, e3, fun ρ4 σ4 H4 x4 m4 E4 => ?_⟩⟩
      have xx := x2.trans (y1.trans (x3.trans x4))
      obtain ⟨f, env4, mem4⟩ := r3
      cases f with
      | nx =>
        simp only at hf
        split at hf
        · rename_i k4
          exact ⟨hlt, ρ4, env4, mem4, xx, m4, E4, k4, hf⟩
        · cases hf
      | ct =>
        simp only at hf
        split at hf
        · rename_i k4
          exact ⟨hlt, ρ4, env4, mem4, xx, m4, E4, k4, hf⟩
        · cases hf
      | bk =>
        obtain rfl := Option.some.inj hf
        exact q1 ρ4 σ4 H4 xx m4 E4
      | rt v =>
        obtain rfl := Option.some.inj hf
        exact q1 ρ4 σ4 H4 xx m4 E4
    · have e : i = r1.1.items.length := by omega
      subst e
      rw [List.drop_length] at hf
      obtain rfl := Option.some.inj hf
      exact .inl ⟨IJ.stop ρ' H' m' x2 m2 k2, q1 ρ' σ' H' x2 m2 E2⟩
  · cases h
/-! ### while -/
def whl (t : Tx) (body : Sx) : Nat → Env → Mem → Option (Fl × Env × Mem)
  | 0, _, _ => none
  | n + 1, env, m => (t env m).bind fun r => if r.1 = true then (body env r.2).bind fun s => match s.1 with
    | .nx => whl t body n s.2.1 s.2.2
    | .ct => whl t body n s.2.1 s.2.2
    | .bk => some (.nx, s.2)
    | .rt _ => some s
    else some (.nx, env, r.2)
def sWh (n : Nat) (t : Tx) (body : Sx) : Sx := fun env m => whl t body n env m
theorem rs_while {n : Nat} {tc : Tx} (hp : PassesOwn (model X.prog X.w) X.A X.env X.xe) (hc : RT cl X c tc) (hb : RSs cl X sts sb) : RS cl X (.While c sts [] pos) (sWh n tc sb) := PS.imp (ps_while hp hc hb) fun D σ H ⟨ρ, env, mem, r, hm, hE, h, q⟩ => by
  refine ⟨fun n σ' H' => ∃ ρ' env' m', Ext X.K ρ H ρ' H' ∧ RelM X.K cl ρ' H' m' ∧ RelE X.K ρ' H' σ' env' ∧ whl tc sb n env' m' = some r, ⟨n, ρ, env, mem, .refl, hm, hE, h⟩, ?_⟩
  rintro n σ' H' ⟨ρ', env', m', x2, m2, E2, hf⟩
  cases n with
  | zero => cases hf
  | succ n =>
    unfold whl at hf
    obtain ⟨r1, e1, hf⟩ := Option.bind_eq_some_iff.mp hf
    refine ⟨ρ', env', m', r1, m2, E2, e1, fun ρ1 H1 x1 m1 => ?_⟩
    split at hf
    · rename_i z
      rw [if_pos z]
      obtain ⟨r3, e3, hf⟩ := Option.bind_eq_some_iff.mp hf
      refine ⟨fun σ'' H'' => ∃ ρ' env' m', Ext X.K ρ H ρ' H'' ∧ RelM X.K cl ρ' H'' m' ∧ RelE X.K ρ' H'' σ'' env' ∧ whl tc sb n env' m' = some r, fun σ'' H'' hN => ⟨n, by omega, hN⟩, ρ1, env', r1.2, r3, m1, E2.ext x1, e3, fun ρ4 σ4 H4 x4 m4 E4 => ?_⟩
      have xx := x2.trans (x1.trans x4)
      obtain ⟨f, env4, mem4⟩ := r3
      cases f with
      | nx => exact ⟨ρ4, env4, mem4, xx, m4, E4, hf⟩
      | ct => exact ⟨ρ4, env4, mem4, xx, m4, E4, hf⟩
      | bk =>
        obtain rfl := Option.some.inj hf
        exact (q.ext xx) ρ4 σ4 H4 .refl m4 E4
      | rt v =>
        obtain rfl := Option.some.inj hf
        exact (q.ext xx) ρ4 σ4 H4 .refl m4 E4
    · rename_i z
      rw [if_neg z]
      obtain rfl := Option.some.inj hf
      exact (q.ext x2) ρ1 σ' H1 x1 m1 (E2.ext x1)
end
end Rf
end

section
set_option Elab.async false
set_option linter.all false
set_option maxRecDepth 100000
set_option autoImplicit false
namespace Rf
open PySem PySem.Spec L2
section
variable {X : Cx} {cl : Nat → Addr}
variable {a b c e o : Expr} {es : List Expr} {pos p apos pos' cpos : Pos} {ma mb mc me mo mi : Ex} {x f : Str} {mA : Ax}
variable {st : Stmt} {sts : List Stmt} {sa sb : Sx}

/-! ### a list unpacked -/
def gUl (n : Nat) (g : Gxs) : Gx := fun p env m => match p with
  | .ref r => match m[r]? with
    | some (.lst ps) => if ps.length = n then g ps env m else none
    | _ => none
  | _ => none
theorem rg_unl {k n : Nat} {gs : Gxs} (hc : X.calm = true) (h : RGs cl X es gs) (hn : (assignEach es X.env).length = n := by rfl) (hst : (assignEach es X.env).findIdx? (·.1) = none := by rfl) : RG cl X (.Tuple es k pos) (gUl n gs) :=
  PG.imp (pg_unl hc h hn hst) fun v σ H Q ⟨ρ, p, env, mem, r, hm, hE, hp, h, q⟩ => by
    unfold gUl at h
    split at h
    · rename_i i
      rw [rep_ref] at hp
      obtain ⟨a, ha, rfl⟩ := hp
      split at h
      · rename_i ps e
        split at h
        · rename_i hl
          obtain ⟨xs, s1, s2⟩ := sq_of hm ha (.inl e)
          exact ⟨a, xs, rfl, s1, by rw [s2.length, hl], ρ, _, env, mem, r, hm, hE, s2, h, q⟩
        · cases h
      · cases h
    · cases h

/-! ### comprehensions: one name, one clause -/
def wipeE (env : Env) : List Nat → Env
  | [] => env
  | v :: vs => (wipeE env vs).set v none
theorem RelE.wipe {K ρ H σ env} (h : RelE K ρ H σ env) : ∀ vs : List Nat, RelE K ρ H (wipe σ vs) (wipeE env vs)
  | [] => h
  | v :: vs => (h.wipe vs).wipe1 v
theorem wipe_at (σ : L2.St) : ∀ (vs : List Nat) (i : Nat), i ∈ vs → i < σ.length → (wipe σ vs)[i]? = some none
  | [], i, h, _ => by cases h
  | v :: vs, i, h, hl => by
    unfold wipe
    by_cases e : i = v
    · subst e
      rw [List.getElem?_set_self (by rw [wipe_length]; exact hl)]
    · rw [List.getElem?_set_ne (Ne.symm e)]
      exact wipe_at σ vs i ((List.mem_cons.mp h).resolve_left e) hl
theorem wipe_idem (σ : L2.St) : ∀ vs ws : List Nat, (∀ v ∈ vs, v ∈ ws) → wipe (wipe σ ws) vs = wipe σ ws
  | [], _, _ => rfl
  | v :: vs, ws, h => by
    show (wipe (wipe σ ws) vs).set v none = wipe σ ws
    rw [wipe_idem σ vs ws fun u hu => h u (List.mem_cons_of_mem _ hu)]
    apply List.ext_getElem?
    intro i
    by_cases e : i = v
    · subst e
      by_cases hl : i < σ.length
      · rw [List.getElem?_set_self (by rw [wipe_length]; exact hl), wipe_at σ ws i (h i List.mem_cons_self) hl]
      · rw [List.getElem?_eq_none (by rw [List.length_set, wipe_length]; omega), List.getElem?_eq_none (by rw [wipe_length]; omega)]
    · rw [List.getElem?_set_ne (Ne.symm e)]
theorem set_wipe (σ : L2.St) (y : Option V) : ∀ (vs : List Nat) (i : Nat), i ∈ vs → wipe (σ.set i y) vs = wipe σ vs
  | [], i, h => by cases h
  | v :: vs, i, h => by
    unfold wipe
    by_cases hi : i ∈ vs
    · rw [set_wipe σ y vs i hi]
    · have e : i = v := (List.mem_cons.mp h).resolve_right hi
      subst e
      have : wipe (σ.set i y) vs = (wipe σ vs).set i y := by
        clear h
        induction vs with
        | nil => rfl
        | cons w ws ih =>
          have hne : i ≠ w := fun z => hi (z ▸ List.mem_cons_self)
          have := ih fun z => hi (List.mem_cons_of_mem _ z)
          show (wipe (σ.set i y) ws).set w none = ((wipe σ ws).set w none).set i y
          rw [this, List.set_comm _ _ hne]
      rw [this, List.set_set]
def lcL (i : Nat) (tt : Tx) (te : Ex) (gd : List (Nat × Ob)) (D : Nat) (env : Env) : List PV → Mem → List PV → Option (List PV × Mem)
  | [], m, acc => some (acc, m)
  | p :: ps, m, acc => (tt (env.set i (some p)) m).bind fun r => if r.1 = true then (te (env.set i (some p)) r.2).bind fun s =>
      if okG gd s.2 = true ∧ s.2[D]? = some (.lst acc) ∧ acc.length < sizeLine then lcL i tt te gd D env ps (s.2.set D (.lst (acc ++ [s.1]))) (acc ++ [s.1]) else none
    else if okG gd r.2 = true ∧ r.2[D]? = some (.lst acc) then lcL i tt te gd D env ps r.2 acc else none
def xLc (vs : List Nat) (it : Ix) (i : Nat) (tt : Tx) (te : Ex) : Ex := fun env m => (it env m).bind fun r => if okG r.1.guard r.2 = true ∧ (∀ g ∈ r.1.guard, g.1 < r.2.length) then
    (lcL i tt te r.1.guard r.2.length (wipeE env vs) r.1.items (r.2 ++ [.lst []]) []).bind fun s => some (.ref r.2.length, s.2) else none
def tYs : Tx := fun _ m => some (true, m)
theorem okG_app {gd : List (Nat × Ob)} {m : Mem} {o : Ob} (h : okG gd m = true) : okG gd (m ++ [o]) = true := by
  unfold okG at h ⊢
  rw [List.all_eq_true] at h ⊢
  intro q hq
  have := of_decide_eq_true (h q hq)
  refine decide_eq_true ?_
  rw [List.getElem?_append_left (List.getElem?_eq_some_iff.mp this).1]
  exact this
theorem okG_set {gd : List (Nat × Ob)} {m : Mem} {o : Ob} {D : Nat} (h : okG gd m = true) (hD : ∀ g ∈ gd, g.1 < D) : okG gd (m.set D o) = true := by
  unfold okG at h ⊢
  rw [List.all_eq_true] at h ⊢
  intro q hq
  have := of_decide_eq_true (h q hq)
  refine decide_eq_true ?_
  rw [List.getElem?_set_ne (Nat.ne_of_gt (hD q hq))]
  exact this
/-- the reading of a comprehension -/
theorem tLc_of {vs : List Nat} {i : Nat} {mi : Ix} {tt : Tx} {te : Ex} {σ H Q} (hi : i ∈ vs) (h : TX X.K cl (xLc vs mi i tt te) σ H Q) : tLc (TIX X.K cl mi) (gName i) (TTX X.K cl tt) (TX X.K cl te) vs σ H Q := by
  obtain ⟨ρ, env, mem, r, hm, hE, h, q⟩ := h
  unfold xLc at h
  obtain ⟨r1, e1, h⟩ := Option.bind_eq_some_iff.mp h
  split at h
  · rename_i hk
    obtain ⟨hk, hlow⟩ := hk
    obtain ⟨r2, e2, h⟩ := Option.bind_eq_some_iff.mp h
    obtain rfl := Option.some.inj h
    refine ⟨ρ, env, mem, r1, hm, hE, e1, fun ρ1 H1 J x1 m1 k1 IJ D hD => ?_⟩
    obtain ⟨z1, z2, z3⟩ := new_lst m1 RepL.nil hD
    have q1 := q.ext (x1.trans z1)
    have ED : (ρ1 ++ [D])[r1.2.length]? = some D := by rw [← m1.len]; simp
    refine ⟨fun j n H' => n = r1.1.items.length - j ∧ j ≤ r1.1.items.length ∧ ∃ ρ' m' acc, Ext X.K (ρ1 ++ [D]) (upd H1 D (.lst [])) ρ' H' ∧ RelM X.K cl ρ' H' m' ∧ okG r1.1.guard m' = true ∧ m'[r1.2.length]? = some (.lst acc) ∧ lcL i tt te r1.1.guard r1.2.length (wipeE env vs) (r1.1.items.drop j) m' acc = some r2,
      ⟨_, rfl, Nat.zero_le _, ρ1 ++ [D], r1.2 ++ [.lst []], [], .refl, z2, okG_app hk, by simp, by rw [List.drop_zero]; exact e2⟩, ?_⟩
    rintro j n H' ⟨rfl, hj, ρ', m', acc, x2, m2, k2, hacc, hf⟩
    by_cases hlt : j < r1.1.items.length
    · have hd : r1.1.items.drop j = r1.1.items[j] :: r1.1.items.drop (j + 1) := List.drop_eq_getElem_cons hlt
      rw [hd] at hf
      unfold lcL at hf
      obtain ⟨r3, e3, hf⟩ := Option.bind_eq_some_iff.mp hf
      obtain ⟨g1, g2⟩ := (IJ.ext z1).go ρ' H' m' j r1.1.items[j] x2 m2 k2 (List.getElem?_eq_getElem hlt)
      refine .inr ⟨g1, fun H'' => j + 1 ≤ r1.1.items.length ∧ ∃ ρ' m' acc, Ext X.K (ρ1 ++ [D]) (upd H1 D (.lst [])) ρ' H'' ∧ RelM X.K cl ρ' H'' m' ∧ okG r1.1.guard m' = true ∧ m'[r1.2.length]? = some (.lst acc) ∧ lcL i tt te r1.1.guard r1.2.length (wipeE env vs) (r1.1.items.drop (j + 1)) m' acc = some r2,
        fun H'' hN => ⟨_, by omega, rfl, hN⟩, fun y H'' hy => ?_⟩
      obtain ⟨y1, y2, y3⟩ := g2 y H'' hy
      have xy := (x1.trans z1).trans (x2.trans y1)
      refine ⟨by rw [set_wipe _ _ _ _ hi, wipe_idem σ vs vs fun _ h => h], ρ', (wipeE env vs).set i (some r1.1.items[j]), m', r3, y2, ((hE.wipe vs).ext xy).set i y3, e3, fun ρ3 H3 x3 m3 => ?_⟩
      split at hf
      · rename_i hb
        rw [if_pos hb]
        obtain ⟨r4, e4, hf⟩ := Option.bind_eq_some_iff.mp hf
        refine ⟨ρ3, _, r3.2, r4, m3, (((hE.wipe vs).ext xy).set i y3).ext x3, e4, fun ρ4 v4 H4 x4 m4 p4 => ?_⟩
        split at hf
        · rename_i hg
          obtain ⟨k4, a4, l4⟩ := hg
          have xx := (x2.trans y1).trans (x3.trans x4)
          have ha := xx.at ED
          obtain ⟨as, s1, s2⟩ := m4.ok _ _ _ ha a4
          have x5 : Ext X.K ρ4 H4 ρ4 (upd H4 D (.lst (as ++ [v4]))) := ext_set m4 ha a4 rfl
          refine ⟨as, s1, by rw [s2.length]; exact l4, hlt, ρ4, _, _, xx.trans x5, m4.set (o' := .lst (acc ++ [r4.1])) ha a4 rfl rfl ⟨_, upd_same, (x5.repL _ _ s2).append (.one (x5.rep _ _ p4))⟩, okG_set k4 hlow, ?_, hf⟩
          rw [List.getElem?_set_self (List.getElem?_eq_some_iff.mp a4).1]
        · cases hf
      · rename_i hb
        rw [if_neg hb]
        split at hf
        · rename_i hg
          exact ⟨hlt, ρ3, r3.2, acc, (x2.trans y1).trans x3, m3, hg.1, hg.2, hf⟩
        · cases hf
    · have e : j = r1.1.items.length := by omega
      subst e
      rw [List.drop_length] at hf
      obtain rfl := Option.some.inj hf
      refine .inl ⟨(IJ.ext z1).stop ρ' H' m' x2 m2 k2, q1 ρ' _ H' x2 m2 ?_⟩
      rw [rep_ref]
      exact ⟨D, x2.at ED, rfl⟩
  · cases h
abbrev RTs (cl : Nat → Addr) (X : Cx) (e : List Expr) (m : Tx) : Prop := PTs X e (TTX X.K cl m)
theorem PTs.imp {X : Cx} {e : List Expr} {t t' : TT} (h : PTs X e t) (hi : ∀ σ H Q, t' σ H Q → t σ H Q) : PTs X e t' := ⟨fun pins s σ H Q I q => h.run pins s σ H Q I (hi _ _ _ q)⟩
theorem rts_nil {X : Cx} : RTs cl X [] tYs := PTs.imp pts_nil fun σ H Q ⟨ρ, env, mem, r, hm, hE, h, q⟩ => by
  obtain rfl := Option.some.inj h
  exact q ρ H .refl hm
theorem rts_one {X : Cx} {tc : Tx} (h : RT cl X c tc) : RTs cl X [c] tc := pts_one h
theorem rx_lc {elt iter : Expr} {ifs : List Expr} {scope : Scope} {own : List (Str × Nat)} {i : Nat} {tg : Expr} {mi : Ix} {tt : Tx} {te : Ex} (hc : X.calm = true) (hN : X.N.Nodup) (hi : RI cl X tg iter mi) (ok : BlkOk X.N X.env.scope scope own) (hin : i ∈ own.map (·.2))
    (hg : ∀ (s : Shared) (H : Hp) (C : Addr) (cl : List (Str × Addr)) (fp : List Addr), PG (X.blk s H scope (compEnvC scope cl C X.env) fp) tg (gName i)) (ht : ∀ (s : Shared) (H : Hp) (C : Addr) (cl' : List (Str × Addr)) (fp : List Addr), RTs cl (X.blk s H scope (compEnvC scope cl' C X.env) fp) ifs tt)
    (he : ∀ (s : Shared) (H : Hp) (C : Addr) (cl' : List (Str × Addr)) (fp : List Addr), RX cl (X.blk s H scope (compEnvC scope cl' C X.env) fp) elt te) (hs : ∀ x, foldedSetIterable iter X.env x = pure x := by intro _; rfl) :
    RX cl X (.ListComp elt [⟨tg, iter, ifs, 0⟩] scope pos) (xLc (own.map (·.2)) mi i tt te) := PE.imp (pe_lc hc hN hi ok hg ht he hs) fun _ _ _ h => tLc_of hin h
theorem rs_setLc {j : Nat} {y : Str} {py spos : Pos} {elt iter : Expr} {ifs : List Expr} {scope : Scope} {own : List (Str × Nat)} {i : Nat} {tg : Expr} {mi : Ix} {tt : Tx} {te : Ex} (hc : X.calm = true) (hN : X.N.Nodup) (hy : X.N[j]? = some y) (hyl : X.env.scope.names.lookup y = some .local)
    (hsw : swapsWith (.ListComp elt [⟨tg, iter, ifs, 0⟩] scope pos) (some (.Name y py)) spos.line X.env = pure true) (hi : RI cl X tg iter mi) (ok : BlkOk X.N X.env.scope scope own) (hin : i ∈ own.map (·.2))
    (hg : ∀ (s : Shared) (H : Hp) (C : Addr) (cl : List (Str × Addr)) (fp : List Addr), PG (X.blk s H scope (compEnvC scope cl C X.env) fp) tg (gName i)) (ht : ∀ (s : Shared) (H : Hp) (C : Addr) (cl' : List (Str × Addr)) (fp : List Addr), RTs cl (X.blk s H scope (compEnvC scope cl' C X.env) fp) ifs tt)
    (he : ∀ (s : Shared) (H : Hp) (C : Addr) (cl' : List (Str × Addr)) (fp : List Addr), RX cl (X.blk s H scope (compEnvC scope cl' C X.env) fp) elt te) (hs : ∀ x, foldedSetIterable iter X.env x = pure x := by intro _; rfl) :
    RS cl X (.Assign [.Name y py] (.ListComp elt [⟨tg, iter, ifs, 0⟩] scope pos) spos) (sAs (xLc (own.map (·.2)) mi i tt te) (gNm j)) := PS.imp (ps_setLc hc hN hy hyl hsw hi ok hg ht he hs) fun D σ H h => by
  obtain ⟨ρ, env, mem, r, hm, hE, h, q⟩ := tAs_of h
  refine tLc_of hin ⟨ρ, env, mem, r, hm, hE, h, fun ρ1 v1 H1 x1 m1 p1 => ?_⟩
  obtain ⟨ρ2, p, env2, mem2, r2, n1, n2, n3, n4, n5⟩ := q ρ1 v1 H1 x1 m1 p1
  obtain rfl := Option.some.inj n4
  exact n5 ρ2 _ H1 .refl n1 (n2.set j n3)
end
end Rf
end

section
set_option Elab.async false
set_option linter.all false
set_option maxRecDepth 100000
set_option autoImplicit false
namespace Rf
open PySem PySem.Spec L2
section
variable {X : Cx} {cl : Nat → Addr}

/-! ### operators by values -/
def addG : PV → PV → Mem → Option (PV × Mem)
  | .int i, .int j, m => some (.int (i + j), m)
  | .str s, .str t, m => if s.length + t.length ≤ sizeLine then some (.str (s ++ t), m) else none
  | .tup s, .tup t, m => if s.length + t.length ≤ sizeLine then some (.tup (s ++ t), m) else none
  | .ref i, .ref j, m => match m[i]?, m[j]? with
    | some (.lst s), some (.lst t) => if s.length + t.length ≤ sizeLine then some (.ref m.length, m ++ [.lst (s ++ t)]) else none
    | _, _ => none
  | _, _, _ => none
def rCatP (K : PySem.W.Frag) : R2 := fun x y H Q => ∃ a b xs ys, x = .ref a ∧ y = .ref b ∧ SqT K H a xs ∧ SqT K H b ys ∧ xs.length + ys.length ≤ sizeLine ∧
  (xs = [] → Q (.ref b) H) ∧ (xs ≠ [] → ys = [] → Q (.ref a) H) ∧ (xs ≠ [] → ys ≠ [] → ∀ (p : Addr) (ob : Obj), ob.dict = none → H p = none → Q (.ref p) (upd H p (.frz ob (.tup (xs ++ ys)))))
theorem op_catP : OpR X (binaryOp .Add) (rCatP X.K) := by
  intro pins s σ H x y v u Q I rx ry h
  obtain ⟨a, b, xs, ys, rfl, rfl, ha, hb, hz, q0, q1, q2⟩ := h
  by_cases hx : xs = []
  · exact op_catA pins s σ H _ _ v u Q I rx ry ⟨a, b, xs, ys, rfl, rfl, ha, hb, hz, q0, q1, fun n => absurd hx n⟩
  · cases rx
    cases ry
    obtain ⟨its, r1, p1, _⟩ := I.tuple ha
    obtain ⟨its2, r2, p2, _⟩ := I.tuple hb
    refine HT.cat_tup p1 p2 (fun z => hx (r1.nil_iff.mp z)) (fun z => ⟨.ref a, H, I, rfl, q1 hx (r2.nil_iff.mp z)⟩) (fun z => ?_) (by rw [← r1.length, ← r2.length]; exact hz)
    exact laid_tup I (by rw [List.length_append]; exact hz) (r1.append r2) (q2 hx (fun w => z (r2.nil_iff.mpr w)))
theorem ox_add : OpR X (binaryOp .Add) (G2 X.K cl addG) := by
  intro pins s σ H x y v u Q I rx ry ⟨ρ, p, q, mem, r, hm, hp, hq, h, k⟩
  cases p with
  | int i =>
    cases q with
    | int j =>
      obtain rfl := Option.some.inj h
      rw [rep_int] at hp hq
      exact op_add pins s σ H x y v u Q I rx ry ⟨i, j, hp, hq, k ρ _ H .refl hm (by rw [Rep])⟩
    | _ => cases h
  | str i =>
    cases q with
    | str j =>
      rw [rep_str] at hp hq
      simp only [addG] at h
      split at h
      · rename_i hz
        obtain rfl := Option.some.inj h
        exact op_add_str pins s σ H x y v u Q I rx ry ⟨i, j, hp, hq, hz, k ρ _ H .refl hm (by rw [Rep])⟩
      · cases h
    | _ => cases h
  | tup i =>
    cases q with
    | tup j =>
      rw [rep_tup] at hp hq
      obtain ⟨a, xs, rfl, h1, h2⟩ := hp
      obtain ⟨b, ys, rfl, h3, h4⟩ := hq
      simp only [addG] at h
      split at h
      · rename_i hz
        obtain rfl := Option.some.inj h
        refine op_catP pins s σ H _ _ v u Q I rx ry ⟨a, b, xs, ys, rfl, rfl, h1.t, h3.t, by rw [h2.length, h4.length]; exact hz, fun e => ?_, fun _ e => ?_, fun _ _ p ob hob hp => ?_⟩
        · subst e
          have : i = [] := by have := h2.length; cases i with | nil => rfl | cons _ _ => cases this
          subst this
          exact k ρ _ H .refl hm (by rw [rep_tup]; exact ⟨b, ys, rfl, h3, h4⟩)
        · subst e
          have : j = [] := by have := h4.length; cases j with | nil => rfl | cons _ _ => cases this
          subst this
          rw [List.append_nil] at k
          exact k ρ _ H .refl hm (by rw [rep_tup]; exact ⟨a, xs, rfl, h1, h2⟩)
        · obtain ⟨z1, z2, z3⟩ := new_tup hob hm (h2.append h4) hp
          exact k _ _ _ z1 z2 z3
      · cases h
    | _ => cases h
  | ref i =>
    cases q with
    | ref j =>
      rw [rep_ref] at hp hq
      obtain ⟨a, ha, rfl⟩ := hp
      obtain ⟨b, hb, rfl⟩ := hq
      simp only [addG] at h
      split at h
      · rename_i ss ts e1 e2
        split at h
        · rename_i hz
          obtain rfl := Option.some.inj h
          obtain ⟨xs, z1, z2⟩ := hm.ok i a _ ha e1
          obtain ⟨ys, z3, z4⟩ := hm.ok j b _ hb e2
          refine op_cat pins s σ H _ _ v u Q I rx ry ⟨a, b, xs, ys, rfl, rfl, z1, z3, by rw [z2.length, z4.length]; exact hz, fun p hp => ?_⟩
          obtain ⟨y1, y2, y3⟩ := new_lst hm (z2.append z4) hp
          exact k _ _ _ y1 y2 y3
        · cases h
      · cases h
    | _ => cases h
  | _ => cases h
def subG : PV → PV → Mem → Option (PV × Mem)
  | .int i, .int j, m => some (.int (i - j), m)
  | _, _, _ => none
def mulG : PV → PV → Mem → Option (PV × Mem)
  | .int i, .int j, m => if (-(2 ^ 64) < i ∧ i < 2 ^ 64) ∨ (-(2 ^ 64) < j ∧ j < 2 ^ 64) then some (.int (i * j), m) else none
  | .ref i, .int k, m => match m[i]? with
    | some (.lst s) => if -(2 ^ 63) ≤ k ∧ k < 2 ^ 63 ∧ s.length * k.toNat ≤ sizeLine then some (.ref m.length, m ++ [.lst (List.replicate k.toNat s).flatten]) else none
    | _ => none
  | _, _, _ => none
def divG : PV → PV → Mem → Option (PV × Mem)
  | .int i, .int j, m => if 0 < j ∧ j < 18446744073709551616 then some (.int (i / j), m) else none
  | _, _, _ => none
def modG : PV → PV → Mem → Option (PV × Mem)
  | .int i, .int j, m => if 0 < j then some (.int (i % j), m) else none
  | _, _, _ => none
def powG : PV → PV → Mem → Option (PV × Mem)
  | .int i, .int j, m => if 0 ≤ j ∧ j ≤ 1000 ∧ i.natAbs < 2 ^ 64 then some (.int (i ^ j.toNat), m) else none
  | _, _, _ => none
def andG : PV → PV → Mem → Option (PV × Mem)
  | .int i, .int j, m => some (.int (Builtin.bitAnd i j), m)
  | _, _, _ => none
theorem ox_sub : OpR X (binaryOp .Sub) (G2 X.K cl subG) := by
  intro pins s σ H x y v u Q I rx ry ⟨ρ, p, q, mem, r, hm, hp, hq, h, k⟩
  unfold subG at h
  split at h
  · obtain rfl := Option.some.inj h
    rw [rep_int] at hp hq
    exact op_sub pins s σ H x y v u Q I rx ry ⟨_, _, hp, hq, k ρ _ H .refl hm (by rw [Rep])⟩
  · cases h
theorem RepL.rep {K ρ H ps xs} (h : RepL K ρ H ps xs) : ∀ k : Nat, RepL K ρ H (List.replicate k ps).flatten (List.replicate k xs).flatten
  | 0 => .nil
  | k + 1 => by
    rw [List.replicate_succ, List.replicate_succ, List.flatten_cons, List.flatten_cons]
    exact h.append (RepL.rep h k)
theorem ox_mul : OpR X (binaryOp .Mult) (G2 X.K cl mulG) := by
  intro pins s σ H x y v u Q I rx ry ⟨ρ, p, q, mem, r, hm, hp, hq, h, k⟩
  cases p with
  | int i =>
    cases q with
    | int j =>
      rw [rep_int] at hp hq
      simp only [mulG] at h
      split at h
      · rename_i hz
        obtain rfl := Option.some.inj h
        exact op_mul pins s σ H x y v u Q I rx ry ⟨_, _, hp, hq, hz, k ρ _ H .refl hm (by rw [Rep])⟩
      · cases h
    | _ => cases h
  | ref i =>
    cases q with
    | int j =>
      rw [rep_ref] at hp
      rw [rep_int] at hq
      obtain ⟨a, ha, rfl⟩ := hp
      simp only [mulG] at h
      split at h
      · rename_i ss e1
        split at h
        · rename_i hz
          obtain rfl := Option.some.inj h
          obtain ⟨xs, z1, z2⟩ := hm.ok i a _ ha e1
          refine op_rep pins s σ H _ _ v u Q I rx ry ⟨a, j, xs, rfl, hq, z1, hz.1, hz.2.1, by rw [z2.length]; exact hz.2.2, fun p hp => ?_⟩
          obtain ⟨y1, y2, y3⟩ := new_lst hm (z2.rep j.toNat) hp
          exact k _ _ _ y1 y2 y3
        · cases h
      · cases h
    | _ => cases h
  | _ => cases h
theorem ox_div : OpR X (binaryOp .FloorDiv) (G2 X.K cl divG) := by
  intro pins s σ H x y v u Q I rx ry ⟨ρ, p, q, mem, r, hm, hp, hq, h, k⟩
  unfold divG at h
  split at h
  · rename_i i j
    split at h
    · rename_i hz
      obtain rfl := Option.some.inj h
      rw [rep_int] at hp hq
      exact op_fdivW pins s σ H x y v u Q I rx ry ⟨_, _, hp, hq, wide_div (b := 64) hz.1 (by have := hz.2; omega) (by decide) (by decide), k ρ _ H .refl hm (by rw [Rep])⟩
    · cases h
  · cases h
theorem ox_mod : OpR X (binaryOp .Mod) (G2 X.K cl modG) := by
  intro pins s σ H x y v u Q I rx ry ⟨ρ, p, q, mem, r, hm, hp, hq, h, k⟩
  unfold modG at h
  split at h
  · split at h
    · rename_i hz
      obtain rfl := Option.some.inj h
      rw [rep_int] at hp hq
      exact op_mod pins s σ H x y v u Q I rx ry ⟨_, _, hp, hq, hz, k ρ _ H .refl hm (by rw [Rep])⟩
    · cases h
  · cases h
theorem ox_pow : OpR X (binaryOp .Pow) (G2 X.K cl powG) := by
  intro pins s σ H x y v u Q I rx ry ⟨ρ, p, q, mem, r, hm, hp, hq, h, k⟩
  unfold powG at h
  split at h
  · split at h
    · rename_i hz
      obtain rfl := Option.some.inj h
      rw [rep_int] at hp hq
      exact op_pow pins s σ H x y v u Q I rx ry ⟨_, _, hp, hq, ⟨hz.1, by have := hz.2.1; omega, hz.2.2⟩, k ρ _ H .refl hm (by rw [Rep])⟩
    · cases h
  · cases h
theorem ox_and : OpR X (binaryOp .BitAnd) (G2 X.K cl andG) := by
  intro pins s σ H x y v u Q I rx ry ⟨ρ, p, q, mem, r, hm, hp, hq, h, k⟩
  unfold andG at h
  split at h
  · obtain rfl := Option.some.inj h
    rw [rep_int] at hp hq
    exact op_and pins s σ H x y v u Q I rx ry ⟨_, _, hp, hq, k ρ _ H .refl hm (by rw [Rep])⟩
  · cases h
def negG : PV → Mem → Option (PV × Mem)
  | .int i, m => some (.int (-i), m)
  | _, _ => none
theorem ox_neg : UnR X (unaryOp .USub) (G1 X.K cl negG) := by
  intro pins s σ H x v Q I rx ⟨ρ, p, mem, r, hm, hp, h, k⟩
  unfold negG at h
  split at h
  · obtain rfl := Option.some.inj h
    rw [rep_int] at hp
    exact un_neg pins s σ H x v Q I rx ⟨_, hp, k ρ _ H .refl hm (by rw [Rep])⟩
  · cases h
/-! comparisons -/
def cmpG (f : Int → Int → Bool) : PV → PV → Mem → Option (PV × Mem)
  | .int i, .int j, m => some (.bl (f i j), m)
  | _, _, _ => none
theorem ox_cmp {op : CmpOp} {f : Int → Int → Bool} (ho : OpR X (compareOp op) (rI0 fun i j => .bl (f i j))) : OpR X (compareOp op) (G2 X.K cl (cmpG f)) := by
  intro pins s σ H x y v u Q I rx ry ⟨ρ, p, q, mem, r, hm, hp, hq, h, k⟩
  unfold cmpG at h
  split at h
  · obtain rfl := Option.some.inj h
    rw [rep_int] at hp hq
    exact ho pins s σ H x y v u Q I rx ry ⟨_, _, hp, hq, k ρ _ H .refl hm (by rw [Rep])⟩
  · cases h
abbrev ltG := cmpG fun i j => decide (i < j)
abbrev leG := cmpG fun i j => decide (i ≤ j)
abbrev gtG := cmpG fun i j => decide (j < i)
abbrev geG := cmpG fun i j => decide (j ≤ i)
theorem ox_lt : OpR X (compareOp .Lt) (G2 X.K cl ltG) := ox_cmp op_lt
theorem ox_le : OpR X (compareOp .LtE) (G2 X.K cl leG) := ox_cmp op_le
theorem ox_gt : OpR X (compareOp .Gt) (G2 X.K cl gtG) := ox_cmp op_gt
theorem ox_ge : OpR X (compareOp .GtE) (G2 X.K cl geG) := ox_cmp op_ge
/-! data without numbers of objects -/
mutual
def toD : PV → Option PyData
  | .non => some .none
  | .bl b => some (.bool b)
  | .int i => some (.int i)
  | .str s => some (.str s)
  | .tup ps => (toDs ps).map PyData.tuple
  | .ref _ => none
def toDs : List PV → Option (List PyData)
  | [] => some []
  | p :: ps => (toD p).bind fun d => (toDs ps).map fun ds => d :: ds
end
/-- .. of a list at the top -/
def toDm (p : PV) (m : Mem) : Option PyData := match p with
  | .ref i => match m[i]? with
    | some (.lst ps) => (toDs ps).map PyData.list
    | some (.rol ps) => (toDs ps).map PyData.list
    | _ => none
  | p => toD p
mutual
theorem toD_rep {K : PySem.W.Frag} {ρ : List Addr} {H : Hp} : ∀ (p : PV) (v : V) (d : PyData), Rep K ρ H p v → toD p = some d → Dp K H v d
  | .non, v, d, h, e => by rw [rep_non] at h; rw [toD] at e; cases e; subst h; exact .non
  | .bl b, v, d, h, e => by rw [rep_bl] at h; rw [toD] at e; cases e; subst h; exact .bl b
  | .int b, v, d, h, e => by rw [rep_int] at h; rw [toD] at e; cases e; subst h; exact .int b
  | .str b, v, d, h, e => by rw [rep_str] at h; rw [toD] at e; cases e; subst h; exact .str b
  | .tup ps, v, d, h, e => by
    rw [rep_tup] at h
    obtain ⟨a, xs, rfl, h1, h2⟩ := h
    rw [toD] at e
    obtain ⟨ds, e1, rfl⟩ := Option.map_eq_some_iff.mp e
    exact .tup h1.t (toDs_rep ps xs ds h2 e1)
  | .ref i, v, d, h, e => by rw [toD] at e; cases e
theorem toDs_rep {K : PySem.W.Frag} {ρ : List Addr} {H : Hp} : ∀ (ps : List PV) (xs : List V) (ds : List PyData), RepL K ρ H ps xs → toDs ps = some ds → DpAll K H xs ds
  | [], xs, ds, h, e => by rw [toDs] at e; cases e; rw [h.inv0]; exact .nil
  | p :: ps, xs, ds, h, e => by
    obtain ⟨x, r, rfl, h1, h2⟩ := h.inv
    rw [toDs] at e
    obtain ⟨d, e1, e⟩ := Option.bind_eq_some_iff.mp e
    obtain ⟨ds, e2, rfl⟩ := Option.map_eq_some_iff.mp e
    exact .cons (toD_rep p x d h1 e1) (toDs_rep ps r ds h2 e2)
end
theorem toDm_rep {ρ : List Addr} {H : Hp} {m : Mem} {p : PV} {v : V} {d : PyData} (hm : RelM X.K cl ρ H m) (h : Rep X.K ρ H p v) (e : toDm p m = some d) : Dp X.K H v d := by
  cases p with
  | ref i =>
    rw [rep_ref] at h
    obtain ⟨a, ha, rfl⟩ := h
    simp only [toDm] at e
    split at e
    · rename_i ps z
      obtain ⟨ds, e1, rfl⟩ := Option.map_eq_some_iff.mp e
      obtain ⟨xs, s1, s2⟩ := sq_of hm ha (.inl z)
      exact .lst s1 (toDs_rep ps xs ds s2 e1)
    · rename_i ps z
      obtain ⟨ds, e1, rfl⟩ := Option.map_eq_some_iff.mp e
      obtain ⟨xs, s1, s2⟩ := sq_of hm ha (.inr z)
      exact .lst s1 (toDs_rep ps xs ds s2 e1)
    · cases e
  | _ => exact toD_rep _ v d h e
def eqB (p q : PV) (m : Mem) : Option Bool := match p, q with
  | .int i, .int j => some (decide (i = j))
  | .str i, .str j => some (decide (i = j))
  | .bl i, .bl j => some (decide (i = j))
  | p, q => (toDm p m).bind fun d => (toDm q m).bind fun e => if SeqAt.shaped d = true ∧ SeqAt.shaped e = true then some (PyData.eqv d e) else none
def eqG (p q : PV) (m : Mem) : Option (PV × Mem) := (eqB p q m).map fun k => (.bl k, m)
def neG (p q : PV) (m : Mem) : Option (PV × Mem) := (eqB p q m).map fun k => (.bl (!k), m)
theorem eqB_ok {ρ : List Addr} {H : Hp} {m : Mem} {p q : PV} {x y : V} {k : Bool} (hm : RelM X.K cl ρ H m) (hp : Rep X.K ρ H p x) (hq : Rep X.K ρ H q y) (h : eqB p q m = some k) :
    (scal x y = true ∧ k = decide (x = y)) ∨ ∃ d e, Dp X.K H x d ∧ Dp X.K H y e ∧ SeqAt.shaped d = true ∧ SeqAt.shaped e = true ∧ k = PyData.eqv d e := by
  unfold eqB at h
  split at h
  · obtain rfl := Option.some.inj h
    rw [rep_int] at hp hq
    subst hp hq
    exact .inl ⟨rfl, by simp⟩
  · obtain rfl := Option.some.inj h
    rw [rep_str] at hp hq
    subst hp hq
    exact .inl ⟨rfl, by simp⟩
  · obtain rfl := Option.some.inj h
    rw [rep_bl] at hp hq
    subst hp hq
    exact .inl ⟨rfl, by simp⟩
  · obtain ⟨d, e1, h⟩ := Option.bind_eq_some_iff.mp h
    obtain ⟨e, e2, h⟩ := Option.bind_eq_some_iff.mp h
    split at h
    · rename_i hs
      obtain rfl := Option.some.inj h
      exact .inr ⟨d, e, toDm_rep hm hp e1, toDm_rep hm hq e2, hs.1, hs.2, rfl⟩
    · cases h
theorem ox_eq (hu : X.A.units + 64 < cLine) : OpR X (compareOp .Eq) (G2 X.K cl eqG) := by
  intro pins s σ H x y v u Q I rx ry ⟨ρ, p, q, mem, r, hm, hp, hq, h, k⟩
  obtain ⟨b, h1, rfl⟩ := Option.map_eq_some_iff.mp h
  have kk := k ρ (.bl b) H .refl hm (by rw [Rep])
  rcases eqB_ok hm hp hq h1 with ⟨z1, rfl⟩ | ⟨d, e, z1, z2, z3, z4, rfl⟩
  · exact op_eq pins s σ H x y v u Q I rx ry ⟨z1, kk⟩
  · exact op_eqD hu pins s σ H x y v u Q I rx ry ⟨d, e, z1, z2, z3, z4, kk⟩
theorem ox_ne (hu : X.A.units + 64 < cLine) : OpR X (compareOp .NotEq) (G2 X.K cl neG) := by
  intro pins s σ H x y v u Q I rx ry ⟨ρ, p, q, mem, r, hm, hp, hq, h, k⟩
  obtain ⟨b, h1, rfl⟩ := Option.map_eq_some_iff.mp h
  have kk := k ρ (.bl (!b)) H .refl hm (by rw [Rep])
  rcases eqB_ok hm hp hq h1 with ⟨z1, rfl⟩ | ⟨d, e, z1, z2, z3, z4, rfl⟩
  · exact op_ne pins s σ H x y v u Q I rx ry ⟨z1, kk⟩
  · exact op_neD hu pins s σ H x y v u Q I rx ry ⟨d, e, z1, z2, z3, z4, kk⟩
def isNG (p q : PV) (m : Mem) : Option (PV × Mem) := match q with
  | .non => some (.bl (decide (p = .non)), m)
  | _ => none
def notNG (p q : PV) (m : Mem) : Option (PV × Mem) := match q with
  | .non => some (.bl (!decide (p = .non)), m)
  | _ => none
theorem rep_isn {K ρ H p x} (h : Rep K ρ H p x) : decide (x = V.non) = decide (p = PV.non) := by
  cases p with
  | non => rw [rep_non] at h; subst h; rfl
  | bl b => rw [rep_bl] at h; subst h; rfl
  | int b => rw [rep_int] at h; subst h; rfl
  | str b => rw [rep_str] at h; subst h; rfl
  | tup b => rw [rep_tup] at h; obtain ⟨a, xs, rfl, _⟩ := h; rfl
  | ref b => rw [rep_ref] at h; obtain ⟨a, _, rfl⟩ := h; rfl
theorem ox_isn : OpR X (compareOp .Is) (G2 X.K cl isNG) := by
  intro pins s σ H x y v u Q I rx ry ⟨ρ, p, q, mem, r, hm, hp, hq, h, k⟩
  unfold isNG at h
  split at h
  · obtain rfl := Option.some.inj h
    rw [rep_non] at hq
    exact op_isN pins s σ H x y v u Q I rx ry ⟨hq, k ρ _ H .refl hm (by rw [rep_bl, rep_isn hp])⟩
  · cases h
theorem ox_notn : OpR X (compareOp .IsNot) (G2 X.K cl notNG) := by
  intro pins s σ H x y v u Q I rx ry ⟨ρ, p, q, mem, r, hm, hp, hq, h, k⟩
  unfold notNG at h
  split at h
  · obtain rfl := Option.some.inj h
    rw [rep_non] at hq
    exact op_notN pins s σ H x y v u Q I rx ry ⟨hq, k ρ _ H .refl hm (by rw [rep_bl, rep_isn hp])⟩
  · cases h
/-- x in a list or tuple of flat things -/
def flP : PV → Option V
  | .non => some .non
  | .bl b => some (.bl b)
  | .int i => some (.int i)
  | .str s => some (.str s)
  | _ => none
def flPs : List PV → Option (List V)
  | [] => some []
  | p :: ps => (flP p).bind fun v => (flPs ps).map fun vs => v :: vs
theorem flP_rep {K ρ H p v w} (h : Rep K ρ H p v) (e : flP p = some w) : v = w ∧ flatV w = true := by
  cases p with
  | non => cases e; rw [rep_non] at h; exact ⟨h, rfl⟩
  | bl b => cases e; rw [rep_bl] at h; exact ⟨h, rfl⟩
  | int b => cases e; rw [rep_int] at h; exact ⟨h, rfl⟩
  | str b => cases e; rw [rep_str] at h; exact ⟨h, rfl⟩
  | _ => cases e
theorem flPs_rep {K ρ H} : ∀ {ps : List PV} {xs ws : List V}, RepL K ρ H ps xs → flPs ps = some ws → xs = ws ∧ ws.all flatV = true
  | [], xs, ws, h, e => by cases e; exact ⟨h.inv0, rfl⟩
  | p :: ps, xs, ws, h, e => by
    obtain ⟨x, r, rfl, h1, h2⟩ := h.inv
    unfold flPs at e
    obtain ⟨d, e1, e⟩ := Option.bind_eq_some_iff.mp e
    obtain ⟨ds, e2, rfl⟩ := Option.map_eq_some_iff.mp e
    obtain ⟨rfl, h3⟩ := flP_rep h1 e1
    obtain ⟨rfl, h4⟩ := flPs_rep h2 e2
    exact ⟨rfl, by rw [List.all_cons, h3, h4]; rfl⟩
def inB (p q : PV) (m : Mem) : Option Bool := match q with
  | .tup ps => (flP p).bind fun v => (flPs ps).map fun vs => inV v vs
  | .ref i => match m[i]? with
    | some (.lst ps) => (flP p).bind fun v => (flPs ps).map fun vs => inV v vs
    | _ => none
  | .str z => match p with
    | .str y => some (!(Builtin.Str.occurrences z y 0 z.length 1).isEmpty)
    | _ => none
  | _ => none
def inG (p q : PV) (m : Mem) : Option (PV × Mem) := (inB p q m).map fun k => (.bl k, m)
def ninG (p q : PV) (m : Mem) : Option (PV × Mem) := (inB p q m).map fun k => (.bl (!k), m)
theorem inB_ok {ρ : List Addr} {H : Hp} {m : Mem} {p q : PV} {x y : V} {k : Bool} (hm : RelM X.K cl ρ H m) (hp : Rep X.K ρ H p x) (hq : Rep X.K ρ H q y) (h : inB p q m = some k) :
    (∃ a xs, y = .ref a ∧ (SqL X.K H a xs ∨ SqT X.K H a xs) ∧ flatV x = true ∧ xs.all flatV = true ∧ k = inV x xs) ∨ ∃ i j, x = .str i ∧ y = .str j ∧ k = !(Builtin.Str.occurrences j i 0 j.length 1).isEmpty := by
  unfold inB at h
  split at h
  · rename_i ps
    rw [rep_tup] at hq
    obtain ⟨a, xs, rfl, h1, h2⟩ := hq
    obtain ⟨d, e1, e⟩ := Option.bind_eq_some_iff.mp h
    obtain ⟨ds, e2, rfl⟩ := Option.map_eq_some_iff.mp e
    obtain ⟨rfl, h3⟩ := flP_rep hp e1
    obtain ⟨rfl, h4⟩ := flPs_rep h2 e2
    exact .inl ⟨a, _, rfl, .inr h1.t, h3, h4, rfl⟩
  · rename_i i
    rw [rep_ref] at hq
    obtain ⟨a, ha, rfl⟩ := hq
    split at h
    · rename_i ps z
      obtain ⟨xs, s1, s2⟩ := sq_of hm ha (.inl z)
      obtain ⟨d, e1, e⟩ := Option.bind_eq_some_iff.mp h
      obtain ⟨ds, e2, rfl⟩ := Option.map_eq_some_iff.mp e
      obtain ⟨rfl, h3⟩ := flP_rep hp e1
      obtain ⟨rfl, h4⟩ := flPs_rep s2 e2
      exact .inl ⟨a, _, rfl, .inl s1, h3, h4, rfl⟩
    · cases h
  · split at h
    · obtain rfl := Option.some.inj h
      rw [rep_str] at hp hq
      exact .inr ⟨_, _, hp, hq, rfl⟩
    · cases h
  · cases h
theorem ox_in : OpR X (compareOp .In) (G2 X.K cl inG) := by
  intro pins s σ H x y v u Q I rx ry ⟨ρ, p, q, mem, r, hm, hp, hq, h, k⟩
  obtain ⟨b, h1, rfl⟩ := Option.map_eq_some_iff.mp h
  have kk := k ρ (.bl b) H .refl hm (by rw [Rep])
  rcases inB_ok hm hp hq h1 with ⟨a, xs, z1, z2, z3, z4, rfl⟩ | ⟨i, j, z1, z2, rfl⟩
  · exact op_in_seq pins s σ H x y v u Q I rx ry ⟨a, xs, z1, z2, z3, z4, kk⟩
  · exact op_in_str pins s σ H x y v u Q I rx ry ⟨i, j, z1, z2, kk⟩
theorem ox_nin : OpR X (compareOp .NotIn) (G2 X.K cl ninG) := by
  intro pins s σ H x y v u Q I rx ry ⟨ρ, p, q, mem, r, hm, hp, hq, h, k⟩
  obtain ⟨b, h1, rfl⟩ := Option.map_eq_some_iff.mp h
  have kk := k ρ (.bl (!b)) H .refl hm (by rw [Rep])
  rcases inB_ok hm hp hq h1 with ⟨a, xs, z1, z2, z3, z4, rfl⟩ | ⟨i, j, z1, z2, rfl⟩
  · exact op_notIn_seq pins s σ H x y v u Q I rx ry ⟨a, xs, z1, z2, z3, z4, kk⟩
  · exact op_notin_str pins s σ H x y v u Q I rx ry ⟨i, j, z1, z2, kk⟩

/-! ### built-ins -/
def intG : List PV → Mem → Option (PV × Mem)
  | [.int i], m => some (.int i, m)
  | [.bl k], m => some (.int (if k = true then 1 else 0), m)
  | [.str s], m => match PySem.intText? s with
    | some n => if s.length ≤ 640 then some (.int n, m) else none
    | none => none
  | _, _ => none
theorem cx_int : CallR X (.type "int") (GL X.K cl intG) := by
  intro pins s σ H xs us Q I rs ⟨ρ, ps, mem, r, hm, hp, h, k⟩
  unfold intG at h
  split at h
  · obtain rfl := Option.some.inj h
    obtain ⟨x, xs, rfl, h1, h2⟩ := hp.inv
    obtain rfl := h2.inv0
    rw [rep_int] at h1; subst h1
    exact call_int1 pins s σ H _ us Q I rs (.inl ⟨_, rfl, k ρ _ H .refl hm (by rw [Rep])⟩)
  · obtain rfl := Option.some.inj h
    obtain ⟨x, xs, rfl, h1, h2⟩ := hp.inv
    obtain rfl := h2.inv0
    rw [rep_bl] at h1; subst h1
    exact call_int1 pins s σ H _ us Q I rs (.inr ⟨_, rfl, k ρ _ H .refl hm (by rw [Rep])⟩)
  · split at h
    · rename_i n hn
      split at h
      · rename_i hl
        obtain rfl := Option.some.inj h
        obtain ⟨x, xs, rfl, h1, h2⟩ := hp.inv
        obtain rfl := h2.inv0
        rw [rep_str] at h1; subst h1
        exact call_int_str pins s σ H _ us Q I rs ⟨_, n, rfl, hn, hl, k ρ _ H .refl hm (by rw [Rep])⟩
      · cases h
    · cases h
  · cases h
def strG : List PV → Mem → Option (PV × Mem)
  | [.int i], m => if i.natAbs < 2 ^ 1900 then some (.str (toString i), m) else none
  | _, _ => none
theorem cx_str : CallR X (.type "str") (GL X.K cl strG) := by
  intro pins s σ H xs us Q I rs ⟨ρ, ps, mem, r, hm, hp, h, k⟩
  unfold strG at h
  split at h
  · split at h
    · rename_i hz
      obtain rfl := Option.some.inj h
      obtain ⟨x, xs, rfl, h1, h2⟩ := hp.inv
      obtain rfl := h2.inv0
      rw [rep_int] at h1; subst h1
      exact call_str_int pins s σ H _ us Q I rs ⟨_, rfl, Nat.lt_of_lt_of_le (PySem.Flt.log2_lt_of (by decide) hz) (by decide), k ρ _ H .refl hm (by rw [Rep])⟩
    · cases h
  · cases h
def lenB (p : PV) (m : Mem) : Option Nat := match p with
  | .tup ps => some ps.length
  | .str s => if s.length ≤ sizeLine then some s.length else none
  | .ref i => match m[i]? with
    | some (.lst ps) => some ps.length
    | some (.rol ps) => some ps.length
    | _ => none
  | _ => none
def lenG : List PV → Mem → Option (PV × Mem)
  | [p], m => (lenB p m).map fun n => (.int (n : Nat), m)
  | _, _ => none
theorem seq_of {ρ : List Addr} {H : Hp} {m : Mem} {p : PV} {x : V} {ps : List PV} (hm : RelM X.K cl ρ H m) (hp : Rep X.K ρ H p x) (h : p = .tup ps ∨ ∃ i, p = .ref i ∧ (m[i]? = some (.lst ps) ∨ m[i]? = some (.rol ps))) : ∃ a xs, x = .ref a ∧ (SqL X.K H a xs ∨ SqT X.K H a xs) ∧ RepL X.K ρ H ps xs := by
  rcases h with rfl | ⟨i, rfl, h⟩
  · rw [rep_tup] at hp
    obtain ⟨a, xs, rfl, h1, h2⟩ := hp
    exact ⟨a, xs, rfl, .inr h1.t, h2⟩
  · rw [rep_ref] at hp
    obtain ⟨a, ha, rfl⟩ := hp
    obtain ⟨xs, s1, s2⟩ := sq_of hm ha h
    exact ⟨a, xs, rfl, .inl s1, s2⟩
theorem cx_len : CallR X (.builtin "len") (GL X.K cl lenG) := by
  intro pins s σ H xs us Q I rs ⟨ρ, ps, mem, r, hm, hp, h, k⟩
  unfold lenG at h
  split at h
  · rename_i p
    obtain ⟨n, h1, rfl⟩ := Option.map_eq_some_iff.mp h
    obtain ⟨x, xs, rfl, i1, i2⟩ := hp.inv
    obtain rfl := i2.inv0
    have seq : ∀ qs : List PV, (p = .tup qs ∨ ∃ i, p = .ref i ∧ (mem[i]? = some (.lst qs) ∨ mem[i]? = some (.rol qs))) → n = qs.length → wpAny (model X.prog X.w) X.A (call (.builtin "len") us) (EP X pins σ Q) X.xe s := fun qs hs e => by
      obtain ⟨a, ys, rfl, z1, z2⟩ := seq_of hm i1 hs
      exact call_len_seq pins s σ H _ us Q I rs ⟨a, ys, rfl, z1, k ρ _ H .refl hm (by rw [rep_int, z2.length, e])⟩
    unfold lenB at h1
    split at h1
    · exact seq _ (.inl rfl) (Option.some.inj h1).symm
    · split at h1
      · rename_i hz
        obtain rfl := Option.some.inj h1
        rw [rep_str] at i1; subst i1
        exact call_len_str pins s σ H _ us Q I rs ⟨_, rfl, hz, k ρ _ H .refl hm (by rw [Rep])⟩
      · cases h1
    · split at h1
      · rename_i e
        exact seq _ (.inr ⟨_, rfl, .inl e⟩) (Option.some.inj h1).symm
      · rename_i e
        exact seq _ (.inr ⟨_, rfl, .inr e⟩) (Option.some.inj h1).symm
      · cases h1
    · cases h1
  · cases h
def itemsB (p : PV) (m : Mem) : Option (List PV) := match p with
  | .tup ps => some ps
  | .ref i => match m[i]? with
    | some (.lst ps) => some ps
    | some (.rol ps) => some ps
    | _ => none
  | _ => none
theorem itemsB_seq {p : PV} {m : Mem} {ps : List PV} (h : itemsB p m = some ps) : p = .tup ps ∨ ∃ i, p = .ref i ∧ (m[i]? = some (.lst ps) ∨ m[i]? = some (.rol ps)) := by
  unfold itemsB at h
  split at h
  · cases h; exact .inl rfl
  · split at h
    · rename_i e; cases h; exact .inr ⟨_, rfl, .inl e⟩
    · rename_i e; cases h; exact .inr ⟨_, rfl, .inr e⟩
    · cases h
  · cases h
def listG : List PV → Mem → Option (PV × Mem)
  | [p], m => (itemsB p m).map fun ps => (.ref m.length, m ++ [.lst ps])
  | _, _ => none
def tupleG : List PV → Mem → Option (PV × Mem)
  | [p], m => (itemsB p m).map fun ps => (.tup ps, m)
  | _, _ => none
theorem cx_list : CallR X (.type "list") (GL X.K cl listG) := by
  intro pins s σ H xs us Q I rs ⟨ρ, ps, mem, r, hm, hp, h, k⟩
  unfold listG at h
  split at h
  · obtain ⟨qs, h1, rfl⟩ := Option.map_eq_some_iff.mp h
    obtain ⟨x, xs, rfl, i1, i2⟩ := hp.inv
    obtain rfl := i2.inv0
    obtain ⟨a, ys, rfl, z1, z2⟩ := seq_of hm i1 (itemsB_seq h1)
    refine call_list_of pins s σ H _ us Q I rs ⟨a, ys, rfl, z1, fun p hp => ?_⟩
    obtain ⟨y1, y2, y3⟩ := new_lst hm z2 hp
    exact k _ _ _ y1 y2 y3
  · cases h
/-- tuple(l): the new object without a dict -/
theorem call_tuple_ofP : CallR X (.type "tuple") (fun xs H Q => ∃ p ys, xs = [.ref p] ∧ SqL X.K H p ys ∧ ∀ (l : Addr) (ob : Obj), ob.dict = none → H l = none → Q (.ref l) (upd H l (.frz ob (.tup ys)))) := by
  intro pins s σ H xs us Q I r h
  obtain ⟨p, ys, rfl, hq, q⟩ := h
  obtain ⟨u, rfl, rx⟩ := vals1 r
  cases rx
  obtain ⟨its, rv, pl, hz⟩ := I.list hq
  refine call_tuple_list pl.isList (fun h' hk => ?_) (by rw [List.size_toArray, ← rv.length]; exact hz)
  have I1 : Inv X pins σ H { s with heap := h' } := I.kept (t' := s.toks) hk
  exact laid_tup I1 hz rv q
theorem cx_tuple : CallR X (.type "tuple") (GL X.K cl tupleG) := by
  intro pins s σ H xs us Q I rs ⟨ρ, ps, mem, r, hm, hp, h, k⟩
  unfold tupleG at h
  split at h
  · obtain ⟨qs, h1, rfl⟩ := Option.map_eq_some_iff.mp h
    obtain ⟨x, xs, rfl, i1, i2⟩ := hp.inv
    obtain rfl := i2.inv0
    rename_i p0
    have lst : ∀ (i : Nat) (w : p0 = PV.ref i), mem[i]? = some (.lst qs) ∨ mem[i]? = some (.rol qs) → wpAny (model X.prog X.w) X.A (call (.type "tuple") us) (EP X pins σ Q) X.xe s := fun i w hi => by
      subst w
      rw [rep_ref] at i1
      obtain ⟨a, ha, rfl⟩ := i1
      obtain ⟨ys, z1, z2⟩ := sq_of hm ha hi
      refine call_tuple_ofP pins s σ H _ us Q I rs ⟨a, ys, rfl, z1, fun p ob hob hp => ?_⟩
      obtain ⟨y1, y2, y3⟩ := new_tup hob hm z2 hp
      exact k _ _ _ y1 y2 y3
    unfold itemsB at h1
    split at h1
    · obtain rfl := Option.some.inj h1
      have i1' := i1
      rw [rep_tup] at i1
      obtain ⟨a, ys, rfl, z1, z2⟩ := i1
      exact call_tuple_of pins s σ H _ us Q I rs ⟨a, ys, rfl, .inr ⟨z1.t, k ρ _ H .refl hm i1'⟩⟩
    · split at h1
      · rename_i e
        obtain rfl := Option.some.inj h1
        exact lst _ rfl (.inl e)
      · rename_i e
        obtain rfl := Option.some.inj h1
        exact lst _ rfl (.inr e)
      · cases h1
    · cases h1
  · cases h
def minG : List PV → Mem → Option (PV × Mem)
  | [.int i, .int j], m => some (.int (if j < i then j else i), m)
  | _, _ => none
def maxG : List PV → Mem → Option (PV × Mem)
  | [.int i, .int j], m => some (.int (if j > i then j else i), m)
  | _, _ => none
theorem cx_min (hc : X.calm = true) : CallR X (.builtin "min") (GL X.K cl minG) := by
  intro pins s σ H xs us Q I rs ⟨ρ, ps, mem, r, hm, hp, h, k⟩
  unfold minG at h
  split at h
  · obtain rfl := Option.some.inj h
    obtain ⟨x, xs, rfl, i1, i2⟩ := hp.inv
    obtain ⟨y, ys, rfl, i3, i4⟩ := i2.inv
    obtain rfl := i4.inv0
    rw [rep_int] at i1 i3
    subst i1 i3
    exact call_min2 hc pins s σ H _ us Q I rs ⟨_, _, rfl, k ρ _ H .refl hm (by rw [Rep])⟩
  · cases h
theorem cx_max (hc : X.calm = true) : CallR X (.builtin "max") (GL X.K cl maxG) := by
  intro pins s σ H xs us Q I rs ⟨ρ, ps, mem, r, hm, hp, h, k⟩
  unfold maxG at h
  split at h
  · obtain rfl := Option.some.inj h
    obtain ⟨x, xs, rfl, i1, i2⟩ := hp.inv
    obtain ⟨y, ys, rfl, i3, i4⟩ := i2.inv
    obtain rfl := i4.inv0
    rw [rep_int] at i1 i3
    subst i1 i3
    exact call_max2 hc pins s σ H _ us Q I rs ⟨_, _, rfl, k ρ _ H .refl hm (by rw [Rep])⟩
  · cases h
def blsP : List PV → Option (List Bool)
  | [] => some []
  | .bl b :: ps => (blsP ps).map fun bs => b :: bs
  | _ => none
theorem blsP_rep {K ρ H} : ∀ {ps : List PV} {xs : List V} {bs : List Bool}, RepL K ρ H ps xs → blsP ps = some bs → xs = bs.map V.bl
  | [], xs, bs, h, e => by cases e; exact h.inv0
  | p :: ps, xs, bs, h, e => by
    obtain ⟨x, r, rfl, h1, h2⟩ := h.inv
    unfold blsP at e
    split at e
    · rename_i heq
      cases heq
    · rename_i b qs heq
      obtain ⟨rfl, rfl⟩ := List.cons.inj heq
      obtain ⟨ds, e2, rfl⟩ := Option.map_eq_some_iff.mp e
      rw [rep_bl] at h1
      rw [h1, blsP_rep h2 e2]
      rfl
    · cases e
def lstB (p : PV) (m : Mem) : Option (List PV) := match p with
  | .ref i => match m[i]? with
    | some (.lst ps) => some ps
    | _ => none
  | _ => none
theorem lstB_ok {ρ : List Addr} {H : Hp} {m : Mem} {p : PV} {x : V} {ps : List PV} (hm : RelM X.K cl ρ H m) (hp : Rep X.K ρ H p x) (h : lstB p m = some ps) : ∃ i a xs, p = .ref i ∧ m[i]? = some (.lst ps) ∧ ρ[i]? = some a ∧ x = .ref a ∧ H a = some (.lst xs) ∧ RepL X.K ρ H ps xs := by
  unfold lstB at h
  split at h
  · split at h
    · rename_i i ps z
      obtain rfl := Option.some.inj h
      rw [rep_ref] at hp
      obtain ⟨a, ha, rfl⟩ := hp
      obtain ⟨xs, z1, z2⟩ := hm.ok _ a _ ha z
      exact ⟨_, a, xs, rfl, z, ha, rfl, z1, z2⟩
    · cases h
  · cases h
def anyG : List PV → Mem → Option (PV × Mem)
  | [p], m => (lstB p m).bind fun ps => (blsP ps).map fun bs => (.bl (bs.any id), m)
  | _, _ => none
def allG : List PV → Mem → Option (PV × Mem)
  | [p], m => (lstB p m).bind fun ps => (blsP ps).map fun bs => (.bl (bs.all id), m)
  | _, _ => none
theorem cx_any (hc : X.calm = true) : CallR X (.builtin "any") (GL X.K cl anyG) := by
  intro pins s σ H xs us Q I rs ⟨ρ, ps, mem, r, hm, hp, h, k⟩
  unfold anyG at h
  split at h
  · obtain ⟨qs, h1, h⟩ := Option.bind_eq_some_iff.mp h
    obtain ⟨bs, h2, rfl⟩ := Option.map_eq_some_iff.mp h
    obtain ⟨x, xs, rfl, i1, i2⟩ := hp.inv
    obtain rfl := i2.inv0
    obtain ⟨i, a, ys, rfl, y1, y2, rfl, y3, y4⟩ := lstB_ok hm i1 h1
    have := blsP_rep y4 h2
    subst this
    exact cr_any hc pins s σ H _ us Q I rs ⟨a, bs, rfl, .inl (.inl y3), k ρ _ H .refl hm (by rw [Rep])⟩
  · cases h
theorem cx_all (hc : X.calm = true) : CallR X (.builtin "all") (GL X.K cl allG) := by
  intro pins s σ H xs us Q I rs ⟨ρ, ps, mem, r, hm, hp, h, k⟩
  unfold allG at h
  split at h
  · obtain ⟨qs, h1, h⟩ := Option.bind_eq_some_iff.mp h
    obtain ⟨bs, h2, rfl⟩ := Option.map_eq_some_iff.mp h
    obtain ⟨x, xs, rfl, i1, i2⟩ := hp.inv
    obtain rfl := i2.inv0
    obtain ⟨i, a, ys, rfl, y1, y2, rfl, y3, y4⟩ := lstB_ok hm i1 h1
    have := blsP_rep y4 h2
    subst this
    exact cr_all hc pins s σ H _ us Q I rs ⟨a, bs, rfl, .inl (.inl y3), k ρ _ H .refl hm (by rw [Rep])⟩
  · cases h
end
end Rf
end

section
set_option Elab.async false
set_option linter.all false
set_option maxRecDepth 100000
set_option autoImplicit false
namespace Rf
open PySem PySem.Spec L2
section
variable {X : Cx} {cl : Nat → Addr}
variable {a b c e o : Expr} {es : List Expr} {pos p apos pos' cpos : Pos} {ma mb mc me mo mi : Ex} {x f : Str} {mA : Ax}

/-! ### methods of built-in types -/
abbrev Mg := PV → List PV → Mem → Option (PV × Mem)
def xM (chk : PV → Mem → Bool) (g : Mg) (o : Ex) (a : Ax) : Ex := fun env m => (o env m).bind fun r => if chk r.1 r.2 = true then (a env r.2).bind fun s => g r.1 s.1 s.2 else none
def chkL (p : PV) (m : Mem) : Bool := (lstB p m).isSome
def chkS (p : PV) (_ : Mem) : Bool := match p with
  | .str _ => true
  | _ => false
theorem chkL_ok {ρ : List Addr} {H : Hp} {m : Mem} {p : PV} {v : V} (hm : RelM X.K cl ρ H m) (hp : Rep X.K ρ H p v) (h : chkL p m = true) : tyV X.K "list" v H := by
  unfold chkL at h
  cases e : lstB p m with
  | none => rw [e] at h; cases h
  | some ps =>
    obtain ⟨i, a, xs, rfl, _, _, rfl, z, _⟩ := lstB_ok hm hp e
    exact .inl ⟨rfl, xs, .inl (.inl z)⟩
theorem chkS_ok {ρ : List Addr} {H : Hp} {m : Mem} {p : PV} {v : V} (hm : RelM X.K cl ρ H m) (hp : Rep X.K ρ H p v) (h : chkS p m = true) : tyV X.K "str" v H := by
  unfold chkS at h
  split at h
  · rw [rep_str] at hp; subst hp; rfl
  · cases h
theorem rx_m {T id : String} {name : Str} {chk : PV → Mem → Bool} {g : Mg} (pa : PlainAttrs T) (slot : Slot T name id) (hty : typeOf (.builtin id) = pure (.type "method_descriptor")) (hm : MtR X id (GM X.K cl g))
    (hk : ∀ (ρ : List Addr) (H : Hp) (m : Mem) (p : PV) (v : V), RelM X.K cl ρ H m → Rep X.K ρ H p v → chk p m = true → tyV X.K T v H) (ho : RX cl X o mo) (ha : RA cl X (e :: es) mA)
    (hbase : attributeBase o name X.env (eval o X.env) = eval o X.env := by rfl)
    (hfew : ((backTo cpos (starEach (e :: es) X.env)).all (fun x => !x.1) && (backToKw cpos (keywordEach [] X.env)).all (fun x => x.1.isSome)
      && decide ((e :: es).length + ([] : List Keyword).length + (if ([] : List Keyword).isEmpty then 0 else 1) < 30)) = true := by rfl)
    (hline : (apos.endLine == cpos.line) = true := by rfl) (hs : starEach (e :: es) X.env = (false, eval e X.env) :: starEach es X.env := by rfl) (hplain : (backTo cpos (starEach es X.env)).any (·.1) = false := by rfl) :
    RX cl X (.Call (.Attribute o name apos) (e :: es) [] cpos) (xM chk g mo mA) := PE.imp (pe_bm pa slot hty hm ho ha hbase hfew hline hs hplain) fun σ H Q ⟨ρ, env, mem, r, hm, hE, h, q⟩ => by
  unfold xM at h
  obtain ⟨r1, e1, h⟩ := Option.bind_eq_some_iff.mp h
  split at h
  · rename_i hc
    obtain ⟨r2, e2, h⟩ := Option.bind_eq_some_iff.mp h
    exact ⟨ρ, env, mem, r1, hm, hE, e1, fun ρ1 v1 H1 x1 m1 p1 => ⟨hk _ _ _ _ _ m1 p1 hc, ρ1, env, r1.2, r2, m1, hE.ext x1, e2, fun ρ2 vs H2 x2 m2 p2 => ⟨ρ2, r1.1, r2.1, r2.2, r, m2, x2.rep _ _ p1, p2, h, q.ext (x1.trans x2)⟩⟩⟩
  · cases h
theorem rx_m0 {T id : String} {name : Str} {chk : PV → Mem → Bool} {g : Mg} (pa : PlainAttrs T) (slot : Slot T name id) (hty : typeOf (.builtin id) = pure (.type "method_descriptor")) (hm : MtR X id (GM X.K cl g))
    (hk : ∀ (ρ : List Addr) (H : Hp) (m : Mem) (p : PV) (v : V), RelM X.K cl ρ H m → Rep X.K ρ H p v → chk p m = true → tyV X.K T v H) (ho : RX cl X o mo)
    (hbase : attributeBase o name X.env (eval o X.env) = eval o X.env := by rfl) (hline : (apos.endLine == cpos.line) = true := by rfl) :
    RX cl X (.Call (.Attribute o name apos) [] [] cpos) (xM chk g mo aNil) := PE.imp (pe_bm0 pa slot hty hm ho hbase hline) fun σ H Q ⟨ρ, env, mem, r, hm, hE, h, q⟩ => by
  unfold xM aNil at h
  obtain ⟨r1, e1, h⟩ := Option.bind_eq_some_iff.mp h
  split at h
  · rename_i hc
    exact ⟨ρ, env, mem, r1, hm, hE, e1, fun ρ1 v1 H1 x1 m1 p1 => ⟨hk _ _ _ _ _ m1 p1 hc, ρ1, r1.1, [], r1.2, r, m1, p1, .nil, h, q.ext x1⟩⟩
  · cases h
def appG : Mg := fun p xs m => match p, xs with
  | .ref i, [y] => match m[i]? with
    | some (.lst ps) => if ps.length < sizeLine then some (.non, m.set i (.lst (ps ++ [y]))) else none
    | _ => none
  | _, _ => none
theorem mx_app : MtR X "list.append" (GM X.K cl appG) := by
  intro pins s σ H x xs v us Q I rx rs ⟨ρ, p, ps, mem, r, hm, hp, hps, h, k⟩
  unfold appG at h
  split at h
  · rename_i i y
    split at h
    · rename_i qs z
      split at h
      · rename_i hl
        obtain rfl := Option.some.inj h
        rw [rep_ref] at hp
        obtain ⟨a, ha, rfl⟩ := hp
        obtain ⟨w, ws, rfl, i1, i2⟩ := hps.inv
        obtain rfl := i2.inv0
        obtain ⟨ys, y1, y2⟩ := hm.ok i a _ ha z
        have x3 : Ext X.K ρ H ρ (upd H a (.lst (ys ++ [w]))) := ext_set hm ha z rfl
        exact mt_append pins s σ H _ _ v us Q I rx rs ⟨a, ys, w, rfl, rfl, y1, by rw [y2.length]; exact hl, k ρ _ _ x3 (hm.set ha z rfl rfl ⟨_, upd_same, (x3.repL _ _ y2).append (.one (x3.rep _ _ i1))⟩) (by rw [Rep])⟩
      · cases h
    · cases h
  · cases h
theorem rx_append (ho : RX cl X o mo) (ha : RX cl X e me)
    (hbase : attributeBase o "append" X.env (eval o X.env) = eval o X.env := by rfl)
    (hfew : ((backTo cpos (starEach [e] X.env)).all (fun x => !x.1) && (backToKw cpos (keywordEach [] X.env)).all (fun x => x.1.isSome)
      && decide (([e] : List Expr).length + ([] : List Keyword).length + (if ([] : List Keyword).isEmpty then 0 else 1) < 30)) = true := by rfl)
    (hline : (apos.endLine == cpos.line) = true := by rfl) (hs : starEach [e] X.env = (false, eval e X.env) :: starEach [] X.env := by rfl) (hplain : (backTo cpos (starEach [] X.env)).any (·.1) = false := by rfl) :
    RX cl X (.Call (.Attribute o "append" apos) [e] [] cpos) (xM chkL appG mo (aCons me aNil)) :=
  rx_m PySem.F.plainAttrs_list PySem.F.slot_list_append PySem.F.type_list_append mx_app (fun _ _ _ _ _ => chkL_ok) ho (ra_cons ha ra_nil hs) hbase hfew hline hs hplain
/-- d.get(k, x) -/
def dicB (p : PV) (m : Mem) : Option (List (Key × PV)) := match p with
  | .ref i => match m[i]? with
    | some (.dic kvs) => some kvs
    | _ => none
  | _ => none
theorem dicB_ok {ρ : List Addr} {H : Hp} {m : Mem} {p : PV} {x : V} {kvs : List (Key × PV)} (hm : RelM X.K cl ρ H m) (hp : Rep X.K ρ H p x) (h : dicB p m = some kvs) : ∃ i a kws, p = .ref i ∧ m[i]? = some (.dic kvs) ∧ ρ[i]? = some a ∧ x = .ref a ∧ H a = some (.dK kws) ∧ RepF X.K ρ H kvs kws := by
  unfold dicB at h
  split at h
  · split at h
    · rename_i i ps z
      obtain rfl := Option.some.inj h
      rw [rep_ref] at hp
      obtain ⟨a, ha, rfl⟩ := hp
      obtain ⟨xs, z1, z2⟩ := hm.ok _ a _ ha z
      exact ⟨_, a, xs, rfl, z, ha, rfl, z1, z2⟩
    · cases h
  · cases h
def xGet (d k v : Ex) : Ex := fun env m => (d env m).bind fun r => if (dicB r.1 r.2).isSome = true then (k env r.2).bind fun s => (v env s.2).bind fun t => (dicB r.1 t.2).bind fun kvs => (keyOf s.1).map fun kk => ((valP kvs kk).getD t.1, t.2) else none
theorem rx_get {mk mv : Ex} {k v : Expr} (hu : X.A.units + 1 < cLine) (ho : RX cl X o mo) (hk : RX cl X k mk) (hv : RX cl X v mv) (m : M2 X o "get" apos k v cpos) : RX cl X (.Call (.Attribute o "get" apos) [k, v] [] cpos) (xGet mo mk mv) :=
  PE.imp (pe_dget2 hu ho hk hv m) fun σ H Q ⟨ρ, env, mem, r, hm, hE, h, q⟩ => by
    unfold xGet at h
    obtain ⟨r1, e1, h⟩ := Option.bind_eq_some_iff.mp h
    split at h
    · rename_i hc
      obtain ⟨r2, e2, h⟩ := Option.bind_eq_some_iff.mp h
      obtain ⟨r3, e3, h⟩ := Option.bind_eq_some_iff.mp h
      obtain ⟨kvs, e4, h⟩ := Option.bind_eq_some_iff.mp h
      obtain ⟨kk, e5, rfl⟩ := Option.map_eq_some_iff.mp h
      obtain ⟨kvs0, hc⟩ := Option.isSome_iff_exists.mp hc
      refine ⟨ρ, env, mem, r1, hm, hE, e1, fun ρ1 v1 H1 x1 m1 p1 => ?_⟩
      obtain ⟨i, a, kws0, hi, _, ha, rfl, z1, _⟩ := dicB_ok m1 p1 hc
      refine ⟨a, rfl, .inl ⟨kws0, .inl z1⟩, ρ1, env, r1.2, r2, m1, hE.ext x1, e2, fun ρ2 v2 H2 x2 m2 p2 => ⟨ρ2, env, r2.2, r3, m2, (hE.ext x1).ext x2, e3, fun ρ3 v3 H3 x3 m3 p3 => ?_⟩⟩
      obtain ⟨i', a', kws, hi', _, ha', ea, z3, z4⟩ := dicB_ok m3 ((x2.trans x3).rep _ _ p1) e4
      cases ea
      have ek := keyOf_rep (x3.rep _ _ p2) e5
      subst ek
      have z5 := valP_rep kk z4
      refine ⟨_, DGet.k z3, q ρ3 _ H3 (x1.trans (x2.trans x3)) m3 ?_⟩
      cases zz : valP kvs kk with
      | none =>
        rw [zz] at z5
        rw [z5]
        exact p3
      | some pp =>
        rw [zz] at z5
        obtain ⟨w, z6, z7⟩ := z5
        rw [z6]
        exact z7
    · cases h

/-! ### isinstance -/
def tyN (p : PV) (m : Mem) : Option String := match p with
  | .non => some "NoneType"
  | .bl _ => some "bool"
  | .int _ => some "int"
  | .str _ => some "str"
  | .tup _ => some "tuple"
  | .ref i => match m[i]? with
    | some (.lst _) => some "list"
    | some (.rol _) => some "list"
    | some (.dic _) => some "dict"
    | _ => none
def isG (T : String) (p : PV) (m : Mem) : Option (PV × Mem) := (tyN p m).bind fun n => (kitB n T).map fun b => (.bl b, m)
theorem sqT_ty {K : PySem.W.Frag} {H : Hp} {a : Addr} {xs : List V} (h : SqT K H a xs) : TyX K H (.ref a) (.type "tuple") := by
  rcases h with (h | ⟨o, h⟩) | ⟨o, its, n, h, hc, _⟩
  · exact .base (.tup h)
  · exact .fTuple h
  · exact .kTuple h hc
theorem tyN_ok {ρ : List Addr} {H : Hp} {m : Mem} {p : PV} {x : V} {n : String} (hm : RelM X.K cl ρ H m) (hp : Rep X.K ρ H p x) (h : tyN p m = some n) : TyX X.K H x (.type n) := by
  cases p with
  | non => rw [rep_non] at hp; subst hp; cases h; exact .base .non
  | bl b => rw [rep_bl] at hp; subst hp; cases h; exact .base (.bl b)
  | int b => rw [rep_int] at hp; subst hp; cases h; exact .base (.int b)
  | str b => rw [rep_str] at hp; subst hp; cases h; exact .base (.str b)
  | tup b => rw [rep_tup] at hp; obtain ⟨a, xs, rfl, h1, _⟩ := hp; cases h; exact sqT_ty h1.t
  | ref i =>
    rw [rep_ref] at hp
    obtain ⟨a, ha, rfl⟩ := hp
    simp only [tyN] at h
    split at h
    · rename_i e
      obtain rfl := Option.some.inj h
      obtain ⟨xs, z, _⟩ := hm.ok i a _ ha e
      exact .base (.lst z)
    · rename_i e
      obtain rfl := Option.some.inj h
      obtain ⟨xs, z, _⟩ := hm.ok i a _ ha e
      rcases z with ⟨o, z⟩ | z
      · exact .base (.frz z)
      · rcases z (fun _ => none) with (z | ⟨o, z⟩) | ⟨o, its, n, z, hc, _⟩
        · cases z
        · cases z
        · exact .kList z hc
    · rename_i e
      obtain rfl := Option.some.inj h
      obtain ⟨xs, z, _⟩ := hm.ok i a _ ha e
      exact .base (.dK z)
    · cases h
theorem rx_isinst {T : String} {y : Str} {py : Pos} (hg : Gl X "isinstance") (hm : X.mg "isinstance" = none) (hgT : Gl X y) (hmT : X.mg y = none) (hvT : bootBuiltins y = some (.type T)) (ha : RX cl X a ma) (hn : y ≠ "__name__" := by decide) (hd : (y == ("__debug__" : Str)) = false := by decide)
    (he : starEach [a, .Name y py] X.env = (false, eval a X.env) :: starEach [.Name y py] X.env := by rfl) (he2 : starEach [.Name y py] X.env = (false, eval (.Name y py) X.env) :: starEach [] X.env := by rfl) (hpl : (backTo pos (starEach [.Name y py] X.env)).any (·.1) = false := by rfl) :
    RX cl X (.Call (.Name "isinstance" p) [a, .Name y py] [] pos) (x1 (isG T) ma) :=
  PE.imp (pe_callB call_isi hg hm (by decide +kernel) (pa_cons ha (pa_cons (pe_bltn (v := .ty T) hgT hmT hvT rfl hn hd) pa_nil he2) he) (by decide) (by decide) he hpl) fun σ H Q h => by
    obtain ⟨ρ, env, mem, r, hm, hE, h, q⟩ := t1_of h
    refine ⟨ρ, env, mem, r, hm, hE, h, fun ρ1 v1 H1 x1 m1 p1 => ?_⟩
    obtain ⟨ρ2, p2, mem2, r2, n1, n2, n3, n4⟩ := q ρ1 v1 H1 x1 m1 p1
    unfold isG at n3
    obtain ⟨n, e1, n3⟩ := Option.bind_eq_some_iff.mp n3
    obtain ⟨b, e2, rfl⟩ := Option.map_eq_some_iff.mp n3
    exact ⟨v1, .ty T, .type n, .type T, b, rfl, .ty T, tyN_ok n1 n2 e1, kit_ty e2, n4 ρ2 _ H1 .refl n1 (by rw [Rep])⟩
end

/-! ### a def by its body -/
def startE (N : Nat) (ps : List PV) : Env := ps.map some ++ List.replicate (N - ps.length) none
def fnF (N : Nat) (b : Sx) : Fn := fun ps m => (b (startE N ps) m).bind fun r => match r.1 with
  | .nx => some (.non, r.2.2)
  | .rt v => some (v, r.2.2)
  | _ => none
section
variable {P : Program} {w : World} {K : PySem.W.Frag} {mg : Str → Option Value} {base : Heap} {cl : Nat → Addr}
theorem start_rep {ρ : List Addr} {H : Hp} {ps : List PV} {vs : List V} (N : List Str) (h : RepL K ρ H ps vs) : RelE K ρ H (L2.start N vs) (startE N.length ps) := by
  have hl := h.length
  refine ⟨by unfold L2.start startE; simp [hl], fun i p e => ?_⟩
  unfold startE at e
  have hi : i < ps.length := by
    by_cases hi : i < ps.length
    · exact hi
    · rw [List.getElem?_append_right (by simpa using hi), List.getElem?_replicate] at e
      split at e <;> cases e
  rw [List.getElem?_append_left (by simpa using hi), List.getElem?_map] at e
  cases z : ps[i]? with
  | none => rw [z] at e; cases e
  | some q =>
    rw [z] at e
    cases e
    obtain ⟨x, h1, h2⟩ := h.get z
    refine ⟨x, ?_, h2⟩
    unfold L2.start
    rw [List.getElem?_append_left (by rw [List.length_map, hl]; exact hi), List.getElem?_map, h1]
    rfl
theorem fn_ok {x qual : Str} {st : Stmt} {f : Addr} {fd : FuncData} {N ps : List Str} {k n : Nat} {sb : Sx} (F : L2.Fun K x qual st f fd) (S : FnScope N ps (defScope st)) (hn : n = ps.length)
    (hb : ∀ (cdv : Value) (A : Around) (outer : List PySem.Env) (s : Shared) (H : Hp) (E : XK), Room k (A.deeper (PyProof.Rows.envOfC qual (defScope st) s.heap.objs.size f cdv)) →
      RSs cl (cxOf CX0 P w K mg base N qual (defScope st) f cdv A outer s H E).nox (defBody st) sb) : FnOk P w K mg base CX0 (k + 1) f fd ps (SpF K cl n (fnF N.length sb)) := by
  refine F.ok S (fun vs H Q E h => ?_) fun cdv A outer s H vs Q E hr h => ⟨_, hb cdv A outer s H E hr, ?_⟩
  · obtain ⟨ρ, qs, mem, r, h1, h2, h3, h4, h5⟩ := h
    rw [h3.length, h1, hn]
  · obtain ⟨ρ, qs, mem, r, h1, h2, h3, h4, h5⟩ := h
    unfold fnF at h4
    obtain ⟨r1, e1, h4⟩ := Option.bind_eq_some_iff.mp h4
    refine ⟨ρ, _, mem, r1, h2, start_rep N h3, e1, fun ρ1 σ1 H1 x1 m1 E1 => ?_⟩
    obtain ⟨fl, env1, mem1⟩ := r1
    cases fl with
    | nx =>
      obtain rfl := Option.some.inj h4
      exact h5 ρ1 _ H1 x1 m1 (by rw [Rep])
    | rt v =>
      obtain rfl := Option.some.inj h4
      exact fun v' hv => h5 ρ1 v' H1 x1 m1 hv
    | bk => cases h4
    | ct => cases h4
theorem cal_of {x : Str} {f : Addr} {fd : FuncData} {ps : List Str} {k : Nat} {sp : Sp} (h : FnOk P w K mg base CX0 k f fd ps sp) (hm : mg x = some (.ref f)) (kp : PySem.W.keepIn K (.ref f) = true) (b : Binds K fd ps []) : C8.Cal P w K mg base k x sp [] :=
  ⟨f, fd, ps, [], h, hm, kp, b, .nil⟩
theorem met_of {m : Str} {C f : Addr} {fd : FuncData} {ps : List Str} {k : Nat} {sp : Sp} (h : FnOk P w K mg base CX0 k f fd ps sp) (c : Cls K C) (hm : Meth K C m f) (b : Binds K fd ps []) : C8.Met P w K mg base k C m sp [] :=
  ⟨f, fd, ps, [], c, hm, h, b, .nil⟩
theorem mak_of {x : Str} {C f : Addr} {fd : FuncData} {ps : List Str} {k : Nat} {sp : Sp} (h : FnOk P w K mg base CX0 k f fd ps sp) (M : Mk K C f) (hm : mg x = some (.ref C)) (b : Binds K fd ps []) : C8.Mak P w K mg base k x C sp [] :=
  ⟨f, fd, ps, [], M, h, hm, b, .nil⟩
/-- the law's promise, from the function's value at every script -/
def SpLaw (K : PySem.W.Frag) : Sp := fun vs H Q _ => ∃ (a : Addr) (ns : List Int), vs = [.ref a] ∧ SqL K H a (ns.map V.int) ∧ Only H ∧ ns.length ≤ 63 ∧ ∀ H', Q (.bl true) H'
theorem law_sp {F : Fn} (hF : ∀ ns : List Int, ns.length ≤ 63 → ∃ m, F [.ref 0] [.rol (ns.map PV.int)] = some (.bl true, m)) : ∀ vs H Q E, SpLaw K vs H Q E → SpF K cl 1 F vs H Q E := fun vs H Q E ⟨a, ns, e, hS, hO, hl, q⟩ => by
  subst e
  obtain ⟨m, hF⟩ := hF ns hl
  have hrol : (∃ o, H a = some (.frz o (.lst (ns.map V.int)))) ∨ ∀ H', SqL K H' a (ns.map V.int) := by
    rcases hS with (h | ⟨o, h⟩) | h
    · rcases hO a with z | ⟨o, xs, z⟩
      · rw [z] at h; cases h
      · rw [z] at h; cases h
    · exact .inl ⟨o, h⟩
    · exact .inr fun H' => .inr h
  refine ⟨[a], [.ref 0], [.rol (ns.map PV.int)], _, rfl, ⟨rfl, fun i j b o o' h1 h2 h3 h4 h5 h6 => ?_, fun i b o h1 h2 => ?_⟩, .one (by rw [rep_ref]; exact ⟨a, rfl, rfl⟩), hF, fun ρ' v H' x1 m1 p1 => ?_⟩
  · cases i with
    | zero => cases h3; cases h5
    | succ i => cases h3
  · cases i with
    | zero =>
      cases h1; cases h2
      exact ⟨_, hrol, RepL.ints ns⟩
    | succ i => cases h2
  · rw [rep_bl] at p1
    subst p1
    exact q H'
end
end Rf
end

section
set_option Elab.async false
set_option linter.all false
set_option maxRecDepth 100000
set_option autoImplicit false
namespace Rf
open PySem PySem.Spec L2
section
variable {X : Cx} {cl : Nat → Addr}
variable {a b c e o : Expr} {es : List Expr} {pos p apos pos' cpos : Pos} {ma mb mc me mo mi : Ex} {x f : Str} {mA : Ax}
/-! ### in short -/
theorem rv (i : Nat) (hN : X.N[i]? = some x := by rfl) (hv : Vis X.env.scope x := by first | exact Or.inl rfl | exact Or.inr (Or.inl rfl) | exact Or.inr (Or.inr rfl)) (hd : (x == ("__debug__" : Str)) = false := by decide)
    (hcd : (x == ("__classdict__" : Str)) = false := by decide) : RX cl X (.Name x pos) (xVar i) := rx_var hN hv hd hcd
theorem PI.or {tg e : Expr} {t t' : TI} (h : PI X tg e t) (h' : PI X tg e t') : PI X tg e (fun σ H R => t σ H R ∨ t' σ H R) := ⟨fun pins s σ H R I q => q.elim (h.run pins s σ H R I) (h'.run pins s σ H R I)⟩
theorem PG.or {e : Expr} {t t' : TG} (h : PG X e t) (h' : PG X e t') : PG X e (fun v σ H Q => t v σ H Q ∨ t' v σ H Q) := ⟨fun pins s σ H v u Q I r q => q.elim (h.run pins s σ H v u Q I r) (h'.run pins s σ H v u Q I r)⟩
/-- a list, a tuple or a text walked -/
def anyQ (p : PV) (m : Mem) : Option Sq := match p with
  | .tup ps => some ⟨ps, []⟩
  | .str z => some ⟨signsP z, []⟩
  | .ref _ => sqOf p m
  | _ => none
def iAny (a : Ex) : Ix := fun env m => (a env m).bind fun r => (anyQ r.1 r.2).map (·, r.2)
theorem ri_any {tg : Expr} (ha : RX cl X a ma) : RI cl X tg a (iAny ma) :=
  PI.imp (PI.or (ri_list ha) (PI.or (ri_tup ha) (ri_str ha))) fun σ H R ⟨ρ, env, mem, r, hm, hE, h, q⟩ => by
    unfold iAny at h
    obtain ⟨r1, e1, h⟩ := Option.bind_eq_some_iff.mp h
    obtain ⟨s, e2, h⟩ := Option.map_eq_some_iff.mp h
    subst h
    obtain ⟨p, m1⟩ := r1
    cases p with
    | ref i => exact .inl ⟨ρ, env, mem, _, hm, hE, by unfold iSq; rw [e1]; show Option.map _ (sqOf (.ref i) m1) = _; rw [show sqOf (.ref i) m1 = some s from e2]; rfl, q⟩
    | tup ps =>
      obtain rfl := Option.some.inj e2
      exact .inr (.inl ⟨ρ, env, mem, _, hm, hE, by unfold iTp; rw [e1]; rfl, q⟩)
    | str z =>
      obtain rfl := Option.some.inj e2
      exact .inr (.inr ⟨ρ, env, mem, _, hm, hE, by unfold iSt; rw [e1]; rfl, q⟩)
    | _ => cases e2
/-- a, b = a tuple or a list -/
def gSq (n : Nat) (g : Gxs) : Gx := fun p env m => match p with
  | .tup ps => if ps.length = n then g ps env m else none
  | .ref r => match m[r]? with
    | some (.lst ps) => if ps.length = n then g ps env m else none
    | _ => none
  | _ => none
theorem rg_seq {k n : Nat} {gs : Gxs} (hc : X.calm = true) (h : RGs cl X es gs) (hn : (assignEach es X.env).length = n := by rfl) (hst : (assignEach es X.env).findIdx? (·.1) = none := by rfl) : RG cl X (.Tuple es k pos) (gSq n gs) :=
  PG.imp (PG.or (rg_tup hc h hn hst) (rg_unl hc h hn hst)) fun v σ H Q ⟨ρ, p, env, mem, r, hm, hE, hp, h, q⟩ => by
    cases p with
    | tup ps => exact .inl ⟨ρ, _, env, mem, r, hm, hE, hp, h, q⟩
    | ref i => exact .inr ⟨ρ, _, env, mem, r, hm, hE, hp, h, q⟩
    | _ => cases h
theorem m2_of {o e f : Expr} {m : Str} (base : attributeBase o m X.env (eval o X.env) = eval o X.env := by rfl) (few : ((backTo cpos (starEach [e, f] X.env)).all (fun x => !x.1) && (backToKw cpos (keywordEach [] X.env)).all (fun x => x.1.isSome)
    && decide (([e, f] : List Expr).length + ([] : List Keyword).length + (if ([] : List Keyword).isEmpty then 0 else 1) < 30)) = true := by rfl) (line : (apos.endLine == cpos.line) = true := by rfl)
    (trees : backTo cpos (starEach [e, f] X.env) = [(false, eval e X.env), (false, eval f X.env)] := by rfl) : M2 X o m apos e f cpos := ⟨base, few, line, trees⟩
/-- the target of a comprehension -/
theorem pgn (i : Nat) {X : Cx} (hN : X.N.Nodup) (hi : X.N[i]? = some x := by rfl) (hx : Loc X.env.scope x := by first | exact Or.inl rfl | exact Or.inr rfl) (hf : X.fn x = true ∨ X.env.scope.names.lookup x = some .local := by first | exact .inl rfl | exact .inr rfl | assumption) : PG X (.Name x pos) (gName i) := pg_name hN hi hx hf
end
end Rf
end

section
set_option Elab.async false
set_option linter.all false
set_option maxRecDepth 100000
set_option autoImplicit false
namespace Rf
open PySem PySem.Spec L2
/-! enumerate over a tuple as the argument of dict -/
set_option maxHeartbeats 1000000 in
theorem en_new {v : Value} {ob : Obj} {G : Heap → Prop} (B : Begins v ob G) : Meets (Builtin.«enumerate.__new__» ⟨[.type "enumerate", v], []⟩) (fun _ R s => G s.heap ∧ R (.ok (.ret (.ref (s.heap.push ob).objs.size))) { s with heap := (s.heap.push ob).push { cls := .type "enumerate", data := .fields #[.none, .bool false, .ref s.heap.objs.size, rawInt 0, .none, .none] } }) := by
  refine .of_wp fun P w A R s hs => ?_
  obtain ⟨hp, gs, dr, tk, os⟩ := s
  obtain ⟨z1, z2⟩ := hs
  have k1 := sub_enumerate
  have k2 : ∀ {A1 : Around} {E1 : Value → Shared → Prop} {Q1 : Value → Shared → Prop}, Q1 (.ref hp.objs.size) ⟨hp.push ob, gs, dr, tk, os⟩ → wpAny (model P w) A1 (pyIter v) Q1 E1 ⟨hp, gs, dr, tk, os⟩ := fun q => B.iter P w _ _ ⟨hp, gs, dr, tk, os⟩ _ z1 q
  wp_walk using k2
  refine wpAny_stack_any fun st => wpAny_pure ?_
  split
  · rename_i c _ _ _ _ _
    cases (c == Value.type "enumerate") <;> (wp_walk using k2; exact ⟨_, rfl, z2⟩)
  · wp_walk using k2
    exact ⟨_, rfl, z2⟩
section
variable {P : Program} {w : World} {A : Around} {E : Value → Shared → Prop} {s : Shared}
theorem en_call {v : Value} {ob : Obj} {G : Heap → Prop} {Q : Value → Shared → Prop} (B : Begins v ob G) (hG : G s.heap)
    (k : ∀ h1, IsEnum h1 (s.heap.objs.size + 1) s.heap.objs.size 0 .none → h1.get? s.heap.objs.size = some ob → (∀ b o, s.heap.get? b = some o → h1.get? b = some o) → h1.objs.size = s.heap.objs.size + 2 → Q (.ref (s.heap.objs.size + 1)) { s with heap := h1 }) :
    wpAny (model P w) A (call (.type "enumerate") [v]) Q E s := by
  have sz : (s.heap.push ob).objs.size = s.heap.objs.size + 1 := Heap.size_push ..
  refine callType_new F.called_enumerate (by decide) (F.typeCall_enumerate_1 v) (F.newCall_enumerate_1 v) (fun z => F.args_object_init_2 z v) F.entry_enumerate_new (en_new B) ⟨hG, ?_⟩
  generalize hn : ({ cls := .type "enumerate", data := .fields #[.none, .bool false, .ref s.heap.objs.size, rawInt 0, .none, .none] } : Obj) = en
  have g1 : ((s.heap.push ob).push en).get? (s.heap.objs.size + 1) = some en := by
    rw [← sz]
    exact Heap.get?_push_size _ (by rw [← hn]; rfl)
  show _ ∧ _
  rw [sz]
  refine ⟨⟨en, g1, by rw [← hn]⟩, k _ ?_ ?_ ?_ ?_⟩
  · unfold IsEnum
    rw [g1, ← hn]
  · exact Heap.get?_push_of_some _ (Heap.get?_push_size _ B.free)
  · exact fun b o z => Heap.get?_push_of_some _ (Heap.get?_push_of_some _ z)
  · rw [Heap.size_push, sz]
/-- the next pair, an earlier one still out -/
theorem en_next {e it t T : Addr} {i : Nat} {xs : Array Value} {x old : Value} {f : Bool} {oT : Obj} {Q : Value → Shared → Prop} (g : IsEnumHeld s.heap e it i old T f) (gT : s.heap.get? T = some oT) (n1 : T ≠ e) (n2 : T ≠ it) (n3 : e ≠ it)
    (gi : s.heap.IsTupleIter it t i) (gt : s.heap.IsTuple t xs) (gx : xs[i]? = some x)
    (k : ∀ h1, IsEnumHeld h1 e it ((i : Int) + 1) old T true → h1.IsTupleIter it t (i + 1) → h1.get? s.heap.objs.size = some { cls := .type "tuple", data := .seq #[.int i s.toks, x] } →
      (∀ b o, b ≠ e → b ≠ it → s.heap.get? b = some o → h1.get? b = some o) → Q (.ref s.heap.objs.size) { s with heap := h1, toks := s.toks + 1 }) :
    wpAny (model P w) A (Builtin.«enumerate.__next__» ⟨[.ref e], []⟩) (fun fin s' => ∃ v, fin = .done (.ret v) ∧ Q v s') E s := by
  obtain ⟨hp, gs, dr, tk, os⟩ := s
  show wpAny _ _ (field _ 2 >>= _) _ _ _
  refine wpAny_bind (wpAny_field g rfl (x := .ref it) rfl (wpAny_bind (wpAny_nextOf_tuple_item gi gt gx fun m1 i1 b1 => ?_)))
  replace b1 : Heap.SameBut it hp m1 := b1
  have g1 : IsEnumHeld m1 e it i old T f := (b1.2 e n3).trans g
  show wpAny _ _ (field _ 3 >>= _) _ _ ⟨m1, gs, dr, tk, os⟩
  refine wpAny_bind (wpAny_field g1 rfl (x := rawInt i) rfl ?_)
  show wpAny _ _ (field _ 4 >>= _) _ _ ⟨m1, gs, dr, tk, os⟩
  refine wpAny_bind (wpAny_field g1 rfl (x := .none) rfl ?_)
  show wpAny _ _ (mkInt i >>= _) _ _ ⟨m1, gs, dr, tk, os⟩
  refine wpAny_bind (wpAny_mkInt ?_)
  show wpAny _ _ (setField _ 3 (rawInt (i + 1)) >>= _) _ _ ⟨m1, gs, dr, tk + 1, os⟩
  refine wpAny_bind (wpAny_setField_rec g1 (by simp) fun m2 g2 b2 => ?_)
  replace b2 : Heap.SameBut e m1 m2 := b2
  replace g2 : IsEnumHeld m2 e it ((i : Int) + 1) old T f := g2
  show wpAny _ _ (setField _ 4 .none >>= _) _ _ ⟨m2, gs, dr, tk + 1, os⟩
  refine wpAny_bind (wpAny_setField_rec g2 (by simp) fun m3 g3 b3 => ?_)
  replace b3 : Heap.SameBut e m2 m3 := b3
  replace g3 : IsEnumHeld m3 e it ((i : Int) + 1) old T f := g3
  have sz : m3.objs.size = hp.objs.size := by rw [b3.1, b2.1, b1.1]
  have k3 : ∀ b o, b ≠ e → b ≠ it → hp.get? b = some o → m3.get? b = some o := fun b o y1 y2 y => b3.extBut b o y1 (b2.extBut b o y1 (b1.extBut b o y2 y))
  have i3 : m3.IsTupleIter it t (i + 1) := (i1.extBut b2.extBut n3.symm).extBut b3.extBut n3.symm
  show wpAny _ _ (newTuple [.int i tk, x] >>= _) _ _ ⟨m3, gs, dr, tk + 1, os⟩
  refine wpAny_bind (wpAny_newTuple ?_)
  generalize hn : ({ cls := .type "tuple", data := .seq #[.int i tk, x] } : Obj) = np
  have g4 : IsEnumHeld (m3.push np) e it ((i : Int) + 1) old T f := Heap.get?_push_of_some _ g3
  have gT4 : (m3.push np).get? T = some oT := Heap.get?_push_of_some _ (k3 T oT n1 n2 gT)
  have t4 : (m3.push np).get? hp.objs.size = some np := by
    rw [← sz]
    exact Heap.get?_push_size _ (by rw [← hn]; rfl)
  have el : e < hp.objs.size := Heap.lt_size g
  show wpAny _ _ (Builtin.SmallTypes.ownedTupleIsFree _ >>= _) _ _ ⟨m3.push np, gs, dr, tk + 1, os⟩
  rw [sz]
  refine wpAny_bind (wpAny_tupleHeld_enum (s := ⟨m3.push np, gs, dr, tk + 1, os⟩) g4 gT4 fun m5 g5 b5 => ?_)
  replace b5 : Heap.SameBut e (m3.push np) m5 := b5
  simp only [Bool.false_eq_true, if_false]
  refine wpAny_pure ⟨_, rfl, k m5 g5 ?_ ?_ ?_⟩
  · obtain ⟨o, ho, hr⟩ := i3
    exact ⟨o, b5.extBut it o n3.symm (Heap.get?_push_of_some _ ho), hr⟩
  · rw [hn]
    exact b5.extBut _ _ (Nat.ne_of_gt el) t4
  · exact fun b o y1 y2 y => b5.extBut b o y1 (Heap.get?_push_of_some _ (k3 b o y1 y2 y))
theorem en_next_py {e it t T : Addr} {i : Nat} {xs : Array Value} {x old : Value} {f : Bool} {oT : Obj} {Q : Option Value → Shared → Prop} (g : IsEnumHeld s.heap e it i old T f) (gT : s.heap.get? T = some oT) (n1 : T ≠ e) (n2 : T ≠ it) (n3 : e ≠ it)
    (gi : s.heap.IsTupleIter it t i) (gt : s.heap.IsTuple t xs) (gx : xs[i]? = some x)
    (k : ∀ h1, IsEnumHeld h1 e it ((i : Int) + 1) old T true → h1.IsTupleIter it t (i + 1) → h1.get? s.heap.objs.size = some { cls := .type "tuple", data := .seq #[.int i s.toks, x] } →
      (∀ b o, b ≠ e → b ≠ it → s.heap.get? b = some o → h1.get? b = some o) → Q (some (.ref s.heap.objs.size)) { s with heap := h1, toks := s.toks + 1 }) :
    wpAny (model P w) A (pyNext (.ref e)) Q E s := by
  have ty : s.TypeIs (.ref e) "enumerate" := ⟨_, g, rfl⟩
  unfold pyNext
  refine wpAny_bind (wpAny_attempt (wpAny_callSpecial?_slot ty F.slot_enumerate_next (wpAny_call_entry F.slot_enumerate_next ty F.entry_enumerate_next ?_ (F.args_enumerate_next_1 _))))
  exact en_next g gT n1 n2 n3 gi gt gx fun h1 a1 a2 a3 a4 => wpAny_pure (k h1 a1 a2 a3 a4)
theorem en_end_py {e it t T : Addr} {i : Nat} {xs : Array Value} {old : Value} {f : Bool} {Q : Option Value → Shared → Prop} (hh : A.handled = none) (g : IsEnumHeld s.heap e it i old T f) (gi : s.heap.IsTupleIter it t i) (gt : s.heap.IsTuple t xs) (gx : xs[i]? = none)
    (k : ∀ h1, Heap.ExtBut it s.heap h1 → Q none { s with heap := h1 }) : wpAny (model P w) A (pyNext (.ref e)) Q E s := by
  have ty : s.TypeIs (.ref e) "enumerate" := ⟨_, g, rfl⟩
  unfold pyNext
  refine wpAny_bind (wpAny_attempt (wpAny_callSpecial?_slot ty F.slot_enumerate_next (wpAny_call_entry F.slot_enumerate_next ty F.entry_enumerate_next ?_ (F.args_enumerate_next_1 _))))
  show wpAny _ _ (field _ 2 >>= _) _ _ _
  refine wpAny_bind (wpAny_field g rfl (x := .ref it) rfl (wpAny_bind (wpAny_nextOf_tuple_end hh gi gt gx fun h1 y z1 z2 => ?_)))
  obtain ⟨o, ho, hc⟩ := z2
  exact wpAny_bind (wpAny_isInstance (T := "StopIteration") (b := true) ⟨o, ho, hc⟩ isSubtype_stop (wpAny_pure (k _ z1)))
end
section
variable {P : Program} {w : World}
theorem en_arg (e it t : Addr) (n1 : e ≠ it) (n2 : t ≠ e) (n3 : t ≠ it) (xs : Array Value) :
    PairArg P w "enumerate" e [e, it, t] [e, it] xs.size (fun i k v => (∃ u, k = .int i u) ∧ xs[i]? = some v) (fun h => (∃ old, IsEnum h e it 0 old) ∧ h.IsTupleIter it t 0 ∧ h.IsTuple t xs) where
  type := fun s q => by
    obtain ⟨⟨_, g⟩, _⟩ := q
    exact ⟨_, g, rfl⟩
  notDict := by decide
  keep := fun h h1 q k => by
    obtain ⟨⟨old, g⟩, gi, gt⟩ := q
    exact ⟨⟨old, k e _ g⟩, gi.at fun o => k it o, gt.at fun o => k t o⟩
  there := fun h q b hb => by
    obtain ⟨⟨old, g⟩, ⟨o1, g1, _⟩, ⟨o2, g2, _⟩⟩ := q
    have y : b = e ∨ b = it ∨ b = t := by simpa using hb
    rcases y with y | y | y <;> rw [y]
    · exact ⟨_, g⟩
    · exact ⟨o1, g1⟩
    · exact ⟨o2, g2⟩
  sub := fun b hb => by
    have y : b = e ∨ b = it := by simpa using hb
    rcases y with y | y <;> simp [y]
  noKeys := fun A s Q E hA q k => by
    obtain ⟨⟨_, g⟩, _⟩ := q
    exact getAttrOr_miss_enumerate g rfl rfl rfl enumerate_no_keys (by decide +kernel) hA k
  iter := fun A s d Q E hA q hd hdf k => by
    obtain ⟨⟨old, g⟩, gi, gt⟩ := q
    have y : d ≠ e ∧ d ≠ it ∧ d ≠ t := by simpa using hdf
    obtain ⟨y1, y2, y3⟩ := y
    have src : PairSrc P w A e d [e, it] xs.size (fun i k v => (∃ u, k = .int i u) ∧ xs[i]? = some v)
        (fun i h => (h.IsTupleIter it t i ∧ h.IsTuple t xs) ∧ ((∃ old, IsEnum h e it i old) ∨ ∃ old T f oT, IsEnumHeld h e it i old T f ∧ h.get? T = some oT ∧ T ≠ e ∧ T ≠ it ∧ T ≠ d)) := {
      off := by simpa using And.intro y1 y2
      frame := fun i h h1 st kp => by
        obtain ⟨⟨gi, gt⟩, g⟩ := st
        refine ⟨⟨gi.at fun o => kp it o y2.symm, gt.at fun o => kp t o y3.symm⟩, ?_⟩
        rcases g with ⟨old, g⟩ | ⟨old, T, f, oT, g, gT, r1, r2, r3⟩
        · exact .inl ⟨old, kp e _ y1.symm g⟩
        · exact .inr ⟨old, T, f, oT, kp e _ y1.symm g, kp T _ r3 gT, r1, r2, r3⟩
      item := fun i s1 Q1 E1 hi st hds k1 => by
        obtain ⟨⟨gi, gt⟩, g⟩ := st
        have gx := Array.getElem?_eq_getElem hi
        have cast : ((i + 1 : Nat) : Int) = (i : Int) + 1 := rfl
        have ni : s1.heap.objs.size ≠ it := by
          obtain ⟨o, z, _⟩ := gi
          exact Nat.ne_of_gt (Heap.lt_size z)
        have out : ∀ b, b ∉ [e, it] → b ≠ e ∧ b ≠ it := fun b hb => by simpa using hb
        rcases g with ⟨old, g⟩ | ⟨old, T, f, oT, g, gT, r1, r2, r3⟩
        · refine wpAny_pyNext_enum_itemC (Draws.tuple (A := A.in1) hA it t n3 xs) g ⟨gi, gt⟩ hi n1 (by simpa using And.intro n1 n2.symm) fun x h1 tk a1 a2 a3 a4 a5 a6 => ?_
          refine k1 s1.heap.objs.size (.int i tk) x h1 (tk + 1) ⟨⟨tk, rfl⟩, a1⟩ (.inl ⟨_, a4, rfl, _, rfl⟩) ⟨a3, .inr ⟨x, s1.heap.objs.size, false, _, by rw [cast]; exact a2, a4, Nat.ne_of_gt (Heap.lt_size g), ni, Nat.ne_of_gt hds⟩⟩ fun b o hb z => a6 b o (out b hb).1 (out b hb).2 z
        · refine en_next_py g gT r1 r2 n1 gi gt gx fun h1 a1 a2 a3 a4 => ?_
          refine k1 s1.heap.objs.size (.int i s1.toks) _ h1 (s1.toks + 1) ⟨⟨s1.toks, rfl⟩, gx⟩ (.inl ⟨_, a3, rfl, _, rfl⟩) ⟨⟨a2, gt.at fun o => a4 t o n2 n3⟩, .inr ⟨old, T, true, oT, by rw [cast]; exact a1, a4 T oT r1 r2 gT, r1, r2, r3⟩⟩ fun b o hb z => a4 b o (out b hb).1 (out b hb).2 z
      done := fun s1 Q1 E1 st k1 => by
        obtain ⟨⟨gi, gt⟩, g⟩ := st
        have out : ∀ b, b ∉ [e, it] → b ≠ it := fun b hb => (show b ≠ e ∧ b ≠ it by simpa using hb).2
        rcases g with ⟨old, g⟩ | ⟨old, T, f, oT, g, gT, r1, r2, r3⟩
        · exact wpAny_pyNext_enum_endD (Draws.tuple (A := A.in1) hA it t n3 xs) g ⟨gi, gt⟩ fun h1 z => k1 h1 s1.toks fun b o hb y => z b o (out b hb) y
        · exact en_end_py hA g gi gt (Array.getElem?_eq_none (Nat.le_refl _)) fun h1 z => k1 h1 s1.toks fun b o hb y => z b o (out b hb) y }
    exact wpAny_pyIter_enum g (k e [e, it] _ s.heap s.toks src ⟨⟨gi, gt⟩, .inl ⟨old, g⟩⟩ (fun _ _ z => z) fun b hb => .inl hb)
end

/-- the pairs (index, item) from an index on -/
def enD {α : Type} : Nat → List α → List (Key × α)
  | _, [] => []
  | i, p :: ps => (.inl (i : Int), p) :: enD (i + 1) ps
theorem enD_at {α : Type} : ∀ (ps : List α) (i j : Nat), (enD i ps)[j]? = ps[j]?.map fun p => (.inl ((i + j : Nat) : Int), p)
  | [], i, j => by simp [enD]
  | p :: ps, i, 0 => by simp [enD]
  | p :: ps, i, j + 1 => by
    unfold enD
    rw [List.getElem?_cons_succ, List.getElem?_cons_succ, enD_at ps, show i + 1 + j = i + (j + 1) by omega]
theorem enD_size {α : Type} : ∀ (ps : List α) (i : Nat), (enD i ps).length = ps.length
  | [], _ => rfl
  | _ :: ps, i => by unfold enD; rw [List.length_cons, List.length_cons, enD_size ps]
theorem enD_kv : ∀ {xs : List V} {us : List Value} (i : Nat), Vals xs us → KV (enD i xs) (enD i us) := by
  intro xs us i h
  unfold Vals at h
  induction h generalizing i with
  | nil => exact .nil
  | cons h t ih => exact .cons ⟨rfl, h⟩ (ih (i + 1))
theorem enD_repF {K : PySem.W.Frag} {ρ : List Addr} {H : Hp} : ∀ {ps : List PV} {xs : List V} (i : Nat), RepL K ρ H ps xs → RepF K ρ H (enD i ps) (enD i xs) := by
  intro ps
  induction ps with
  | nil =>
    intro xs i h
    unfold RepL at h
    subst h
    exact .nil
  | cons p ps ih =>
    intro xs i h
    unfold RepL at h
    obtain ⟨x, r, rfl, h1, h2⟩ := h
    exact .cons ⟨rfl, h1⟩ (ih (i + 1) h2)
theorem enD_new : ∀ (xs : List V) (i : Nat) (acc : List (Key × V)), (∀ q ∈ acc, ∃ j : Nat, j < i ∧ q.1 = .inl (j : Int)) → mergeK acc (enD i xs) = acc ++ enD i xs
  | [], i, acc, _ => by unfold enD mergeK; simp
  | x :: xs, i, acc, h => by
    have no : acc.any (fun kv => decide (kv.1 = (.inl (i : Int) : Key))) = false := by
      rw [List.any_eq_false]
      intro q hq y
      obtain ⟨j, hj, e⟩ := h q hq
      have z := of_decide_eq_true y
      rw [e] at z
      have := Sum.inl.inj z
      omega
    have ih := enD_new xs (i + 1) (acc ++ [(.inl (i : Int), x)]) fun q hq => by
      rcases List.mem_append.mp hq with hq | hq
      · obtain ⟨j, hj, e⟩ := h q hq
        exact ⟨j, by omega, e⟩
      · rw [List.mem_singleton.mp hq]
        exact ⟨i, by omega, rfl⟩
    unfold enD
    show mergeK (putK acc (.inl (i : Int)) x) (enD (i + 1) xs) = _
    unfold putK
    rw [no, if_neg Bool.false_ne_true, ih, List.append_assoc]
    rfl
section
variable {X : Cx} {cl : Nat → Addr}
variable {a b c e o : Expr} {es : List Expr} {pos p apos pos' cpos : Pos} {ma mb mc me mo mi : Ex} {x f : Str} {mA : Ax}
theorem pe_dictenum {ta : TE} {p1 p2 p3 p4 : Pos} (hc : X.calm = true) (hg : Gl X "dict") (hm : X.mg "dict" = none) (hg2 : Gl X "enumerate") (hm2 : X.mg "enumerate" = none) (ha : PE X a ta)
    (hs1 : starEach [a] X.env = (false, eval a X.env) :: starEach [] X.env) (hs2 : starEach [.Call (.Name "enumerate" p2) [a] [] p3] X.env = (false, eval (.Call (.Name "enumerate" p2) [a] [] p3) X.env) :: starEach [] X.env) :
    PE X (.Call (.Name "dict" p1) [.Call (.Name "enumerate" p2) [a] [] p3] [] p4) (fun σ H Q => ta σ H fun x H1 => ∃ t xs, x = .ref t ∧ SqT X.K H1 t xs ∧ ∀ p, H1 p = none → Q (.ref p) (upd H1 p (.dK (enD 0 xs)))) := by
  refine ⟨fun pins s σ H Q I h => ?_⟩
  refine wpAny_Call_Name_kw (ld_blt I hg hm PyProof.Rows.boot_dict ?_)
  refine PyProof.Rows.callWith_type1 ?_ hs2 rfl
  rw [hs2]
  show wpAny _ _ (spliced ((false, eval (.Call (.Name "enumerate" p2) [a] [] p3) X.env) :: backTo p4 (starEach [] X.env))) _ _ s
  refine Calls.spliced_cons ?_
  refine wpAny_Call_Name_kw (ld_blt I hg2 hm2 PyProof.Rows.boot_enumerate ?_)
  refine PyProof.Rows.callWith_type1 ?_ hs1 rfl
  rw [hs1]
  show wpAny _ _ (spliced ((false, eval a X.env) :: backTo p3 (starEach [] X.env))) _ _ s
  refine Calls.spliced_cons (thn (ha.run pins s σ H _ I h) fun u s1 ⟨x, H1, I1, rx, t, xs, ex, hq, q⟩ => Calls.spliced_nil ?_)
  subst ex
  obtain rfl : u = Value.ref t := rx
  obtain ⟨its, rv, ht, hz⟩ := I1.tuple hq
  have tl : t < s1.heap.objs.size := by
    obtain ⟨o, ho, _⟩ := ht
    exact Heap.lt_size ho
  refine en_call (begins_tuple t its.toArray) ht fun h1 g1 g2 k1 sz => Calls.spliced_nil ?_
  have sz0 : s1.heap.objs.size + 1 ≠ s1.heap.objs.size := Nat.succ_ne_self _
  refine call_dict_pairs (knd := mixKind X.prog X.w) (kvs := enD 0 its) (s := { s1 with heap := h1 }) (en_arg (s1.heap.objs.size + 1) s1.heap.objs.size t sz0 (Nat.ne_of_lt (Nat.lt_succ_of_lt tl)) (Nat.ne_of_lt tl) its.toArray) (I1.ok.hd hc)
    ⟨⟨.none, g1⟩, ⟨_, g2, rfl, rfl⟩, ht.keeps k1⟩ ⟨by rw [enD_size, List.size_toArray], fun i key v hr => ?_⟩ (by rw [List.size_toArray, ← rv.length]; exact hz) fun h2 tk hd k2 => ?_
  · obtain ⟨⟨y, rfl⟩, hv⟩ := hr
    refine ⟨.inl (i : Int), ?_, ?_⟩
    · rw [enD_at, Nat.zero_add]
      rw [List.getElem?_toArray] at hv
      rw [hv]
      rfl
    · simp [mixKind, keyIs, Value.isInt]
  · have hd0 : (h1.objs.size == sysModules) = false := beq_eq_false_iff_ne.mpr (Nat.ne_of_gt (Nat.lt_of_lt_of_le I1.big (by rw [sz]; exact Nat.le_add_right _ _)))
    have em : mergeK [] (enD 0 xs) = enD 0 xs := by
      rw [enD_new xs 0 [] (fun q hq => nomatch hq)]
      rfl
    have kk : ∀ b o, s1.heap.get? b = some o → h2.get? b = some o := fun b o y => k2 b o (fun z => by
      have lt := Heap.lt_size y
      have z' : b = s1.heap.objs.size + 1 ∨ b = s1.heap.objs.size := by simpa using z
      rcases z' with z' | z' <;> rw [z'] at lt
      · exact absurd lt (Nat.not_lt.mpr (Nat.le_succ _))
      · exact absurd lt (Nat.lt_irrefl _)) (k1 b o y)
    have lo : s1.heap.objs.size ≤ h1.objs.size := by omega
    exact ⟨.ref h1.objs.size, upd H1 h1.objs.size (.dK (enD 0 xs)), I1.laid (t' := tk) kk lo (show ObjOk X.prog X.w _ _ _ (.dK (enD 0 xs)) from ⟨by rw [enD_size]; exact hz, hd0, merged [] (enD 0 its), by rw [← em]; exact KV.merge (enD_kv 0 rv) .nil, hd⟩), rfl, q _ (I1.hok.fresh lo)⟩
/-- dict(enumerate(t)), t a tuple -/
def dictEnG : PV → Mem → Option (PV × Mem)
  | .tup ps, m => some (.ref m.length, m ++ [.dic (enD 0 ps)])
  | _, _ => none
theorem new_dic {ρ : List Addr} {H : Hp} {mem : Mem} {kws : List (Key × V)} {kvs : List (Key × PV)} {p : Addr} (hm : RelM X.K cl ρ H mem) (h : RepF X.K ρ H kvs kws) (hp : H p = none) : Ext X.K ρ H (ρ ++ [p]) (upd H p (.dK kws)) ∧ RelM X.K cl (ρ ++ [p]) (upd H p (.dK kws)) (mem ++ [.dic kvs]) ∧ Rep X.K (ρ ++ [p]) (upd H p (.dK kws)) (.ref mem.length) (.ref p) := by
  have e : Ext X.K ρ H (ρ ++ [p]) (upd H p (.dK kws)) := ext_new hp _
  refine ⟨e, hm.alloc hp ⟨kws, upd_same, e.repF h⟩, ?_⟩
  rw [rep_ref]
  exact ⟨p, by rw [← hm.len]; simp, rfl⟩
theorem rx_dictenum {p1 p2 p3 p4 : Pos} (hc : X.calm = true) (hg : Gl X "dict") (hm : X.mg "dict" = none) (hg2 : Gl X "enumerate") (hm2 : X.mg "enumerate" = none) (ha : RX cl X a ma)
    (hs1 : starEach [a] X.env = (false, eval a X.env) :: starEach [] X.env := by rfl) (hs2 : starEach [.Call (.Name "enumerate" p2) [a] [] p3] X.env = (false, eval (.Call (.Name "enumerate" p2) [a] [] p3) X.env) :: starEach [] X.env := by rfl) :
    RX cl X (.Call (.Name "dict" p1) [.Call (.Name "enumerate" p2) [a] [] p3] [] p4) (x1 dictEnG ma) := PE.imp (pe_dictenum hc hg hm hg2 hm2 ha hs1 hs2) fun σ H Q h => by
  obtain ⟨ρ, env, mem, r, hm, he, h, k⟩ := h
  unfold x1 at h
  obtain ⟨r1, h1, h2⟩ := Option.bind_eq_some_iff.mp h
  refine ⟨ρ, env, mem, r1, hm, he, h1, fun ρ1 x H1 e1 m1 p1 => ?_⟩
  obtain ⟨q, mem1⟩ := r1
  replace h2 : dictEnG q mem1 = some r := h2
  replace p1 : Rep X.K ρ1 H1 q x := p1
  replace m1 : RelM X.K cl ρ1 H1 mem1 := m1
  unfold dictEnG at h2
  split at h2
  · rename_i ps
    cases h2
    rw [rep_tup] at p1
    obtain ⟨t, xs, rfl, z1, z2⟩ := p1
    refine ⟨t, xs, rfl, z1.t, fun p hp => ?_⟩
    obtain ⟨y1, y2, y3⟩ := new_dic m1 (enD_repF 0 z2) hp
    exact k _ _ _ (e1.trans y1) y2 y3
  · cases h2
end
end Rf
end

section
set_option Elab.async false
set_option linter.all false
set_option maxRecDepth 100000
set_option autoImplicit false
namespace Rf
open L2
/-! ### how the functions are reckoned: one rule a combinator, the scrutinee first -/
section
variable {env : Env} {m : Mem} {a b : Ex} {mA : Ax} {ta tb : Tx} {sa sb : Sx} {i n C : Nat} {F : Fn}
theorem e_var : xVar i env m = match env[i]? with
  | some (some p) => some (p, m)
  | _ => none := rfl
theorem e_c {p : PV} : xC p env m = some (p, m) := rfl
theorem e_1 {g : PV → Mem → Option (PV × Mem)} : x1 g a env m = (a env m).bind fun r => g r.1 r.2 := rfl
theorem e_2 {g : PV → PV → Mem → Option (PV × Mem)} : x2 g a b env m = (a env m).bind fun r => (b env r.2).bind fun s => g r.1 s.1 s.2 := rfl
theorem e_A {g : List PV → Mem → Option (PV × Mem)} : xA g mA env m = (mA env m).bind fun r => g r.1 r.2 := rfl
theorem e_aNil : aNil env m = some ([], m) := rfl
theorem e_aCons : aCons a mA env m = (a env m).bind fun x => (mA env x.2).bind fun xs => some (x.1 :: xs.1, xs.2) := rfl
theorem e_call : xCall n F mA env m = (mA env m).bind fun r => if r.1.length = n then F r.1 r.2 else none := rfl
theorem e_bl : tBl a env m = (a env m).bind fun r => match r.1 with
  | .bl b => some (b, r.2)
  | _ => none := rfl
theorem e_tru : tTru a env m = (a env m).bind fun r => (truG r.1 r.2).map fun k => (k, r.2) := rfl
theorem e_nt : tNt ta env m = (ta env m).map fun r => (!r.1, r.2) := rfl
theorem e_an : tAn ta tb env m = (ta env m).bind fun r => if r.1 = true then tb env r.2 else some (false, r.2) := rfl
theorem e_or : tOr' ta tb env m = (ta env m).bind fun r => if r.1 = true then some (true, r.2) else tb env r.2 := rfl
theorem e_ys : tYs env m = some (true, m) := rfl
theorem e_xnt : xNt a env m = (a env m).bind fun r => match r.1 with
  | .bl b => some (.bl (!b), r.2)
  | _ => none := rfl
theorem e_xan : xAn a b env m = (a env m).bind fun r => match r.1 with
  | .bl k => if k = true then b env r.2 else some (.bl false, r.2)
  | _ => none := rfl
theorem e_xor : xOr a b env m = (a env m).bind fun r => match r.1 with
  | .bl k => if k = true then some (.bl true, r.2) else b env r.2
  | _ => none := rfl
theorem e_xif : xIf ta a b env m = (ta env m).bind fun r => if r.1 = true then a env r.2 else b env r.2 := rfl
theorem e_oNone : oNone env m = some (none, m) := rfl
theorem e_oSome : oSome a env m = (a env m).bind fun r => match r.1 with
  | .int i => some (some i, r.2)
  | _ => none := rfl
theorem e_sl {lo hi : Ox} : xSl a lo hi env m = (a env m).bind fun r => (lo env r.2).bind fun s => (hi env s.2).bind fun t => slG r.1 s.1 t.1 t.2 := rfl
theorem e_nx : sNx env m = some (.nx, env, m) := rfl
theorem e_brk : sBk env m = some (.bk, env, m) := rfl
theorem e_cnt : sCt env m = some (.ct, env, m) := rfl
theorem e_sq : sSq sa sb env m = (sa env m).bind fun r => match r.1 with
  | .nx => sb r.2.1 r.2.2
  | _ => some r := rfl
theorem e_ex : sEx a env m = (a env m).bind fun r => some (.nx, env, r.2) := rfl
theorem e_rt : sRt a env m = (a env m).bind fun r => some (.rt r.1, env, r.2) := rfl
theorem e_rn : sRn env m = some (.rt .non, env, m) := rfl
theorem e_if : sIf ta sa sb env m = (ta env m).bind fun r => if r.1 = true then sa env r.2 else sb env r.2 := rfl
theorem e_as {g : Gx} : sAs a g env m = (a env m).bind fun r => (g r.1 env r.2).bind fun s => some (.nx, s.1, s.2) := rfl
theorem e_nm {p : PV} : gNm i p env m = some (env.set i (some p), m) := rfl
theorem e_gix {o k : Ex} {p : PV} : gIx o k p env m = (o env m).bind fun r => (k env r.2).bind fun s => (setG r.1 s.1 p s.2).map fun m' => (env, m') := rfl
theorem e_gsNil : gsNil [] env m = some (env, m) := rfl
theorem e_gsCons {g : Gx} {r : Gxs} {p : PV} {qs : List PV} : gsCons g r (p :: qs) env m = (g p env m).bind fun s => r qs s.1 s.2 := rfl
theorem e_gseqT {g : Gxs} {ps : List PV} : gSq n g (.tup ps) env m = if ps.length = n then g ps env m else none := rfl
theorem e_gseqR {g : Gxs} {k : Nat} : gSq n g (.ref k) env m = match m[k]? with
  | some (.lst ps) => if ps.length = n then g ps env m else none
  | _ => none := rfl
theorem e_fd {f : PySem.Str} {o v : Ex} : sFd C f o v env m = (v env m).bind fun r => (o env r.2).bind fun s => match s.1 with
  | .ref i => match s.2[i]? with
    | some (.ins c fs) => if c = C ∧ fs.length < 1000 then some (.nx, env, s.2.set i (.ins c (putFP f r.1 fs))) else none
    | _ => none
  | _ => none := rfl
theorem e_for {it : Ix} {g : Gx} : sFor it g sa env m = (it env m).bind fun r => if okG r.1.guard r.2 = true then forL g sa r.1.guard r.1.items env r.2 else none := rfl
theorem e_any : iAny a env m = (a env m).bind fun r => (anyQ r.1 r.2).map (·, r.2) := rfl
theorem e_rg : iRg mA env m = (mA env m).bind fun r => (rngG r.1).map (·, r.2) := rfl
theorem e_en : iEn mA env m = (mA env m).bind fun r => (enG r.1 r.2).map (·, r.2) := rfl
theorem e_zp : iZp mA env m = (mA env m).bind fun r => (zipG r.1 r.2).map (·, r.2) := rfl
theorem e_lc {vs : List Nat} {it : Ix} : xLc vs it i ta a env m = (it env m).bind fun r => if okG r.1.guard r.2 = true ∧ (∀ g ∈ r.1.guard, g.1 < r.2.length) then
    (lcL i ta a r.1.guard r.2.length (wipeE env vs) r.1.items (r.2 ++ [.lst []]) []).bind fun s => some (.ref r.2.length, s.2) else none := rfl
theorem e_m {chk : PV → Mem → Bool} {g : Mg} : xM chk g a mA env m = (a env m).bind fun r => if chk r.1 r.2 = true then (mA env r.2).bind fun s => g r.1 s.1 s.2 else none := rfl
theorem e_get {k v : Ex} : xGet a k v env m = (a env m).bind fun r => if (dicB r.1 r.2).isSome = true then (k env r.2).bind fun s => (v env s.2).bind fun t => (dicB r.1 t.2).bind fun kvs => (keyOf s.1).map fun kk => ((valP kvs kk).getD t.1, t.2) else none := rfl
theorem e_meth {f : PySem.Str} : xMeth C f n F a mA env m = (a env m).bind fun r => if insG C f r.1 r.2 = true then (mA env r.2).bind fun s => if s.1.length = n then F (r.1 :: s.1) s.2 else none else none := rfl
theorem e_make : xMake C n F mA env m = (mA env m).bind fun r => if r.1.length = n then (F (.ref r.2.length :: r.1) (r.2 ++ [.ins C []])).bind fun s => match s.1 with
  | .non => some (.ref r.2.length, s.2)
  | _ => none else none := rfl
theorem e_fn {N : Nat} {ps : List PV} : fnF N sa ps m = (sa (startE N ps) m).bind fun r => match r.1 with
  | .nx => some (.non, r.2.2)
  | .rt v => some (v, r.2.2)
  | _ => none := rfl
theorem ix_int {k : Int} {ps : List PV} : seqAt ps (.int k) m = (atI ps k).map (·, m) := rfl
theorem ix_t {ps : List PV} {q : PV} : ixG (.tup ps) q m = seqAt ps q m := rfl
theorem ix_r {k : Nat} {q : PV} : ixG (.ref k) q m = match m[k]? with
    | some (.lst ps) => seqAt ps q m
    | some (.rol ps) => seqAt ps q m
    | some (.dic kvs) => (keyOf q).bind fun k => (valP kvs k).map (·, m)
    | _ => none := rfl
theorem set_r {k : Nat} {q v : PV} : setG (.ref k) q v m = match m[k]? with
    | some (.lst ps) => match q with
      | .int i => (ixN ps.length i).map fun j => m.set k (.lst (ps.set j v))
      | _ => none
    | some (.dic kvs) => if kvs.length < PySem.sizeLine then (keyOf q).map fun j => m.set k (.dic (putP kvs j v)) else none
    | _ => none := rfl
theorem ixN_at {n : Nat} {i : Int} (h : 0 ≤ i) (h2 : i < n) : ixN n i = some i.toNat := by unfold ixN; rw [if_pos h, if_pos h2]
theorem atI_at {α : Type} {xs : List α} {i : Int} (h : 0 ≤ i) : atI xs i = xs[i.toNat]? := by
  unfold atI ixN
  rw [if_pos h]
  by_cases h2 : i < xs.length
  · rw [if_pos h2]; rfl
  · rw [if_neg h2, List.getElem?_eq_none (by omega)]; rfl
end
section
variable {α : Type} {xs : List α}
theorem atI_0 : atI xs 0 = xs[0]? := atI_at (by decide)
theorem atI_1 : atI xs 1 = xs[1]? := atI_at (by decide)
theorem atI_2 : atI xs 2 = xs[2]? := atI_at (by decide)
theorem atI_3 : atI xs 3 = xs[3]? := atI_at (by decide)
theorem atI_4 : atI xs 4 = xs[4]? := atI_at (by decide)
theorem atI_last' {y : α} : atI (xs ++ [y]) (-1) = some y := L2.atI_last xs y
theorem ixN_0 {n : Nat} : ixN (n + 1) 0 = some 0 := by rw [ixN_at (by decide) (by omega)]; rfl
theorem ixN_1 {n : Nat} : ixN (n + 2) 1 = some 1 := by rw [ixN_at (by decide) (by omega)]; rfl
theorem ixN_2 {n : Nat} : ixN (n + 3) 2 = some 2 := by rw [ixN_at (by decide) (by omega)]; rfl
theorem ixN_3 {n : Nat} : ixN (n + 4) 3 = some 3 := by rw [ixN_at (by decide) (by omega)]; rfl
end
theorem e_fld {C : Nat} {f : PySem.Str} {i : Nat} {m : Mem} : fldG C f (.ref i) m = match m[i]? with
    | some (.ins c fs) => if c = C then (fs.lookup f).map (·, m) else none
    | _ => none := rfl
theorem e_forN {g : Gx} {b : Sx} {gd : List (Nat × Ob)} {env : Env} {m : Mem} : forL g b gd [] env m = some (.nx, env, m) := rfl
theorem e_forC {g : Gx} {b : Sx} {gd : List (Nat × Ob)} {p : PV} {ps : List PV} {env : Env} {m : Mem} : forL g b gd (p :: ps) env m = (g p env m).bind fun r => (b r.1 r.2).bind fun s => match s.1 with
    | .nx => if okG gd s.2.2 = true then forL g b gd ps s.2.1 s.2.2 else none
    | .ct => if okG gd s.2.2 = true then forL g b gd ps s.2.1 s.2.2 else none
    | .bk => some (.nx, s.2)
    | .rt _ => some s := rfl
theorem okG_1 {k : Nat} {o : Ob} {m : Mem} : okG [(k, o)] m = decide (m[k]? = some o) := by simp [okG]
theorem gapp0 {m l : Mem} : (m ++ l)[m.length]? = l[0]? := by rw [List.getElem?_append_right (Nat.le_refl _), Nat.sub_self]
theorem gapp {m l : Mem} {k : Nat} : (m ++ l)[m.length + k]? = l[k]? := by rw [List.getElem?_append_right (Nat.le_add_right _ _), Nat.add_sub_cancel_left]
theorem PX_nog {n : Nat} : (∀ g ∈ ([] : List (Nat × Ob)), g.1 < n) = True := by simp
theorem PX_wipe {env : Env} {v : Nat} : wipeE env [v] = env.set v none := rfl
end Rf
end

section
set_option maxRecDepth 100000
namespace Gen
theorem sne : ¬ ("add" : PySem.Str) = "and" ∧ ¬ ("add" : PySem.Str) = "less" ∧ ¬ ("add" : PySem.Str) = "load" ∧ ¬ ("add" : PySem.Str) = "mul" ∧ ¬ ("add" : PySem.Str) = "out" ∧ ¬ ("add" : PySem.Str) = "store" ∧ ¬ ("add" : PySem.Str) = "sub" ∧ ¬ ("add" : PySem.Str) = "reg" ∧ ¬ ("add" : PySem.Str) = "int" ∧ ¬ ("add" : PySem.Str) = "loop" ∧ ¬ ("add" : PySem.Str) = "cell" ∧ ¬ ("add" : PySem.Str) = "registers" ∧ ¬ ("add" : PySem.Str) = "cells" ∧ ¬ ("add" : PySem.Str) = "outputs" ∧ ¬ ("and" : PySem.Str) = "add" ∧ ¬ ("and" : PySem.Str) = "less" ∧ ¬ ("and" : PySem.Str) = "load" ∧ ¬ ("and" : PySem.Str) = "mul" ∧ ¬ ("and" : PySem.Str) = "out" ∧ ¬ ("and" : PySem.Str) = "store" ∧ ¬ ("and" : PySem.Str) = "sub" ∧ ¬ ("and" : PySem.Str) = "reg" ∧ ¬ ("and" : PySem.Str) = "int" ∧ ¬ ("and" : PySem.Str) = "loop" ∧ ¬ ("and" : PySem.Str) = "cell" ∧ ¬ ("and" : PySem.Str) = "registers" ∧ ¬ ("and" : PySem.Str) = "cells" ∧ ¬ ("and" : PySem.Str) = "outputs" ∧ ¬ ("less" : PySem.Str) = "add" ∧ ¬ ("less" : PySem.Str) = "and" ∧ ¬ ("less" : PySem.Str) = "load" ∧ ¬ ("less" : PySem.Str) = "mul" ∧ ¬ ("less" : PySem.Str) = "out" ∧ ¬ ("less" : PySem.Str) = "store" ∧ ¬ ("less" : PySem.Str) = "sub" ∧ ¬ ("less" : PySem.Str) = "reg" ∧ ¬ ("less" : PySem.Str) = "int" ∧ ¬ ("less" : PySem.Str) = "loop" ∧ ¬ ("less" : PySem.Str) = "cell" ∧ ¬ ("less" : PySem.Str) = "registers" ∧ ¬ ("less" : PySem.Str) = "cells" ∧ ¬ ("less" : PySem.Str) = "outputs" ∧ ¬ ("load" : PySem.Str) = "add" ∧ ¬ ("load" : PySem.Str) = "and" ∧ ¬ ("load" : PySem.Str) = "less" ∧ ¬ ("load" : PySem.Str) = "mul" ∧ ¬ ("load" : PySem.Str) = "out" ∧ ¬ ("load" : PySem.Str) = "store" ∧ ¬ ("load" : PySem.Str) = "sub" ∧ ¬ ("load" : PySem.Str) = "reg" ∧ ¬ ("load" : PySem.Str) = "int" ∧ ¬ ("load" : PySem.Str) = "loop" ∧ ¬ ("load" : PySem.Str) = "cell" ∧ ¬ ("load" : PySem.Str) = "registers" ∧ ¬ ("load" : PySem.Str) = "cells" ∧ ¬ ("load" : PySem.Str) = "outputs" ∧ ¬ ("mul" : PySem.Str) = "add" ∧ ¬ ("mul" : PySem.Str) = "and" ∧ ¬ ("mul" : PySem.Str) = "less" ∧ ¬ ("mul" : PySem.Str) = "load" ∧ ¬ ("mul" : PySem.Str) = "out" ∧ ¬ ("mul" : PySem.Str) = "store" ∧ ¬ ("mul" : PySem.Str) = "sub" ∧ ¬ ("mul" : PySem.Str) = "reg" ∧ ¬ ("mul" : PySem.Str) = "int" ∧ ¬ ("mul" : PySem.Str) = "loop" ∧ ¬ ("mul" : PySem.Str) = "cell" ∧ ¬ ("mul" : PySem.Str) = "registers" ∧ ¬ ("mul" : PySem.Str) = "cells" ∧ ¬ ("mul" : PySem.Str) = "outputs" ∧ ¬ ("out" : PySem.Str) = "add" ∧ ¬ ("out" : PySem.Str) = "and" ∧ ¬ ("out" : PySem.Str) = "less" ∧ ¬ ("out" : PySem.Str) = "load" ∧ ¬ ("out" : PySem.Str) = "mul" ∧ ¬ ("out" : PySem.Str) = "store" ∧ ¬ ("out" : PySem.Str) = "sub" ∧ ¬ ("out" : PySem.Str) = "reg" ∧ ¬ ("out" : PySem.Str) = "int" ∧ ¬ ("out" : PySem.Str) = "loop" ∧ ¬ ("out" : PySem.Str) = "cell" ∧ ¬ ("out" : PySem.Str) = "registers" ∧ ¬ ("out" : PySem.Str) = "cells" ∧ ¬ ("out" : PySem.Str) = "outputs" ∧ ¬ ("store" : PySem.Str) = "add" ∧ ¬ ("store" : PySem.Str) = "and" ∧ ¬ ("store" : PySem.Str) = "less" ∧ ¬ ("store" : PySem.Str) = "load" ∧ ¬ ("store" : PySem.Str) = "mul" ∧ ¬ ("store" : PySem.Str) = "out" ∧ ¬ ("store" : PySem.Str) = "sub" ∧ ¬ ("store" : PySem.Str) = "reg" ∧ ¬ ("store" : PySem.Str) = "int" ∧ ¬ ("store" : PySem.Str) = "loop" ∧ ¬ ("store" : PySem.Str) = "cell" ∧ ¬ ("store" : PySem.Str) = "registers" ∧ ¬ ("store" : PySem.Str) = "cells" ∧ ¬ ("store" : PySem.Str) = "outputs" ∧ ¬ ("sub" : PySem.Str) = "add" ∧ ¬ ("sub" : PySem.Str) = "and" ∧ ¬ ("sub" : PySem.Str) = "less" ∧ ¬ ("sub" : PySem.Str) = "load" ∧ ¬ ("sub" : PySem.Str) = "mul" ∧ ¬ ("sub" : PySem.Str) = "out" ∧ ¬ ("sub" : PySem.Str) = "store" ∧ ¬ ("sub" : PySem.Str) = "reg" ∧ ¬ ("sub" : PySem.Str) = "int" ∧ ¬ ("sub" : PySem.Str) = "loop" ∧ ¬ ("sub" : PySem.Str) = "cell" ∧ ¬ ("sub" : PySem.Str) = "registers" ∧ ¬ ("sub" : PySem.Str) = "cells" ∧ ¬ ("sub" : PySem.Str) = "outputs" ∧ ¬ ("reg" : PySem.Str) = "add" ∧ ¬ ("reg" : PySem.Str) = "and" ∧ ¬ ("reg" : PySem.Str) = "less" ∧ ¬ ("reg" : PySem.Str) = "load" ∧ ¬ ("reg" : PySem.Str) = "mul" ∧ ¬ ("reg" : PySem.Str) = "out" ∧ ¬ ("reg" : PySem.Str) = "store" ∧ ¬ ("reg" : PySem.Str) = "sub" ∧ ¬ ("reg" : PySem.Str) = "int" ∧ ¬ ("reg" : PySem.Str) = "loop" ∧ ¬ ("reg" : PySem.Str) = "cell" ∧ ¬ ("reg" : PySem.Str) = "registers" ∧ ¬ ("reg" : PySem.Str) = "cells" ∧ ¬ ("reg" : PySem.Str) = "outputs" ∧ ¬ ("int" : PySem.Str) = "add" ∧ ¬ ("int" : PySem.Str) = "and" ∧ ¬ ("int" : PySem.Str) = "less" ∧ ¬ ("int" : PySem.Str) = "load" ∧ ¬ ("int" : PySem.Str) = "mul" ∧ ¬ ("int" : PySem.Str) = "out" ∧ ¬ ("int" : PySem.Str) = "store" ∧ ¬ ("int" : PySem.Str) = "sub" ∧ ¬ ("int" : PySem.Str) = "reg" ∧ ¬ ("int" : PySem.Str) = "loop" ∧ ¬ ("int" : PySem.Str) = "cell" ∧ ¬ ("int" : PySem.Str) = "registers" ∧ ¬ ("int" : PySem.Str) = "cells" ∧ ¬ ("int" : PySem.Str) = "outputs" ∧ ¬ ("loop" : PySem.Str) = "add" ∧ ¬ ("loop" : PySem.Str) = "and" ∧ ¬ ("loop" : PySem.Str) = "less" ∧ ¬ ("loop" : PySem.Str) = "load" ∧ ¬ ("loop" : PySem.Str) = "mul" ∧ ¬ ("loop" : PySem.Str) = "out" ∧ ¬ ("loop" : PySem.Str) = "store" ∧ ¬ ("loop" : PySem.Str) = "sub" ∧ ¬ ("loop" : PySem.Str) = "reg" ∧ ¬ ("loop" : PySem.Str) = "int" ∧ ¬ ("loop" : PySem.Str) = "cell" ∧ ¬ ("loop" : PySem.Str) = "registers" ∧ ¬ ("loop" : PySem.Str) = "cells" ∧ ¬ ("loop" : PySem.Str) = "outputs" ∧ ¬ ("cell" : PySem.Str) = "add" ∧ ¬ ("cell" : PySem.Str) = "and" ∧ ¬ ("cell" : PySem.Str) = "less" ∧ ¬ ("cell" : PySem.Str) = "load" ∧ ¬ ("cell" : PySem.Str) = "mul" ∧ ¬ ("cell" : PySem.Str) = "out" ∧ ¬ ("cell" : PySem.Str) = "store" ∧ ¬ ("cell" : PySem.Str) = "sub" ∧ ¬ ("cell" : PySem.Str) = "reg" ∧ ¬ ("cell" : PySem.Str) = "int" ∧ ¬ ("cell" : PySem.Str) = "loop" ∧ ¬ ("cell" : PySem.Str) = "registers" ∧ ¬ ("cell" : PySem.Str) = "cells" ∧ ¬ ("cell" : PySem.Str) = "outputs" ∧ ¬ ("registers" : PySem.Str) = "add" ∧ ¬ ("registers" : PySem.Str) = "and" ∧ ¬ ("registers" : PySem.Str) = "less" ∧ ¬ ("registers" : PySem.Str) = "load" ∧ ¬ ("registers" : PySem.Str) = "mul" ∧ ¬ ("registers" : PySem.Str) = "out" ∧ ¬ ("registers" : PySem.Str) = "store" ∧ ¬ ("registers" : PySem.Str) = "sub" ∧ ¬ ("registers" : PySem.Str) = "reg" ∧ ¬ ("registers" : PySem.Str) = "int" ∧ ¬ ("registers" : PySem.Str) = "loop" ∧ ¬ ("registers" : PySem.Str) = "cell" ∧ ¬ ("registers" : PySem.Str) = "cells" ∧ ¬ ("registers" : PySem.Str) = "outputs" ∧ ¬ ("cells" : PySem.Str) = "add" ∧ ¬ ("cells" : PySem.Str) = "and" ∧ ¬ ("cells" : PySem.Str) = "less" ∧ ¬ ("cells" : PySem.Str) = "load" ∧ ¬ ("cells" : PySem.Str) = "mul" ∧ ¬ ("cells" : PySem.Str) = "out" ∧ ¬ ("cells" : PySem.Str) = "store" ∧ ¬ ("cells" : PySem.Str) = "sub" ∧ ¬ ("cells" : PySem.Str) = "reg" ∧ ¬ ("cells" : PySem.Str) = "int" ∧ ¬ ("cells" : PySem.Str) = "loop" ∧ ¬ ("cells" : PySem.Str) = "cell" ∧ ¬ ("cells" : PySem.Str) = "registers" ∧ ¬ ("cells" : PySem.Str) = "outputs" ∧ ¬ ("outputs" : PySem.Str) = "add" ∧ ¬ ("outputs" : PySem.Str) = "and" ∧ ¬ ("outputs" : PySem.Str) = "less" ∧ ¬ ("outputs" : PySem.Str) = "load" ∧ ¬ ("outputs" : PySem.Str) = "mul" ∧ ¬ ("outputs" : PySem.Str) = "out" ∧ ¬ ("outputs" : PySem.Str) = "store" ∧ ¬ ("outputs" : PySem.Str) = "sub" ∧ ¬ ("outputs" : PySem.Str) = "reg" ∧ ¬ ("outputs" : PySem.Str) = "int" ∧ ¬ ("outputs" : PySem.Str) = "loop" ∧ ¬ ("outputs" : PySem.Str) = "cell" ∧ ¬ ("outputs" : PySem.Str) = "registers" ∧ ¬ ("outputs" : PySem.Str) = "cells" := by
  (repeat' apply And.intro) <;> decide +kernel
theorem strb : (("registers" : PySem.Str) == "cells") = false ∧ (("registers" : PySem.Str) == "outputs") = false ∧ (("cells" : PySem.Str) == "registers") = false ∧ (("cells" : PySem.Str) == "outputs") = false ∧ (("outputs" : PySem.Str) == "registers") = false ∧ (("outputs" : PySem.Str) == "cells") = false ∧ (("registers" : PySem.Str) == "registers") = true ∧ (("cells" : PySem.Str) == "cells") = true ∧ (("outputs" : PySem.Str) == "outputs") = true := by
  (repeat' apply And.intro) <;> decide +kernel
theorem snb : (("worth" : PySem.Str) == "registers") = false ∧ (("worth" : PySem.Str) == "cells") = false ∧ (("worth" : PySem.Str) == "outputs") = false ∧ (("execute" : PySem.Str) == "registers") = false ∧ (("execute" : PySem.Str) == "cells") = false ∧ (("execute" : PySem.Str) == "outputs") = false ∧ (("execute_loop" : PySem.Str) == "registers") = false ∧ (("execute_loop" : PySem.Str) == "cells") = false ∧ (("execute_loop" : PySem.Str) == "outputs") = false ∧ (("told" : PySem.Str) == "registers") = false ∧ (("told" : PySem.Str) == "cells") = false ∧ (("told" : PySem.Str) == "outputs") = false := by
  (repeat' apply And.intro) <;> decide +kernel
end Gen
end

section
set_option Elab.async false
set_option linter.all false
set_option maxRecDepth 100000
set_option autoImplicit false
namespace Rf
open PySem PySem.Spec L2
/-! zip of two sequences, each a list or a tuple -/
def SqX (k : Bool) (K : PySem.W.Frag) (H : Hp) (a : Addr) (xs : List V) : Prop := if k = true then SqT K H a xs else SqL K H a xs
def IterX (k : Bool) (h : Heap) (it a : Addr) (i : Nat) : Prop := if k = true then h.IsTupleIter it a i else h.IsListIter it a i
def SeqX (k : Bool) (h : Heap) (a : Addr) (its : Array Value) : Prop := if k = true then h.IsTuple a its else h.IsList a its
def itO (k : Bool) (a : Addr) : Obj := if k = true then { cls := .type "tuple_iterator", data := .fields #[.ref a, .int 0 0] } else { cls := .type "list_iterator", data := .fields #[.ref a, .int 0 0] }
theorem begins_x (k : Bool) (a : Addr) (its : Array Value) : Begins (.ref a) (itO k a) fun h => SeqX k h a its := by
  cases k
  · exact begins_list a its
  · exact begins_tuple a its
theorem draws_x {P : Program} {w : World} {A : Around} (k : Bool) (hh : A.handled = none) (it a : Addr) (ne : a ≠ it) (its : Array Value) : Draws P w A it [it, a] its.size (fun i v => its[i]? = some v) (fun i h => IterX k h it a i ∧ SeqX k h a its) := by
  cases k
  · exact Draws.list hh it a ne its
  · exact Draws.tuple hh it a ne its
theorem IterX.there {k : Bool} {h : Heap} {it a : Addr} {i : Nat} (x : IterX k h it a i) : ∃ o, h.get? it = some o ∧ ∀ v, o.data ≠ .cell v := by
  cases k
  · obtain ⟨o, z, _, d⟩ := x
    exact ⟨o, z, fun v q => by rw [d] at q; cases q⟩
  · obtain ⟨o, z, _, d⟩ := x
    exact ⟨o, z, fun v q => by rw [d] at q; cases q⟩
theorem IterX.keep {k : Bool} {h h' : Heap} {it a : Addr} {i : Nat} (x : IterX k h it a i) (q : ∀ o, h.get? it = some o → h'.get? it = some o) : IterX k h' it a i := by
  cases k
  · obtain ⟨o, z, r⟩ := x
    exact ⟨o, q o z, r⟩
  · obtain ⟨o, z, r⟩ := x
    exact ⟨o, q o z, r⟩
theorem iterX_new {k : Bool} {h : Heap} {it a : Addr} (x : h.get? it = some (itO k a)) : IterX k h it a 0 := by
  cases k
  · exact ⟨_, x, rfl, rfl⟩
  · exact ⟨_, x, rfl, rfl⟩
section
variable {X : Cx} {pins : List (Addr × Obj)} {σ : L2.St} {H : Hp} {s : Shared}
theorem sqX_at {k : Bool} {a : Addr} {xs : List V} (I : L2.Inv X pins σ H s) (h : SqX k X.K H a xs) : ∃ its : List Value, Vals xs its ∧ SeqX k s.heap a its.toArray ∧ a < s.heap.objs.size := by
  cases k
  · obtain ⟨its, rv, pl, _⟩ := I.list h
    exact ⟨its, rv, pl.isList, pl.lt⟩
  · obtain ⟨its, rv, pl, _⟩ := I.tuple h
    obtain ⟨o, z, _⟩ := id pl
    exact ⟨its, rv, pl, Heap.lt_size z⟩
theorem sqX_inj {k : Bool} {a : Addr} {xs ys : List V} (I : L2.Inv X pins σ H s) (h : SqX k X.K H a xs) (h' : SqX k X.K H a ys) : xs = ys := by
  cases k
  · exact I.list_inj h h'
  · exact I.tuple_inj h h'
end
def ItzX (K : PySem.W.Frag) (k l : Bool) (a b : Addr) : It :=
  ⟨fun i H => ∃ (xs ys : List V) (x y : V), SqX k K H a xs ∧ SqX l K H b ys ∧ xs[i]? = some x ∧ ys[i]? = some y,
    fun i H v H' => ∃ T x y, v = .ref T ∧ H T = none ∧ (∃ ob : Obj, ob.dict = none ∧ H' = upd H T (.frz ob (.tup [x, y]))) ∧ (∀ xs, SqX k K H a xs → xs[i]? = some x) ∧ (∀ ys, SqX l K H b ys → ys[i]? = some y),
    fun i H => ∃ xs ys : List V, SqX k K H a xs ∧ SqX l K H b ys ∧ i = min xs.length ys.length⟩
def zcells (z TI TO i1 i2 : Addr) : List Addr := [z, TI, TO, i1, i2]
theorem zc_mem {c z TI TO i1 i2 : Addr} (h : c ∈ zcells z TI TO i1 i2) : c = z ∨ c = TI ∨ c = TO ∨ c = i1 ∨ c = i2 := by simpa [zcells] using h
theorem zc_out {c z TI TO i1 i2 : Addr} (h : ¬ c ∈ zcells z TI TO i1 i2) : c ≠ z ∧ c ≠ TI ∧ c ≠ TO ∧ c ≠ i1 ∧ c ≠ i2 := by simpa [zcells, not_or] using h
theorem turn_zx {P : Program} {w : World} {K : PySem.W.Frag} {es : List Expr} {n : Nat} {ps : Pos} {k l : Bool} {a b z TI TO i1 i2 : Addr} (S : ZipSep2 z TI TO i1 i2 [i1, a] [i2, b]) (na : a ≠ i1) (nb : b ≠ i2) :
    Turn P w K (.Tuple es n ps) (ItzX K k l a b) (zcells z TI TO i1 i2) z (fun i h => IsZip h z TI TO .none ∧ IsTupOf2 h TI (.ref i1) (.ref i2) ∧ (∃ x y, IsTupOf2 h TO x y) ∧ IterX k h i1 a i ∧ IterX l h i2 b i) where
  mem := by simp [zcells]
  obj := fun i h st c hc => by
    obtain ⟨h1, h2, ⟨x, y, h3⟩, h4, h5⟩ := st
    rcases zc_mem hc with q | q | q | q | q <;> rw [q]
    · exact ⟨_, h1, nofun⟩
    · exact ⟨_, h2, nofun⟩
    · exact ⟨_, h3, nofun⟩
    · exact h4.there
    · exact h5.there
  keep := fun i h h' st q => by
    obtain ⟨h1, h2, ⟨x, y, h3⟩, h4, h5⟩ := st
    have m : ∀ c, c = z ∨ c = TI ∨ c = TO ∨ c = i1 ∨ c = i2 → c ∈ zcells z TI TO i1 i2 := fun c hc => by simpa [zcells] using hc
    exact ⟨q z (m z (.inl rfl)) _ h1, q TI (m TI (.inr (.inl rfl))) _ h2, ⟨x, y, q TO (m TO (.inr (.inr (.inl rfl)))) _ h3⟩, h4.keep (q i1 (m i1 (.inr (.inr (.inr (.inl rfl)))))), h5.keep (q i2 (m i2 (.inr (.inr (.inr (.inr rfl))))))⟩
  item := by
    intro X e1 e2 e3 hc i pins s σ H E I fo st go
    subst e1 e2 e3
    obtain ⟨h1, h2, ⟨x, y, h3⟩, h4, h5⟩ := st
    obtain ⟨xs, ys, p, q, sx, sy, gx, gy⟩ := go
    obtain ⟨us, ru, au, _⟩ := sqX_at I sx
    obtain ⟨vs, rv, av, _⟩ := sqX_at I sy
    obtain ⟨u, hu, ru1⟩ := ru.get gx
    obtain ⟨v, hv, rv1⟩ := rv.get gy
    have lu : i < us.toArray.size := by rw [List.size_toArray]; exact (List.getElem?_eq_some_iff.mp hu).1
    have lv : i < vs.toArray.size := by rw [List.size_toArray]; exact (List.getElem?_eq_some_iff.mp hv).1
    have hd := I.ok.hd hc
    have zl : z < s.heap.objs.size := Heap.lt_size h1
    refine wpAny_pyNext_zipD2_item S (draws_x (A := X.A.in1) k hd i1 a na us.toArray) (draws_x (A := X.A.in1) l hd i2 b nb vs.toArray) h1 h2 h3 ⟨h4, au⟩ ⟨h5, av⟩ lu lv fun u1 v1 m tk gu gv k1 k2 k3 k4 k5 k6 k7 => ?_
    rw [List.getElem?_toArray, hu] at gu
    rw [List.getElem?_toArray, hv] at gv
    cases gu
    cases gv
    refine ⟨_, rfl, wpAny_letOwnedTupleGo_zip (s := { s with heap := m, toks := tk }) k1 fun m2 j1 sb => ?_⟩
    have keep : ∀ c ob, ¬ c ∈ zcells z TI TO i1 i2 → s.heap.get? c = some ob → m2.get? c = some ob := fun c ob hn hq => by
      obtain ⟨n1, n2, n3, n4, n5⟩ := zc_out hn
      exact (sb.2 c n1).trans (k7 c ob n1 n3 n4 n5 hq)
    have new2 : m2.get? s.heap.objs.size = some { cls := .type "tuple", data := .seq #[u, v] } := (sb.2 _ (Nat.ne_of_gt zl)).trans k5
    have ob : ObjOk X.prog X.w (upd H s.heap.objs.size (.frz { cls := .type "tuple", data := .seq #[u, v] } (.tup [p, q]))) m2 s.heap.objs.size (.frz { cls := .type "tuple", data := .seq #[u, v] } (.tup [p, q])) := ⟨new2, (by decide : 2 ≤ sizeLine), [u, v], .cons ru1 (.cons rv1 .nil), ⟨_, new2, rfl, _, rfl⟩⟩
    refine ⟨.ref s.heap.objs.size, upd H s.heap.objs.size (.frz { cls := .type "tuple", data := .seq #[u, v] } (.tup [p, q])), I.turnedNew (t' := tk) keep fo (Nat.le_refl _) ob, rfl, ?_, ?_, fun c hcm => ?_⟩
    · exact ⟨_, p, q, rfl, I.hok.fresh (Nat.le_refl _), ⟨_, rfl, rfl⟩, fun ws hw => by rw [sqX_inj I hw sx]; exact gx, fun ws hw => by rw [sqX_inj I hw sy]; exact gy⟩
    · refine ⟨j1, (sb.2 TI S.TIz).trans (k7 TI _ S.TIz S.TITO S.TIi1 S.TIi2 h2), ⟨u, v, (sb.2 TO S.TOz).trans k2⟩, k3.1.keep fun o => ?_, k4.1.keep fun o => ?_⟩
      · exact fun g => (sb.2 i1 S.zi1.symm).trans g
      · exact fun g => (sb.2 i2 S.zi2.symm).trans g
    · have lt : c < s.heap.objs.size := by
        rcases zc_mem hcm with q | q | q | q | q <;> rw [q]
        · exact zl
        · exact Heap.lt_size h2
        · exact Heap.lt_size h3
        · obtain ⟨o, g, _⟩ := h4.there; exact Heap.lt_size g
        · obtain ⟨o, g, _⟩ := h5.there; exact Heap.lt_size g
      rw [upd_ne (Nat.ne_of_lt lt)]
      exact (fo c hcm).1
  done := by
    intro X e1 e2 e3 hc i pins s σ H E I fo st go
    subst e1 e2 e3
    obtain ⟨h1, h2, ⟨x, y, h3⟩, h4, h5⟩ := st
    obtain ⟨xs, ys, sx, sy, hi⟩ := go
    obtain ⟨us, ru, au, _⟩ := sqX_at I sx
    obtain ⟨vs, rv, av, _⟩ := sqX_at I sy
    have l1 := ru.length
    have l2 := rv.length
    have hd := I.ok.hd hc
    refine wpAny_pyNext_zipD2_end S (draws_x (A := X.A.in1) k hd i1 a na us.toArray) (draws_x (A := X.A.in1) l hd i2 b nb vs.toArray) h1 h2 h3 ⟨h4, au⟩ ⟨h5, av⟩ (by rw [List.size_toArray]; omega) (by rw [List.size_toArray]; omega) (by rw [List.size_toArray, List.size_toArray]; omega) fun m tk k7 => ?_
    refine ⟨rfl, I.turnedL (t' := tk) (ch := zcells z TI TO i1 i2) (fun c ob hn hq => ?_) fo⟩
    obtain ⟨n1, n2, n3, n4, n5⟩ := zc_out hn
    exact k7 c ob n1 n3 n4 n5 hq
  self := fun A i s Q E st h => wpAny_pyIter_zip st.1 h
def iZx (K : PySem.W.Frag) (ta : TA) : TI := fun σ H R => ta σ H fun vs H1 => ∃ k l a b xs ys, vs = [.ref a, .ref b] ∧ SqX k K H1 a xs ∧ SqX l K H1 b ys ∧ R (ItzX K k l a b) H1
theorem pi_zx {X : Cx} {e f : Expr} {ta : TA} {p pos tp : Pos} {es : List Expr} {n : Nat} (hg : Gl X "zip") (hm : X.mg "zip" = none) (ha : PA X [e, f] ta) (hs : starEach [e, f] X.env = (false, eval e X.env) :: starEach [f] X.env := by rfl)
    (hpl : (backTo pos (starEach [f] X.env)).any (·.1) = false := by rfl) : PI X (.Tuple es n tp) (.Call (.Name "zip" p) [e, f] [] pos) (iZx X.K ta) := by
  refine ⟨fun pins s σ H R I h => wpAny_Call_Name_kw (ld_blt I hg hm PyProof.Rows.boot_zip (PyProof.Rows.callWith_type1 (thn (ha.run pos pins s σ H _ I h) fun us s1 ⟨vs, H1, I1, r, q⟩ => ?_) hs hpl))⟩
  obtain ⟨k, l, a, b, xs, ys, rfl, sx, sy, q⟩ := q
  obtain ⟨u, v, rfl, r1, r2⟩ := vals2 r
  obtain rfl : u = Value.ref a := r1
  obtain rfl : v = Value.ref b := r2
  obtain ⟨us, ru, au, la⟩ := sqX_at I1 sx
  obtain ⟨vs, rv, av, lb⟩ := sqX_at I1 sy
  refine zip_begins2 (begins_x k a us.toArray) (begins_x l b vs.toArray) au av fun m h1 h2 h3 g1 g2 sz kp => wpAny_pyIter_zip h1 ?_
  generalize hN : s1.heap.objs.size = N at *
  have S : ZipSep2 (N + 4) (N + 2) (N + 3) N (N + 1) [N, a] [N + 1, b] := zip_sep2 (fp1 := [a]) (fp2 := [b]) (by simpa using la) (by simpa using lb)
  refine ⟨N + 4, zcells (N + 4) (N + 2) (N + 3) N (N + 1), _, _, H1, rfl, I1.kept (t' := s1.toks) kp, turn_zx (k := k) (l := l) (a := a) (b := b) S (Nat.ne_of_lt la) (Nat.ne_of_lt (Nat.lt_succ_of_lt lb)), ⟨h1, h2, ⟨_, _, h3⟩, iterX_new g1, iterX_new g2⟩, fun c hc => ?_, q⟩
  have lo : s1.heap.objs.size ≤ c := by
    rw [hN]
    rcases zc_mem hc with q | q | q | q | q <;> rw [q]
    · exact Nat.le_add_right _ _
    · exact Nat.le_add_right _ _
    · exact Nat.le_add_right _ _
    · exact Nat.le_refl _
    · exact Nat.le_add_right _ _
  exact I1.fpOk lo (I1.hok.fresh lo)
end Rf
end

section
set_option Elab.async false
set_option linter.all false
set_option maxRecDepth 100000
set_option autoImplicit false
namespace Rf
open PySem PySem.Spec L2
section
variable {X : Cx} {cl : Nat → Addr}
variable {a b c e o : Expr} {es : List Expr} {pos p apos pos' cpos : Pos} {ma mb mc me mo mi : Ex} {x f : Str} {mA : Ax}
/-! ### zip, any two sequences -/
def seqQ (p : PV) (m : Mem) : Option Sq := match p with
  | .tup ps => some ⟨ps, []⟩
  | .ref _ => sqOf p m
  | _ => none
theorem seqQ_ok {ρ : List Addr} {H : Hp} {m : Mem} {p : PV} {x : V} {s : Sq} (hm : RelM X.K cl ρ H m) (hp : Rep X.K ρ H p x) (h : seqQ p m = some s) : ∃ k a, x = .ref a ∧ okG s.guard m = true ∧ (∃ xs, SqX k X.K H a xs) ∧
    ∀ (ρ' : List Addr) (H' : Hp) (m' : Mem), Ext X.K ρ H ρ' H' → RelM X.K cl ρ' H' m' → okG s.guard m' = true → ∃ xs, SqX k X.K H' a xs ∧ RepL X.K ρ' H' s.items xs := by
  cases p with
  | tup ps =>
    cases h
    rw [rep_tup] at hp
    obtain ⟨a, xs, rfl, h1, h2⟩ := hp
    replace h1 := h1.t
    exact ⟨true, a, rfl, rfl, ⟨xs, h1⟩, fun ρ' H' m' e1 _ _ => ⟨xs, e1.tup _ _ h1, e1.repL _ _ h2⟩⟩
  | ref i =>
    obtain ⟨a, rfl, k1, ⟨xs, z1⟩, w1⟩ := sqOf_ok hm hp (show sqOf (.ref i) m = some s from h)
    exact ⟨false, a, rfl, k1, ⟨xs, z1⟩, w1⟩
  | _ => cases h
def zipX : List PV → Mem → Option Sq
  | [p, q], m => (seqQ p m).bind fun s => (seqQ q m).map fun t => ⟨(s.items.zip t.items).map fun z => .tup [z.1, z.2], s.guard ++ t.guard⟩
  | _, _ => none
def iZx' (a : Ax) : Ix := fun env m => (a env m).bind fun r => (zipX r.1 r.2).map (·, r.2)
theorem ri_zipX {elts : List Expr} {kk : Nat} {tpos : Pos} (hg : Gl X "zip") (hm : X.mg "zip" = none) (ha : RA cl X [a, b] mA) (hs : starEach [a, b] X.env = (false, eval a X.env) :: starEach [b] X.env := by rfl) (hpl : (backTo pos (starEach [b] X.env)).any (·.1) = false := by rfl) :
    RI cl X (.Tuple elts kk tpos) (.Call (.Name "zip" p) [a, b] [] pos) (iZx' mA) := PI.imp (pi_zx hg hm ha hs hpl) fun σ H R ⟨ρ, env, mem, r, hm, hE, h, q⟩ => by
  unfold iZx' at h
  obtain ⟨r1, e1, h⟩ := Option.bind_eq_some_iff.mp h
  obtain ⟨s, e2, h⟩ := Option.map_eq_some_iff.mp h
  subst h
  refine ⟨ρ, env, mem, r1, hm, hE, e1, fun ρ1 vs H1 x1 m1 p1 => ?_⟩
  unfold zipX at e2
  split at e2
  · rename_i p q' hpq
    obtain ⟨s1, e3, e2⟩ := Option.bind_eq_some_iff.mp e2
    obtain ⟨s2, e4, e2⟩ := Option.map_eq_some_iff.mp e2
    subst e2
    rw [hpq] at p1
    obtain ⟨x, xs, rfl, i1, i2⟩ := p1.inv
    obtain ⟨y, ys, rfl, i3, i4⟩ := i2.inv
    obtain rfl := i4.inv0
    obtain ⟨k, a, rfl, k1, ⟨us, z1⟩, w1⟩ := seqQ_ok m1 i1 e3
    obtain ⟨l, b, rfl, k2, ⟨ws, z2⟩, w2⟩ := seqQ_ok m1 i3 e4
    refine ⟨k, l, a, b, us, ws, rfl, z1, z2, q ρ1 H1 _ x1 m1 (okG_append.mpr ⟨k1, k2⟩) ⟨fun ρ' H' m i p x2 m2 k hi => ?_, fun ρ' H' m x2 m2 k => ?_⟩⟩
    · obtain ⟨ka, kb⟩ := okG_append.mp k
      obtain ⟨as, a1, a2⟩ := w1 ρ' H' m x2 m2 ka
      obtain ⟨bs, b1, b2⟩ := w2 ρ' H' m x2 m2 kb
      simp only [List.getElem?_map, Option.map_eq_some_iff] at hi
      obtain ⟨⟨u, w⟩, c1, c2⟩ := hi
      rw [List.getElem?_zip_eq_some] at c1
      obtain ⟨x, a3, a4⟩ := a2.get c1.1
      obtain ⟨y, b3, b4⟩ := b2.get c1.2
      refine ⟨⟨as, bs, x, y, a1, b1, a3, b3⟩, fun v H'' ⟨T, x', y', e1, e2, ⟨ob, hob, e3⟩, e4, e5⟩ => ?_⟩
      subst e1 e3 c2
      obtain rfl := Option.some.inj ((e4 as a1).symm.trans a3)
      obtain rfl := Option.some.inj ((e5 bs b1).symm.trans b3)
      exact new_tup hob m2 (.cons a4 (.cons b4 .nil)) e2
    · obtain ⟨ka, kb⟩ := okG_append.mp k
      obtain ⟨as, a1, a2⟩ := w1 ρ' H' m x2 m2 ka
      obtain ⟨bs, b1, b2⟩ := w2 ρ' H' m x2 m2 kb
      refine ⟨as, bs, a1, b1, ?_⟩
      simp only [List.length_map, List.length_zip]
      rw [a2.length, b2.length]
  · cases e2
/-! ### methods of texts -/
def splitG : Mg := fun p xs m => match p, xs with
  | .str a, [.str b] => if (b.length == 0) = false ∧ a.length + 2 ≤ sizeLine then some (.ref m.length, m ++ [.lst ((Txt.split a b).map PV.str)]) else none
  | _, _ => none
theorem repL_strs {K : PySem.W.Frag} {ρ : List Addr} {H : Hp} : ∀ ys : List Str, RepL K ρ H (ys.map PV.str) (ys.map V.str)
  | [] => .nil
  | y :: ys => .cons (by rw [rep_str]) (repL_strs ys)
theorem mx_split : MtR X "str.split" (GM X.K cl splitG) := by
  intro pins s σ H x xs v us Q I rx rs ⟨ρ, p, ps, mem, r, hm, hp, hps, h, k⟩
  unfold splitG at h
  split at h
  · rename_i a b
    split at h
    · rename_i hc
      obtain rfl := Option.some.inj h
      rw [rep_str] at hp
      subst hp
      obtain ⟨w, ws, rfl, i1, i2⟩ := hps.inv
      obtain rfl := i2.inv0
      rw [rep_str] at i1
      subst i1
      refine mt_split pins s σ H _ _ v us Q I rx rs ⟨a, b, rfl, rfl, hc.1, hc.2, fun p hp => ?_⟩
      obtain ⟨y1, y2, y3⟩ := new_lst hm (repL_strs (Txt.split a b)) hp
      exact k _ _ _ y1 y2 y3
    · cases h
  · cases h
theorem rx_split (ho : RX cl X o mo) (ha : RX cl X e me)
    (hbase : attributeBase o "split" X.env (eval o X.env) = eval o X.env := by rfl)
    (hfew : ((backTo cpos (starEach [e] X.env)).all (fun x => !x.1) && (backToKw cpos (keywordEach [] X.env)).all (fun x => x.1.isSome)
      && decide (([e] : List Expr).length + ([] : List Keyword).length + (if ([] : List Keyword).isEmpty then 0 else 1) < 30)) = true := by rfl)
    (hline : (apos.endLine == cpos.line) = true := by rfl) (hs : starEach [e] X.env = (false, eval e X.env) :: starEach [] X.env := by rfl) (hplain : (backTo cpos (starEach [] X.env)).any (·.1) = false := by rfl) :
    RX cl X (.Call (.Attribute o "split" apos) [e] [] cpos) (xM chkS splitG mo (aCons me aNil)) :=
  rx_m PySem.F.plainAttrs_str PySem.F.slot_str_split PySem.F.type_str_split mx_split (fun _ _ _ _ _ => chkS_ok) ho (ra_cons ha ra_nil hs) hbase hfew hline hs hplain
def strsP : List PV → Option (List Str)
  | [] => some []
  | .str y :: ps => (strsP ps).map (y :: ·)
  | _ :: _ => none
theorem strsP_eq : ∀ {ps : List PV} {ys : List Str}, strsP ps = some ys → ps = ys.map PV.str
  | [], ys, h => by cases h; rfl
  | .str y :: ps, ys, h => by
    obtain ⟨zs, h1, rfl⟩ := Option.map_eq_some_iff.mp h
    rw [strsP_eq h1]
    rfl
  | .int _ :: _, _, h => by cases h
  | .non :: _, _, h => by cases h
  | .bl _ :: _, _, h => by cases h
  | .tup _ :: _, _, h => by cases h
  | .ref _ :: _, _, h => by cases h
theorem repL_strs_inv {K : PySem.W.Frag} {ρ : List Addr} {H : Hp} : ∀ {ys : List Str} {xs : List V}, RepL K ρ H (ys.map PV.str) xs → xs = ys.map V.str
  | [], xs, h => h.inv0
  | y :: ys, xs, h => by
    obtain ⟨w, ws, rfl, i1, i2⟩ := RepL.inv h
    rw [rep_str] at i1
    rw [i1, repL_strs_inv i2]
    rfl
def joinG : Mg := fun p xs m => match p, xs with
  | .str a, [q] => (itemsB q m).bind fun ps => (strsP ps).bind fun ys => if (ys.map (·.length)).sum + ys.length * a.length ≤ 16777216 then some (.str (Txt.join a ys), m) else none
  | _, _ => none
theorem mx_join : MtR X "str.join" (GM X.K cl joinG) := by
  intro pins s σ H x xs v us Q I rx rs ⟨ρ, p, ps, mem, r, hm, hp, hps, h, k⟩
  unfold joinG at h
  split at h
  · rename_i a q
    obtain ⟨qs, h1, h⟩ := Option.bind_eq_some_iff.mp h
    obtain ⟨ys, h2, h⟩ := Option.bind_eq_some_iff.mp h
    split at h
    · rename_i hc
      obtain rfl := Option.some.inj h
      obtain rfl := strsP_eq h2
      rw [rep_str] at hp
      subst hp
      obtain ⟨w, ws, rfl, i1, i2⟩ := hps.inv
      obtain rfl := i2.inv0
      obtain ⟨t, zs, rfl, z1, z2⟩ := seq_of hm i1 (itemsB_seq h1)
      obtain rfl := repL_strs_inv z2
      exact mt_join pins s σ H _ _ v us Q I rx rs ⟨a, t, ys, rfl, rfl, z1, hc, k ρ _ _ .refl hm (by rw [rep_str])⟩
    · cases h
  · cases h
theorem rx_join (ho : RX cl X o mo) (ha : RX cl X e me)
    (hbase : attributeBase o "join" X.env (eval o X.env) = eval o X.env := by rfl)
    (hfew : ((backTo cpos (starEach [e] X.env)).all (fun x => !x.1) && (backToKw cpos (keywordEach [] X.env)).all (fun x => x.1.isSome)
      && decide (([e] : List Expr).length + ([] : List Keyword).length + (if ([] : List Keyword).isEmpty then 0 else 1) < 30)) = true := by rfl)
    (hline : (apos.endLine == cpos.line) = true := by rfl) (hs : starEach [e] X.env = (false, eval e X.env) :: starEach [] X.env := by rfl) (hplain : (backTo cpos (starEach [] X.env)).any (·.1) = false := by rfl) :
    RX cl X (.Call (.Attribute o "join" apos) [e] [] cpos) (xM chkS joinG mo (aCons me aNil)) :=
  rx_m PySem.F.plainAttrs_str PySem.F.slot_str_join PySem.F.type_str_join mx_join (fun _ _ _ _ _ => chkS_ok) ho (ra_cons ha ra_nil hs) hbase hfew hline hs hplain
def startsG : Mg := fun p xs m => match p, xs with
  | .str a, [.str b] => some (.bl (Txt.startswith a b), m)
  | _, _ => none
theorem mx_starts : MtR X "str.startswith" (GM X.K cl startsG) := by
  intro pins s σ H x xs v us Q I rx rs ⟨ρ, p, ps, mem, r, hm, hp, hps, h, k⟩
  unfold startsG at h
  split at h
  · rename_i a b
    obtain rfl := Option.some.inj h
    rw [rep_str] at hp
    subst hp
    obtain ⟨w, ws, rfl, i1, i2⟩ := hps.inv
    obtain rfl := i2.inv0
    rw [rep_str] at i1
    subst i1
    exact mt_startswith pins s σ H _ _ v us Q I rx rs ⟨a, b, rfl, rfl, k ρ _ _ .refl hm (by rw [rep_bl])⟩
  · cases h
theorem rx_starts (ho : RX cl X o mo) (ha : RX cl X e me)
    (hbase : attributeBase o "startswith" X.env (eval o X.env) = eval o X.env := by rfl)
    (hfew : ((backTo cpos (starEach [e] X.env)).all (fun x => !x.1) && (backToKw cpos (keywordEach [] X.env)).all (fun x => x.1.isSome)
      && decide (([e] : List Expr).length + ([] : List Keyword).length + (if ([] : List Keyword).isEmpty then 0 else 1) < 30)) = true := by rfl)
    (hline : (apos.endLine == cpos.line) = true := by rfl) (hs : starEach [e] X.env = (false, eval e X.env) :: starEach [] X.env := by rfl) (hplain : (backTo cpos (starEach [] X.env)).any (·.1) = false := by rfl) :
    RX cl X (.Call (.Attribute o "startswith" apos) [e] [] cpos) (xM chkS startsG mo (aCons me aNil)) :=
  rx_m PySem.F.plainAttrs_str PySem.F.slot_str_startswith PySem.F.type_str_startswith mx_starts (fun _ _ _ _ _ => chkS_ok) ho (ra_cons ha ra_nil hs) hbase hfew hline hs hplain
def isasciiG : Mg := fun p xs m => match p, xs with
  | .str a, [] => some (.bl (Txt.isascii a), m)
  | _, _ => none
def isdigitG : Mg := fun p xs m => match p, xs with
  | .str a, [] => some (.bl (Txt.isdigit a), m)
  | _, _ => none
theorem mx_isascii : MtR X "str.isascii" (GM X.K cl isasciiG) := by
  intro pins s σ H x xs v us Q I rx rs ⟨ρ, p, ps, mem, r, hm, hp, hps, h, k⟩
  unfold isasciiG at h
  split at h
  · obtain rfl := Option.some.inj h
    rw [rep_str] at hp
    subst hp
    obtain rfl := hps.inv0
    exact mt_isascii pins s σ H _ _ v us Q I rx rs ⟨_, rfl, rfl, trivial, k ρ _ _ .refl hm (by rw [rep_bl])⟩
  · cases h
theorem mx_isdigit : MtR X "str.isdigit" (GM X.K cl isdigitG) := by
  intro pins s σ H x xs v us Q I rx rs ⟨ρ, p, ps, mem, r, hm, hp, hps, h, k⟩
  unfold isdigitG at h
  split at h
  · obtain rfl := Option.some.inj h
    rw [rep_str] at hp
    subst hp
    obtain rfl := hps.inv0
    exact mt_isdigit pins s σ H _ _ v us Q I rx rs ⟨_, rfl, rfl, trivial, k ρ _ _ .refl hm (by rw [rep_bl])⟩
  · cases h
theorem rx_isascii (ho : RX cl X o mo) (hbase : attributeBase o "isascii" X.env (eval o X.env) = eval o X.env := by rfl) (hline : (apos.endLine == cpos.line) = true := by rfl) :
    RX cl X (.Call (.Attribute o "isascii" apos) [] [] cpos) (xM chkS isasciiG mo aNil) :=
  rx_m0 PySem.F.plainAttrs_str PySem.F.slot_str_isascii PySem.F.type_str_isascii mx_isascii (fun _ _ _ _ _ => chkS_ok) ho hbase hline
theorem rx_isdigit (ho : RX cl X o mo) (hbase : attributeBase o "isdigit" X.env (eval o X.env) = eval o X.env := by rfl) (hline : (apos.endLine == cpos.line) = true := by rfl) :
    RX cl X (.Call (.Attribute o "isdigit" apos) [] [] cpos) (xM chkS isdigitG mo aNil) :=
  rx_m0 PySem.F.plainAttrs_str PySem.F.slot_str_isdigit PySem.F.type_str_isdigit mx_isdigit (fun _ _ _ _ _ => chkS_ok) ho hbase hline
end
end Rf
end

section
set_option Elab.async false
set_option linter.all false
set_option maxRecDepth 100000
set_option autoImplicit false
namespace Rf
open PySem PySem.Spec L2
section
variable {X : Cx} {cl : Nat → Addr}
variable {a b c e o : Expr} {es : List Expr} {pos p apos pos' cpos : Pos} {ma mb mc me mo mi : Ex} {x f : Str} {mA : Ax}
/-! ### extend -/
def extG : Mg := fun p xs m => match p, xs with
  | .ref i, [.ref j] => match m[i]?, m[j]? with
    | some (.lst ps), some (.lst qs) => if ps.length + qs.length ≤ sizeLine then some (.non, m.set i (.lst (ps ++ qs))) else none
    | _, _ => none
  | _, _ => none
theorem mx_ext : MtR X "list.extend" (GM X.K cl extG) := by
  intro pins s σ H x xs v us Q I rx rs ⟨ρ, p, ps, mem, r, hm, hp, hps, h, k⟩
  unfold extG at h
  split at h
  · rename_i i j
    split at h
    · rename_i qs ws z1 z2
      split at h
      · rename_i hl
        obtain rfl := Option.some.inj h
        rw [rep_ref] at hp
        obtain ⟨a, ha, rfl⟩ := hp
        obtain ⟨w, vs, rfl, i1, i2⟩ := hps.inv
        obtain rfl := i2.inv0
        rw [rep_ref] at i1
        obtain ⟨b, hb, rfl⟩ := i1
        obtain ⟨ys, y1, y2⟩ := hm.ok i a _ ha z1
        obtain ⟨zs, y3, y4⟩ := hm.ok j b _ hb z2
        have x3 : Ext X.K ρ H ρ (upd H a (.lst (ys ++ zs))) := ext_set hm ha z1 rfl
        exact mt_extend pins s σ H _ _ v us Q I rx rs ⟨a, b, ys, zs, rfl, rfl, y1, y3, by rw [y2.length, y4.length]; exact hl, k ρ _ _ x3 (hm.set ha z1 rfl rfl ⟨_, upd_same, (x3.repL _ _ y2).append (x3.repL _ _ y4)⟩) (by rw [Rep])⟩
      · cases h
    · cases h
  · cases h
theorem rx_extend (ho : RX cl X o mo) (ha : RX cl X e me)
    (hbase : attributeBase o "extend" X.env (eval o X.env) = eval o X.env := by rfl)
    (hfew : ((backTo cpos (starEach [e] X.env)).all (fun x => !x.1) && (backToKw cpos (keywordEach [] X.env)).all (fun x => x.1.isSome)
      && decide (([e] : List Expr).length + ([] : List Keyword).length + (if ([] : List Keyword).isEmpty then 0 else 1) < 30)) = true := by rfl)
    (hline : (apos.endLine == cpos.line) = true := by rfl) (hs : starEach [e] X.env = (false, eval e X.env) :: starEach [] X.env := by rfl) (hplain : (backTo cpos (starEach [] X.env)).any (·.1) = false := by rfl) :
    RX cl X (.Call (.Attribute o "extend" apos) [e] [] cpos) (xM chkL extG mo (aCons me aNil)) :=
  rx_m PySem.F.plainAttrs_list PySem.F.slot_list_extend PySem.F.type_list_extend mx_ext (fun _ _ _ _ _ => chkL_ok) ho (ra_cons ha ra_nil hs) hbase hfew hline hs hplain
/-! ### f-strings -/
def fmtG : PV → Mem → Option (PV × Mem)
  | .str y, m => if y.length ≤ sizeLine then some (.str y, m) else none
  | .int i, m => if i.natAbs < 2 ^ 1900 then some (.str (toString i), m) else none
  | _, _ => none
theorem rx_fmt (h : RX cl X e me) : RX cl X (.FormattedValue e (-1) none pos) (x1 fmtG me) := PE.imp (pe_fmt h) fun σ H Q hw => by
  obtain ⟨ρ, env, mem, r, hm, hE, h1, q⟩ := hw
  unfold x1 at h1
  obtain ⟨r1, e1, h2⟩ := Option.bind_eq_some_iff.mp h1
  refine ⟨ρ, env, mem, r1, hm, hE, e1, fun ρ1 v H1 x1 m1 p1 => ?_⟩
  obtain ⟨p, mm⟩ := r1
  replace h2 : fmtG p mm = some r := h2
  replace p1 : Rep X.K ρ1 H1 p v := p1
  unfold fmtG at h2
  split at h2
  · split at h2
    · rename_i y hl
      cases h2
      rw [rep_str] at p1
      subst p1
      exact .inl ⟨_, rfl, hl, q _ _ _ x1 m1 (by rw [rep_str])⟩
    · cases h2
  · split at h2
    · rename_i i hl
      cases h2
      rw [rep_int] at p1
      subst p1
      exact .inr ⟨_, rfl, Nat.lt_of_lt_of_le (PySem.Flt.log2_lt_of (by decide) hl) (by decide), q _ _ _ x1 m1 (by rw [rep_str])⟩
    · cases h2
  · cases h2
def xJs : List Ex → Str → Ex
  | [], acc => fun _ m => some (.str acc, m)
  | g :: gs, acc => fun env m => (g env m).bind fun r => match r.1 with
    | .str y => if (acc ++ y).length ≤ sizeLine then xJs gs (acc ++ y) env r.2 else none
    | _ => none
inductive RJ (cl : Nat → Addr) (X : Cx) : List Expr → List Ex → Prop where
  | nil : RJ cl X [] []
  | cons {e : Expr} {m : Ex} {es : List Expr} {ms : List Ex} (h : RX cl X e m) (r : RJ cl X es ms) : RJ cl X (e :: es) (m :: ms)
theorem RJ.pj {ms : List Ex} (h : RJ cl X es ms) : PJ X es (ms.map (TX X.K cl)) := by
  induction h with
  | nil => exact .nil
  | cons h _ ih => exact .cons h ih
theorem js_of : ∀ {ms : List Ex} {acc : Str} {σ : L2.St} {H : Hp} {Q : VK}, TX X.K cl (xJs ms acc) σ H Q → tJs (ms.map (TX X.K cl)) acc σ H fun out H1 => Q (.str out) H1
  | [], acc, σ, H, Q, ⟨ρ, env, mem, r, hm, hE, h, q⟩ => by
    cases h
    exact q _ _ _ .refl hm (by rw [rep_str])
  | g :: gs, acc, σ, H, Q, ⟨ρ, env, mem, r, hm, hE, h, q⟩ => by
    unfold xJs at h
    obtain ⟨⟨p, mm⟩, e1, h2⟩ := Option.bind_eq_some_iff.mp h
    refine ⟨ρ, env, mem, _, hm, hE, e1, fun ρ1 v H1 x1 m1 p1 => ?_⟩
    cases p with
    | str y =>
      replace h2 : (if (acc ++ y).length ≤ sizeLine then xJs gs (acc ++ y) env mm else none) = some r := h2
      split at h2
      · rename_i hl
        replace p1 : Rep X.K ρ1 H1 (.str y) v := p1
        rw [rep_str] at p1
        exact ⟨y, p1, hl, js_of ⟨ρ1, env, mm, r, m1, hE.ext x1, h2, q.ext x1⟩⟩
      · cases h2
    | _ => cases h2
theorem rx_joined {v1 v2 : Expr} {rest : List Expr} {ms : List Ex} (h : RJ cl X (v1 :: v2 :: rest) ms) : RX cl X (.JoinedStr (v1 :: v2 :: rest) pos) (xJs ms Str.empty) := PE.imp (pe_joined h.pj) fun _ _ _ w => js_of w
theorem rx_joined1 {v1 : Expr} {m : Ex} (h : RX cl X v1 m) : RX cl X (.JoinedStr [v1] pos) m := pe_joined1 h
/-! ### a written dict: texts to tuples of texts -/
abbrev Tab := List (Str × List Str)
def KVal (K : PySem.W.Frag) (d : Addr) (z : Str) (ws : List Str) : Prop := ∃ t, PySem.W.nsIn K d z = some (some (.ref t)) ∧ ∀ H, SqP K H t (ws.map V.str)
structure KTab (K : PySem.W.Frag) (w : World) (mg : Str → Option Value) (x : Str) (T : Tab) : Prop where
  ex : ∃ d es n, mg x = some (.ref d) ∧ KDict K w d es n ∧ ∀ q ∈ T, KVal K d q.1 q.2
theorem tab_mem : ∀ {T : Tab} {z : Str} {ws : List Str}, T.lookup z = some ws → (z, ws) ∈ T
  | [], _, _, h => by cases h
  | (y, vs) :: T, z, ws, h => by
    rw [List.lookup_cons] at h
    cases e : z == y with
    | true =>
      rw [e] at h
      cases h
      rw [eq_of_beq e]
      exact List.mem_cons_self
    | false =>
      rw [e] at h
      exact List.mem_cons_of_mem _ (tab_mem h)
def kdG (T : Tab) (p : PV) (m : Mem) : Option (PV × Mem) := match p with
  | .str z => (T.lookup z).map fun ws => (.tup (ws.map PV.str), m)
  | _ => none
def inKd (T : Tab) (k : Bool) (p : PV) (m : Mem) : Option (PV × Mem) := match p with
  | .str z => if (T.lookup z).isSome = true then some (.bl k, m) else none
  | _ => none
theorem rx_kd {T : Tab} (h : KTab X.K X.w X.mg x T) (hg : Gl X x) (hb : RX cl X b mb) (hs : PlainIx b) (hd : (x == ("__debug__" : Str)) = false := by decide) : RX cl X (.Subscript (.Name x p) b pos) (x1 (kdG T) mb) := by
  obtain ⟨d, es, n, h1, D, h2⟩ := h
  refine PE.imp (pe_ix ix_kdict (pe_glob (v := .ref d) hg h1 rfl hd) hb hs) fun σ H Q ⟨ρ, env, mem, r, hm, hE, e, q⟩ => ?_
  unfold x1 at e
  obtain ⟨⟨y, mm⟩, e1, e2⟩ := Option.bind_eq_some_iff.mp e
  refine ⟨ρ, env, mem, _, hm, hE, e1, fun ρ1 v H1 y1 m1 p1 => ?_⟩
  cases y with
  | str z =>
    obtain ⟨ws, f1, rfl⟩ := Option.map_eq_some_iff.mp (show (T.lookup z).map (fun ws => (PV.tup (ws.map PV.str), mm)) = some r from e2)
    replace p1 : Rep X.K ρ1 H1 (.str z) v := p1
    rw [rep_str] at p1
    obtain ⟨t, g1, g2⟩ := h2 _ (tab_mem f1)
    exact ⟨d, z, .ref t, rfl, p1, ⟨es, n, _, D.at_, D.lit, g1, rfl⟩, q _ _ _ y1 m1 (by rw [rep_tup]; exact ⟨t, _, rfl, g2 _, repL_strs ws⟩)⟩
  | _ => cases e2
theorem in_of {T : Tab} {d : Addr} {k : Bool} {σ : L2.St} {H : Hp} {Q : VK} (h2 : ∀ q ∈ T, KVal X.K d q.1 q.2) (w : TX X.K cl (x1 (inKd T k) mb) σ H Q) : TX X.K cl mb σ H fun y H1 => ∃ (z : Str) (u : Value), y = .str z ∧ PySem.W.nsIn X.K d z = some (some u) ∧ Q (.bl k) H1 := by
  obtain ⟨ρ, env, mem, r, hm, hE, e, q⟩ := w
  unfold x1 at e
  obtain ⟨⟨y, mm⟩, e1, e2⟩ := Option.bind_eq_some_iff.mp e
  refine ⟨ρ, env, mem, _, hm, hE, e1, fun ρ1 v H1 y1 m1 p1 => ?_⟩
  cases y with
  | str z =>
    replace e2 : (if (T.lookup z).isSome = true then some (PV.bl k, mm) else none) = some r := e2
    split at e2
    · rename_i hl
      cases e2
      obtain ⟨ws, f1⟩ := Option.isSome_iff_exists.mp hl
      replace p1 : Rep X.K ρ1 H1 (.str z) v := p1
      rw [rep_str] at p1
      obtain ⟨t, g1, _⟩ := h2 _ (tab_mem f1)
      exact ⟨z, _, p1, g1, q _ _ _ y1 m1 (by rw [rep_bl])⟩
    · cases e2
  | _ => cases e2
theorem rx_inKd {T : Tab} (h : KTab X.K X.w X.mg x T) (hg : Gl X x) (hb : RX cl X b mb) (hm : behindInMarks .In (.Name x p) = false) (hd : (x == ("__debug__" : Str)) = false := by decide) : RX cl X (.Compare b [.In] [.Name x p] pos) (x1 (inKd T true) mb) := by
  obtain ⟨d, es, n, h1, D, h2⟩ := h
  refine PE.imp (pe_cmpR (op_in_kd D) hb (pe_glob (v := .ref d) hg h1 rfl hd) hm) fun σ H Q w => ?_
  obtain ⟨ρ, env, mem, r, q1, q2, q3, q4⟩ := in_of h2 w
  refine ⟨ρ, env, mem, r, q1, q2, q3, fun ρ1 v H1 y1 m1 p1 => ?_⟩
  obtain ⟨z, u, rfl, g, q⟩ := q4 ρ1 v H1 y1 m1 p1
  exact ⟨z, _, rfl, rfl, g, q⟩
theorem rx_ninKd {T : Tab} (h : KTab X.K X.w X.mg x T) (hg : Gl X x) (hb : RX cl X b mb) (hm : behindInMarks .NotIn (.Name x p) = false) (hd : (x == ("__debug__" : Str)) = false := by decide) : RX cl X (.Compare b [.NotIn] [.Name x p] pos) (x1 (inKd T false) mb) := by
  obtain ⟨d, es, n, h1, D, h2⟩ := h
  refine PE.imp (pe_cmpR (op_notIn_kd D) hb (pe_glob (v := .ref d) hg h1 rfl hd) hm) fun σ H Q w => ?_
  obtain ⟨ρ, env, mem, r, q1, q2, q3, q4⟩ := in_of h2 w
  refine ⟨ρ, env, mem, r, q1, q2, q3, fun ρ1 v H1 y1 m1 p1 => ?_⟩
  obtain ⟨z, u, rfl, g, q⟩ := q4 ρ1 v H1 y1 m1 p1
  exact ⟨z, _, rfl, rfl, g, q⟩
/-- the fact of a table, from what the top has left -/
theorem kval_mk {K : PySem.W.Frag} {d t : Addr} {z : Str} {ws : List Str} {its : Array Value} {n : Nat} {sl : Array (Option Value)} (h1 : PySem.W.nsIn K d z = some (some (.ref t))) (h2 : K.lookup t = some ⟨.type "tuple", none, .seq its n, sl⟩) (h3 : Vals (ws.map V.str) its.toList) (h4 : its.size ≤ sizeLine) : KVal K d z ws :=
  ⟨t, h1, fun H => .inr ⟨_, its, n, h2, rfl, rfl, rfl, h4, h3⟩⟩
end
end Rf
namespace Rf
open PySem PySem.Spec L2
section
variable {X : Cx} {cl : Nat → Addr} {b : Expr} {pos p : Pos} {mb : Ex} {x : Str}
theorem rt_inKd {T : Tab} (h : KTab X.K X.w X.mg x T) (hg : Gl X x) (hb : RX cl X b mb) (hm : behindInMarks .In (.Name x p) = false) (hd : (x == ("__debug__" : Str)) = false := by decide) : RT cl X (.Compare b [.In] [.Name x p] pos) (tBl (x1 (inKd T true) mb)) := by
  obtain ⟨d, es, n, h1, D, h2⟩ := h
  refine PT.imp (pt_cmpR (op_in_kd D) hb (pe_glob (v := .ref d) hg h1 rfl hd) hm) fun σ H Q w => ?_
  obtain ⟨ρ, env, mem, r, q1, q2, q3, q4⟩ := in_of h2 (tBl_of w)
  refine ⟨ρ, env, mem, r, q1, q2, q3, fun ρ1 v H1 y1 m1 p1 => ?_⟩
  obtain ⟨z, u, rfl, g, q⟩ := q4 ρ1 v H1 y1 m1 p1
  exact ⟨z, _, rfl, rfl, g, q⟩
theorem rt_ninKd {T : Tab} (h : KTab X.K X.w X.mg x T) (hg : Gl X x) (hb : RX cl X b mb) (hm : behindInMarks .NotIn (.Name x p) = false) (hd : (x == ("__debug__" : Str)) = false := by decide) : RT cl X (.Compare b [.NotIn] [.Name x p] pos) (tBl (x1 (inKd T false) mb)) := by
  obtain ⟨d, es, n, h1, D, h2⟩ := h
  refine PT.imp (pt_cmpR (op_notIn_kd D) hb (pe_glob (v := .ref d) hg h1 rfl hd) hm) fun σ H Q w => ?_
  obtain ⟨ρ, env, mem, r, q1, q2, q3, q4⟩ := in_of h2 (tBl_of w)
  refine ⟨ρ, env, mem, r, q1, q2, q3, fun ρ1 v H1 y1 m1 p1 => ?_⟩
  obtain ⟨z, u, rfl, g, q⟩ := q4 ρ1 v H1 y1 m1 p1
  exact ⟨z, _, rfl, rfl, g, q⟩
end
end Rf
namespace Rf
open PySem PySem.Spec L2
def incG : PV → PV → Mem → Option (PV × Mem)
  | .int i, .int j, m => some (.int (i + j), m)
  | _, _, _ => none
theorem ip_inc {X : Cx} {cl : Nat → Addr} : PIp X .Add (G2 X.K cl incG) := by
  intro pins s σ H x y v u Q I rx ry ⟨ρ, p, q, mem, r, hm, hp, hq, h, k⟩
  unfold incG at h
  split at h
  · obtain rfl := Option.some.inj h
    rw [rep_int] at hp hq
    subst hp hq
    exact ip_add pins s σ H _ _ v u Q I rx ry ⟨_, _, rfl, rfl, k _ _ _ .refl hm (by rw [rep_int])⟩
  · cases h
end Rf
end

section
set_option Elab.async false
set_option linter.all false
set_option maxRecDepth 100000
set_option autoImplicit false
namespace Rf
open PySem PySem.Spec L2
/-! ### comprehensions over patterns -/
abbrev Px := PV → Env → Option Env
abbrev Pxs := List PV → Env → Option Env
structure PatOk (K : PySem.W.Frag) (vs : List Nat) (g : Px) (t : TG) : Prop where
  run : ∀ (ρ : List Addr) (H : Hp) (p : PV) (v : V) (env env' : Env) (σ : L2.St) (Q : L2.St → Hp → Prop), RelE K ρ H σ env → Rep K ρ H p v → g p env = some env' → (∀ σ', RelE K ρ H σ' env' → wipe σ' vs = wipe σ vs → Q σ' H) → t v σ H Q
structure PatsOk (K : PySem.W.Frag) (vs : List Nat) (g : Pxs) (t : TGs) : Prop where
  run : ∀ (ρ : List Addr) (H : Hp) (ps : List PV) (us : List V) (env env' : Env) (σ : L2.St) (Q : L2.St → Hp → Prop), RelE K ρ H σ env → RepL K ρ H ps us → g ps env = some env' → (∀ σ', RelE K ρ H σ' env' → wipe σ' vs = wipe σ vs → Q σ' H) → t us σ H Q
def pNm (i : Nat) : Px := fun p env => some (env.set i (some p))
def pTp (n : Nat) (g : Pxs) : Px := fun p env => match p with
  | .tup ps => if ps.length = n then g ps env else none
  | _ => none
def pNil : Pxs := fun ps env => match ps with
  | [] => some env
  | _ => none
def pCons (g : Px) (r : Pxs) : Pxs := fun ps env => match ps with
  | p :: qs => (g p env).bind fun e => r qs e
  | [] => none
section
variable {K : PySem.W.Frag} {vs : List Nat}
theorem pat_nm {i : Nat} (h : i ∈ vs) : PatOk K vs (pNm i) (gName i) := ⟨fun ρ H p v env env' σ Q hE hp e k => by
  cases e
  exact k _ (hE.set i hp) (set_wipe _ _ _ _ h)⟩
theorem pat_tp {n : Nat} {g : Pxs} {t : TGs} (h : PatsOk K vs g t) : PatOk K vs (pTp n g) (gTup K n t) := ⟨fun ρ H p v env env' σ Q hE hp e k => by
  unfold pTp at e
  split at e
  · rw [rep_tup] at hp
    obtain ⟨a, xs, rfl, h1, h2⟩ := hp
    replace h1 := h1.t
    split at e
    · rename_i hl
      exact ⟨a, xs, rfl, h1, by rw [h2.length, hl], h.run ρ H _ _ env env' σ Q hE h2 e k⟩
    · cases e
  · cases e⟩
theorem pats_nil : PatsOk K vs pNil gNil := ⟨fun ρ H ps us env env' σ Q hE hp e k => by
  unfold pNil at e
  split at e
  · cases e
    exact ⟨hp.inv0, k σ hE rfl⟩
  · cases e⟩
theorem pats_cons {g : Px} {r : Pxs} {t : TG} {u : TGs} (h : PatOk K vs g t) (h' : PatsOk K vs r u) : PatsOk K vs (pCons g r) (gCons t u) := ⟨fun ρ H ps us env env' σ Q hE hp e k => by
  unfold pCons at e
  split at e
  · obtain ⟨e1, h1, h2⟩ := Option.bind_eq_some_iff.mp e
    obtain ⟨x, xs, rfl, i1, i2⟩ := hp.inv
    exact ⟨x, xs, rfl, h.run ρ H _ _ env e1 σ _ hE i1 h1 fun σ' hE' w' => h'.run ρ H _ _ e1 env' σ' Q hE' i2 h2 fun σ'' hE'' w'' => k σ'' hE'' (w''.trans w')⟩
  · cases e⟩
end
def lcLP (g : Px) (tt : Tx) (te : Ex) (gd : List (Nat × Ob)) (D : Nat) (env : Env) : List PV → Mem → List PV → Option (List PV × Mem)
  | [], m, acc => some (acc, m)
  | p :: ps, m, acc => (g p env).bind fun env' => (tt env' m).bind fun r => if r.1 = true then (te env' r.2).bind fun s =>
      if okG gd s.2 = true ∧ s.2[D]? = some (.lst acc) ∧ acc.length < sizeLine then lcLP g tt te gd D env ps (s.2.set D (.lst (acc ++ [s.1]))) (acc ++ [s.1]) else none
    else if okG gd r.2 = true ∧ r.2[D]? = some (.lst acc) then lcLP g tt te gd D env ps r.2 acc else none
def xLcP (vs : List Nat) (it : Ix) (g : Px) (tt : Tx) (te : Ex) : Ex := fun env m => (it env m).bind fun r => if okG r.1.guard r.2 = true ∧ (∀ g ∈ r.1.guard, g.1 < r.2.length) then
    (lcLP g tt te r.1.guard r.2.length (wipeE env vs) r.1.items (r.2 ++ [.lst []]) []).bind fun s => some (.ref r.2.length, s.2) else none
section
variable {X : Cx} {cl : Nat → Addr} {pos : Pos}
theorem tLcP_of {vs : List Nat} {g : Px} {tg : TG} {mi : Ix} {tt : Tx} {te : Ex} {σ H Q} (hP : PatOk X.K vs g tg) (h : TX X.K cl (xLcP vs mi g tt te) σ H Q) : tLc (TIX X.K cl mi) tg (TTX X.K cl tt) (TX X.K cl te) vs σ H Q := by
  obtain ⟨ρ, env, mem, r, hm, hE, h, q⟩ := h
  unfold xLcP at h
  obtain ⟨r1, e1, h⟩ := Option.bind_eq_some_iff.mp h
  split at h
  · rename_i hk
    obtain ⟨hk, hlow⟩ := hk
    obtain ⟨r2, e2, h⟩ := Option.bind_eq_some_iff.mp h
    obtain rfl := Option.some.inj h
    refine ⟨ρ, env, mem, r1, hm, hE, e1, fun ρ1 H1 J x1 m1 k1 IJ D hD => ?_⟩
    obtain ⟨z1, z2, z3⟩ := new_lst m1 RepL.nil hD
    have q1 := q.ext (x1.trans z1)
    have ED : (ρ1 ++ [D])[r1.2.length]? = some D := by rw [← m1.len]; simp
    refine ⟨fun j n H' => n = r1.1.items.length - j ∧ j ≤ r1.1.items.length ∧ ∃ ρ' m' acc, Ext X.K (ρ1 ++ [D]) (upd H1 D (.lst [])) ρ' H' ∧ RelM X.K cl ρ' H' m' ∧ okG r1.1.guard m' = true ∧ m'[r1.2.length]? = some (.lst acc) ∧ lcLP g tt te r1.1.guard r1.2.length (wipeE env vs) (r1.1.items.drop j) m' acc = some r2,
      ⟨_, rfl, Nat.zero_le _, ρ1 ++ [D], r1.2 ++ [.lst []], [], .refl, z2, okG_app hk, by simp, by rw [List.drop_zero]; exact e2⟩, ?_⟩
    rintro j n H' ⟨rfl, hj, ρ', m', acc, x2, m2, k2, hacc, hf⟩
    by_cases hlt : j < r1.1.items.length
    · have hd : r1.1.items.drop j = r1.1.items[j] :: r1.1.items.drop (j + 1) := List.drop_eq_getElem_cons hlt
      rw [hd] at hf
      unfold lcLP at hf
      obtain ⟨env1, e0, hf⟩ := Option.bind_eq_some_iff.mp hf
      obtain ⟨r3, e3, hf⟩ := Option.bind_eq_some_iff.mp hf
      obtain ⟨g1, g2⟩ := (IJ.ext z1).go ρ' H' m' j r1.1.items[j] x2 m2 k2 (List.getElem?_eq_getElem hlt)
      refine .inr ⟨g1, fun H'' => j + 1 ≤ r1.1.items.length ∧ ∃ ρ' m' acc, Ext X.K (ρ1 ++ [D]) (upd H1 D (.lst [])) ρ' H'' ∧ RelM X.K cl ρ' H'' m' ∧ okG r1.1.guard m' = true ∧ m'[r1.2.length]? = some (.lst acc) ∧ lcLP g tt te r1.1.guard r1.2.length (wipeE env vs) (r1.1.items.drop (j + 1)) m' acc = some r2,
        fun H'' hN => ⟨_, by omega, rfl, hN⟩, fun y H'' hy => ?_⟩
      obtain ⟨y1, y2, y3⟩ := g2 y H'' hy
      have xy := (x1.trans z1).trans (x2.trans y1)
      refine hP.run ρ' H'' _ _ _ env1 _ _ ((hE.wipe vs).ext xy) y3 e0 fun σ' hE' hw => ⟨by rw [hw, wipe_idem σ vs vs fun _ h => h], ρ', env1, m', r3, y2, hE', e3, fun ρ3 H3 x3 m3 => ?_⟩
      split at hf
      · rename_i hb
        rw [if_pos hb]
        obtain ⟨r4, e4, hf⟩ := Option.bind_eq_some_iff.mp hf
        refine ⟨ρ3, _, r3.2, r4, m3, hE'.ext x3, e4, fun ρ4 v4 H4 x4 m4 p4 => ?_⟩
        split at hf
        · rename_i hg
          obtain ⟨k4, a4, l4⟩ := hg
          have xx := (x2.trans y1).trans (x3.trans x4)
          have ha := xx.at ED
          obtain ⟨as, s1, s2⟩ := m4.ok _ _ _ ha a4
          have x5 : Ext X.K ρ4 H4 ρ4 (upd H4 D (.lst (as ++ [v4]))) := ext_set m4 ha a4 rfl
          refine ⟨as, s1, by rw [s2.length]; exact l4, hlt, ρ4, _, _, xx.trans x5, m4.set (o' := .lst (acc ++ [r4.1])) ha a4 rfl rfl ⟨_, upd_same, (x5.repL _ _ s2).append (.one (x5.rep _ _ p4))⟩, okG_set k4 hlow, ?_, hf⟩
          rw [List.getElem?_set_self (List.getElem?_eq_some_iff.mp a4).1]
        · cases hf
      · rename_i hb
        rw [if_neg hb]
        split at hf
        · rename_i hg
          exact ⟨hlt, ρ3, r3.2, acc, (x2.trans y1).trans x3, m3, hg.1, hg.2, hf⟩
        · cases hf
    · have e : j = r1.1.items.length := by omega
      subst e
      rw [List.drop_length] at hf
      obtain rfl := Option.some.inj hf
      refine .inl ⟨(IJ.ext z1).stop ρ' H' m' x2 m2 k2, q1 ρ' _ H' x2 m2 ?_⟩
      rw [rep_ref]
      exact ⟨D, x2.at ED, rfl⟩
  · cases h
theorem rx_lcP {elt iter : Expr} {ifs : List Expr} {scope : Scope} {own : List (Str × Nat)} {tg : Expr} {mi : Ix} {g : Px} {tG : TG} {tt : Tx} {te : Ex} (hP : PatOk X.K (own.map (·.2)) g tG) (hc : X.calm = true) (hN : X.N.Nodup) (hi : RI cl X tg iter mi) (ok : BlkOk X.N X.env.scope scope own)
    (hg : ∀ (s : Shared) (H : Hp) (C : Addr) (cl : List (Str × Addr)) (fp : List Addr), PG (X.blk s H scope (compEnvC scope cl C X.env) fp) tg tG) (ht : ∀ (s : Shared) (H : Hp) (C : Addr) (cl' : List (Str × Addr)) (fp : List Addr), RTs cl (X.blk s H scope (compEnvC scope cl' C X.env) fp) ifs tt)
    (he : ∀ (s : Shared) (H : Hp) (C : Addr) (cl' : List (Str × Addr)) (fp : List Addr), RX cl (X.blk s H scope (compEnvC scope cl' C X.env) fp) elt te) (hs : ∀ x, foldedSetIterable iter X.env x = pure x := by intro _; rfl) :
    RX cl X (.ListComp elt [⟨tg, iter, ifs, 0⟩] scope pos) (xLcP (own.map (·.2)) mi g tt te) := PE.imp (pe_lc hc hN hi ok hg ht he hs) fun _ _ _ h => tLcP_of hP h
theorem rs_setLcP {j : Nat} {y : Str} {py spos : Pos} {elt iter : Expr} {ifs : List Expr} {scope : Scope} {own : List (Str × Nat)} {tg : Expr} {mi : Ix} {g : Px} {tG : TG} {tt : Tx} {te : Ex} (hP : PatOk X.K (own.map (·.2)) g tG) (hc : X.calm = true) (hN : X.N.Nodup) (hy : X.N[j]? = some y) (hyl : X.env.scope.names.lookup y = some .local)
    (hsw : swapsWith (.ListComp elt [⟨tg, iter, ifs, 0⟩] scope pos) (some (.Name y py)) spos.line X.env = pure true) (hi : RI cl X tg iter mi) (ok : BlkOk X.N X.env.scope scope own)
    (hg : ∀ (s : Shared) (H : Hp) (C : Addr) (cl : List (Str × Addr)) (fp : List Addr), PG (X.blk s H scope (compEnvC scope cl C X.env) fp) tg tG) (ht : ∀ (s : Shared) (H : Hp) (C : Addr) (cl' : List (Str × Addr)) (fp : List Addr), RTs cl (X.blk s H scope (compEnvC scope cl' C X.env) fp) ifs tt)
    (he : ∀ (s : Shared) (H : Hp) (C : Addr) (cl' : List (Str × Addr)) (fp : List Addr), RX cl (X.blk s H scope (compEnvC scope cl' C X.env) fp) elt te) (hs : ∀ x, foldedSetIterable iter X.env x = pure x := by intro _; rfl) :
    RS cl X (.Assign [.Name y py] (.ListComp elt [⟨tg, iter, ifs, 0⟩] scope pos) spos) (sAs (xLcP (own.map (·.2)) mi g tt te) (gNm j)) := PS.imp (ps_setLc hc hN hy hyl hsw hi ok hg ht he hs) fun D σ H h => by
  obtain ⟨ρ, env, mem, r, hm, hE, h, q⟩ := tAs_of h
  refine tLcP_of hP ⟨ρ, env, mem, r, hm, hE, h, fun ρ1 v1 H1 x1 m1 p1 => ?_⟩
  obtain ⟨ρ2, p, env2, mem2, r2, n1, n2, n3, n4, n5⟩ := q ρ1 v1 H1 x1 m1 p1
  obtain rfl := Option.some.inj n4
  exact n5 ρ2 _ H1 .refl n1 (n2.set j n3)
/-- a op b op' c -/
def xCh (g g' : PV → PV → Mem → Option (PV × Mem)) (a b c : Ex) : Ex := fun env m => (a env m).bind fun r => (b env r.2).bind fun s => (g r.1 s.1 s.2).bind fun k => match k.1 with
  | .bl true => (c env k.2).bind fun t => g' s.1 t.1 t.2
  | .bl false => some (.bl false, k.2)
  | _ => none
theorem rx_chain {op op' : CmpOp} {g g' : PV → PV → Mem → Option (PV × Mem)} {a b c : Expr} {ma mb mc : Ex} (ho : OpR X (compareOp op) (G2 X.K cl g)) (ho' : OpR X (compareOp op') (G2 X.K cl g')) (ha : RX cl X a ma) (hb : RX cl X b mb) (hc : RX cl X c mc)
    (hm : lastMarks [op, op'] [b, c] = false := by with_unfolding_all rfl) : RX cl X (.Compare a [op, op'] [b, c] pos) (xCh g g' ma mb mc) := PE.imp (pe_chain ho ho' ha hb hc hm) fun σ H Q ⟨ρ, env, mem, r, hm, hE, h, q⟩ => by
  unfold xCh at h
  obtain ⟨r1, e1, h⟩ := Option.bind_eq_some_iff.mp h
  obtain ⟨r2, e2, h⟩ := Option.bind_eq_some_iff.mp h
  obtain ⟨r3, e3, h⟩ := Option.bind_eq_some_iff.mp h
  refine ⟨ρ, env, mem, r1, hm, hE, e1, fun ρ1 v1 H1 x1 m1 p1 => ⟨ρ1, env, r1.2, r2, m1, hE.ext x1, e2, fun ρ2 v2 H2 x2 m2 p2 => ⟨ρ2, r1.1, r2.1, r2.2, r3, m2, x2.rep _ _ p1, p2, e3, fun ρ3 v3 H3 x3 m3 p3 => ?_⟩⟩⟩
  have xx := x1.trans (x2.trans x3)
  split at h
  · rename_i hk
    rw [hk, rep_bl] at p3
    obtain ⟨r4, e4, h⟩ := Option.bind_eq_some_iff.mp h
    refine ⟨true, p3, ?_⟩
    rw [if_pos rfl]
    exact ⟨ρ3, env, r3.2, r4, m3, hE.ext xx, e4, fun ρ4 v4 H4 x4 m4 p4 => ⟨ρ4, r2.1, r4.1, r4.2, r, m4, (x3.trans x4).rep _ _ p2, p4, h, q.ext (xx.trans x4)⟩⟩
  · rename_i hk
    obtain rfl := Option.some.inj h
    rw [hk, rep_bl] at p3
    refine ⟨false, p3, ?_⟩
    rw [if_neg Bool.false_ne_true]
    exact q ρ3 _ H3 xx m3 (by rw [Rep])
  · cases h
end
end Rf
end

section
set_option Elab.async false
set_option linter.all false
set_option maxRecDepth 100000
set_option autoImplicit false
namespace Rf
open PySem PySem.Spec L2
/-! ### ints, rows of ints -/
def intsP : List PV → Option (List Int)
  | [] => some []
  | .int i :: ps => (intsP ps).map fun is => i :: is
  | _ => none
def rowP : PV → Option (List Int)
  | .tup ps => intsP ps
  | _ => none
def rowsP : List PV → Option (List (List Int))
  | [] => some []
  | p :: ps => (rowP p).bind fun r => if r = [] then none else (rowsP ps).map fun rs => r :: rs
theorem intsP_eq : ∀ {ps : List PV} {is : List Int}, intsP ps = some is → ps = is.map .int
  | [], is, h => by cases h; rfl
  | p :: ps, is, h => by
    cases p with
    | int i =>
      obtain ⟨js, h1, rfl⟩ := Option.map_eq_some_iff.mp (show (intsP ps).map (fun is => i :: is) = some is from h)
      rw [intsP_eq h1]; rfl
    | _ => cases h
theorem intsP_map (is : List Int) : intsP (is.map .int) = some is := by
  induction is with
  | nil => rfl
  | cons i is ih => rw [List.map_cons, intsP, ih]; rfl
def rowV (r : List Int) : PV := .tup (r.map .int)
theorem rowsP_eq : ∀ {ps : List PV} {rs : List (List Int)}, rowsP ps = some rs → ps = rs.map rowV ∧ ∀ r ∈ rs, r ≠ []
  | [], rs, h => by cases h; exact ⟨rfl, nofun⟩
  | p :: ps, rs, h => by
    unfold rowsP at h
    obtain ⟨r, h1, h⟩ := Option.bind_eq_some_iff.mp h
    split at h
    · cases h
    · rename_i hr
      obtain ⟨qs, h2, rfl⟩ := Option.map_eq_some_iff.mp h
      obtain ⟨e, k⟩ := rowsP_eq h2
      refine ⟨?_, fun r' m => ?_⟩
      · rw [List.map_cons, ← e]
        congr 1
        unfold rowP at h1
        split at h1
        · rw [intsP_eq h1]; rfl
        · cases h1
      · rcases List.mem_cons.mp m with rfl | m
        · exact hr
        · exact k _ m
theorem rowsP_map : ∀ (rs : List (List Int)), (∀ r ∈ rs, r ≠ []) → rowsP (rs.map rowV) = some rs
  | [], _ => rfl
  | r :: rs, h => by
    rw [List.map_cons, rowsP]
    show (intsP (r.map .int)).bind _ = _
    rw [intsP_map]
    simp only [Option.bind_some]
    rw [if_neg (h r List.mem_cons_self), rowsP_map rs fun q m => h q (List.mem_cons_of_mem _ m)]
    rfl
abbrev leR (a b : List Int) : Bool := decide (a ≤ b)
abbrev sortR (rs : List (List Int)) : List (List Int) := rs.mergeSort leR
def srtG : List PV → Mem → Option (PV × Mem)
  | [p], m => (lstB p m).bind fun ps => (rowsP ps).map fun rs => (.ref m.length, m ++ [.lst ((sortR rs).map rowV)])
  | _, _ => none
def maxL : List PV → Mem → Option (PV × Mem)
  | [.int i, .int j], m => some (.int (if j > i then j else i), m)
  | [p], m => (lstB p m).bind fun ps => (intsP ps).bind fun is => (is.max?).map fun k => (.int k, m)
  | _, _ => none
def sumG : List PV → Mem → Option (PV × Mem)
  | [p], m => (lstB p m).bind fun ps => (intsP ps).map fun is => (.int is.sum, m)
  | _, _ => none
/-- max(a, default=d) -/
def xMxD (a d : Ex) : Ex := fun env m => (a env m).bind fun r => (d env r.2).bind fun s => (lstB r.1 s.2).bind fun ps => (intsP ps).map fun is => (((is.max?).map PV.int).getD s.1, s.2)
/-- dict(t), t a tuple of pairs -/
def kvsP : List PV → Option (List (Key × PV))
  | [] => some []
  | .tup [k, v] :: ps => (keyOf k).bind fun kk => (kvsP ps).map fun kvs => (kk, v) :: kvs
  | _ => none
def mergeP (acc : List (Key × PV)) (more : List (Key × PV)) : List (Key × PV) := more.foldl (fun acc kv => putP acc kv.1 kv.2) acc
def dctG : List PV → Mem → Option (PV × Mem)
  | [.tup ps], m => (kvsP ps).map fun kvs => (.ref m.length, m ++ [.dic (mergeP [] kvs)])
  | _, _ => none
section
variable {X : Cx} {cl : Nat → Addr}
theorem repL_ints {K ρ H} {is : List Int} {xs : List V} (h : RepL K ρ H (is.map PV.int) xs) : xs = is.map V.int := by
  induction is generalizing xs with
  | nil => rw [h.inv0]; rfl
  | cons i is ih =>
    obtain ⟨x, r, rfl, h1, h2⟩ := h.inv
    rw [rep_int] at h1
    rw [h1, ih h2]; rfl
theorem each_rows {K ρ H} : ∀ {rs : List (List Int)} {xs : List V} {us : List Value}, RepL K ρ H (rs.map rowV) xs → Vals xs us → PySem.W.EachIs (fun u r => ∃ v, RelV v u ∧ Rep K ρ H (rowV r) v) us rs
  | [], xs, us, h, r => by
    obtain rfl := h.inv0
    cases r
    exact .nil
  | q :: rs, xs, us, h, r => by
    obtain ⟨x, ys, rfl, h1, h2⟩ := h.inv
    cases r with
    | cons r rr => exact .cons ⟨x, r, h1⟩ (each_rows h2 rr)
theorem rows_each {K ρ H} : ∀ {rs : List (List Int)} {us : List Value}, PySem.W.EachIs (fun u r => ∃ v, RelV v u ∧ Rep K ρ H (rowV r) v) us rs → ∃ xs, Vals xs us ∧ RepL K ρ H (rs.map rowV) xs
  | _, _, .nil => ⟨[], .nil, .nil⟩
  | _, _, .cons ⟨v, h1, h2⟩ t => by
    obtain ⟨xs, h3, h4⟩ := rows_each t
    exact ⟨v :: xs, .cons h1 h3, .cons h2 h4⟩
theorem toDs_ints : ∀ is : List Int, toDs (is.map PV.int) = some (is.map PyData.int)
  | [] => rfl
  | i :: is => by rw [List.map_cons, toDs, toDs_ints is]; rfl
def encR (r : List Int) : PyData := .tuple (r.map .int)
theorem toD_row (r : List Int) : toD (rowV r) = some (encR r) := by
  unfold rowV encR
  rw [toD, toDs_ints]; rfl
theorem dataLe_tup : PySem.W.dataLe false encR = leR := by
  funext p q
  show (!PySem.W.dataLt (.tuple (q.map .int)) (.tuple (p.map .int))) = _
  rw [PySem.W.dataLt_tuple]
  show (!PySem.W.rowLt (q.map .int) (p.map .int)) = _
  rw [PySem.W.dataLt_ints]
  by_cases h : q < p
  · have h' : ¬ p ≤ q := fun r => List.not_lt.mpr r h
    simp [h, h', leR]
  · have h' : p ≤ q := List.not_lt.mp h
    simp [h, h', leR]
theorem cx_sorted (hu : X.A.units + 64 < cLine) : CallR X (.builtin "sorted") (GL X.K cl srtG) := by
  intro pins s σ H xs us Q I rs ⟨ρ, ps, mem, r, hm, hp, h, k⟩
  unfold srtG at h
  split at h
  · obtain ⟨qs, h1, h⟩ := Option.bind_eq_some_iff.mp h
    obtain ⟨rows, h2, rfl⟩ := Option.map_eq_some_iff.mp h
    obtain ⟨x, xs, rfl, i1, i2⟩ := hp.inv
    obtain rfl := i2.inv0
    obtain ⟨i, a, ys, rfl, y1, y2, rfl, y3, y4⟩ := lstB_ok hm i1 h1
    obtain ⟨rfl, hne⟩ := rowsP_eq h2
    obtain ⟨its, rv, hl, hz⟩ := I.list (.inl (.inl y3))
    rw [Vals.ref1 rs]
    have e := each_rows y4 rv
    have er : PySem.W.EachIs (fun u r => ∃ as, Reads s.heap u (encR r) as) its rows := e.mono fun u r ⟨v, h1, h2⟩ => Dp.reads I _ v u (toD_rep _ _ _ h2 (toD_row r)) h1
    have hlen : rows.length = its.length := e.length.symm
    refine PySem.W.sorted_data (enc := encR) hl.isList e er ?_ (.inl fun d hd => ?_) (by rw [hlen, ← rv.length]; exact hz) (fun b _ => ?_) fun out h3 h4 => ?_
    · exact PySem.W.AllAlike.of fun b b' => by
        show PySem.W.alike (.tuple _) (.tuple _) = true
        rw [PySem.W.alike]
        exact PySem.W.alike_ints b b'
    · obtain ⟨r, hr, rfl⟩ := List.mem_map.mp hd
      have := hne r hr
      cases r with
      | nil => exact absurd rfl this
      | cons i is => exact ⟨.int i, is.map .int, rfl⟩
    · have : (encR b).depth = 1 := by
        unfold encR
        rw [PyData.depth, PySem.W.depth_ints]
      omega
    · rw [dataLe_tup] at h4
      obtain ⟨zs, z1, z2⟩ := rows_each h4
      obtain ⟨ep, he'⟩ := PyProof.Rows.sortedAll_at s.heap its out.toArray
      have hz' : zs.length ≤ sizeLine := by rw [z1.length, h3, hlen, ← rv.length]; exact hz
      have fr : H (s.heap.objs.size + 1) = none := I.hok.fresh (Nat.le_succ _)
      obtain ⟨w1, w2, w3⟩ := new_lst hm z2 fr
      exact ⟨.ref _, upd H (s.heap.objs.size + 1) (.lst zs), I.laid (t' := s.toks) (fun _ _ => PyProof.Rows.sortedAll_old) (Nat.le_succ _) ⟨hz', out, ep, z1, he'⟩, rfl, k _ _ _ w1 w2 w3⟩
  · cases h
theorem max_is {ns : List Int} {m k : Int} (h1 : m ∈ ns) (h2 : ∀ y ∈ ns, y ≤ m) (h : ns.max? = some k) : m = k := by
  have := List.max?_eq_some_iff.mp h
  have a := h2 k this.1
  have b := this.2 m h1
  omega
theorem cx_maxL (hc : X.calm = true) : CallR X (.builtin "max") (GL X.K cl maxL) := by
  intro pins s σ H xs us Q I rs ⟨ρ, ps, mem, r, hm, hp, h, k⟩
  unfold maxL at h
  split at h
  · exact cx_max hc pins s σ H xs us Q I rs ⟨ρ, _, mem, r, hm, hp, h, k⟩
  · obtain ⟨qs, h1, h⟩ := Option.bind_eq_some_iff.mp h
    obtain ⟨is, h2, h⟩ := Option.bind_eq_some_iff.mp h
    obtain ⟨j, h3, rfl⟩ := Option.map_eq_some_iff.mp h
    obtain ⟨x, xs, rfl, i1, i2⟩ := hp.inv
    obtain rfl := i2.inv0
    obtain ⟨i, a, ys, rfl, y1, y2, rfl, y3, y4⟩ := lstB_ok hm i1 h1
    obtain rfl := intsP_eq h2
    obtain rfl := repL_ints y4
    refine cr_max hc pins s σ H _ us Q I rs ⟨a, is, rfl, .inl (.inl y3), ?_, fun m m1 m2 => ?_⟩
    · cases is with
      | nil => cases h3
      | cons _ _ => simp
    · rw [max_is m1 m2 h3]
      exact k ρ _ H .refl hm (by rw [Rep])
  · cases h
theorem cx_sum (hc : X.calm = true) : CallR X (.builtin "sum") (GL X.K cl sumG) := by
  intro pins s σ H xs us Q I rs ⟨ρ, ps, mem, r, hm, hp, h, k⟩
  unfold sumG at h
  split at h
  · obtain ⟨qs, h1, h⟩ := Option.bind_eq_some_iff.mp h
    obtain ⟨is, h2, rfl⟩ := Option.map_eq_some_iff.mp h
    obtain ⟨x, xs, rfl, i1, i2⟩ := hp.inv
    obtain rfl := i2.inv0
    obtain ⟨i, a, ys, rfl, y1, y2, rfl, y3, y4⟩ := lstB_ok hm i1 h1
    obtain rfl := intsP_eq h2
    obtain rfl := repL_ints y4
    exact cr_sum hc pins s σ H _ us Q I rs ⟨a, is, rfl, .inl (.inl y3), k ρ _ H .refl hm (by rw [Rep])⟩
  · cases h
def rMxD (K : PySem.W.Frag) : List V → List V → Hp → VK → Prop := fun vs zs H Q => ∃ (a : Addr) (ns : List Int) (d : V), vs = [V.ref a] ∧ zs = [d] ∧ SqL K H a (ns.map V.int) ∧ Q (((ns.max?).map V.int).getD d) H
theorem reads_ints : ∀ {is : List Int} {us : List Value} {h : Heap}, Vals (is.map V.int) us → ReadsAll h us (is.map .int) []
  | [], us, h, r => by cases r; exact .nil
  | i :: is, us, h, r => by
    cases r with
    | cons r rr =>
      obtain ⟨t, rfl⟩ : ∃ t, _ = Value.int i t := r
      exact .cons (as := []) (bs := []) (.int i t) (reads_ints rr)
theorem cr_mxD (hc : X.calm = true) (hu : X.A.units + 64 < cLine) : CallRK X (.builtin "max") [Str.ofString "default"] (rMxD X.K) := by
  intro pins s σ H xs zs us ws Q I r r' ⟨a, ns, d, e1, e2, hs, q⟩
  subst e1 e2
  obtain ⟨its, rv, hl, hz⟩ := I.list hs
  rw [Vals.ref1 r]
  obtain ⟨w, rfl, rw'⟩ := vals1 r'
  have hd : PyData.depthAll (ns.map .int) = 0 := PySem.W.depth_ints ns
  show wpAny _ _ (call (.builtin "max") [.ref a] [(Str.ofString "default", w)]) _ _ _
  refine PySem.W.max_list_default (I.ok.hd hc) hl.isList (reads_ints rv) ⟨fun x hx y hy => ?_, fun x hx => ?_⟩ (by rw [hd]; omega) (fun e h' tk hk => ?_) fun y ys i v h' tk bs e hi hr hk => ?_
  · obtain ⟨i, _, rfl⟩ := List.mem_map.mp hx
    obtain ⟨j, _, rfl⟩ := List.mem_map.mp hy
    simp [PySem.W.alike]
  · obtain ⟨i, _, rfl⟩ := List.mem_map.mp hx
    exact nofun
  · have : ns = [] := List.map_eq_nil_iff.mp e
    subst this
    exact ⟨d, H, I.kept hk, rw', q⟩
  · cases ns with
    | nil => cases e
    | cons n ns =>
      rw [List.map_cons] at e
      obtain ⟨e1, e2⟩ := List.cons.inj e
      subst e1 e2
      rw [PySem.W.maxD_ints] at hr
      cases hr
      exact ⟨.int _, H, I.kept hk, ⟨_, rfl⟩, q⟩
theorem rx_mxD {a b : Expr} {ma mb : Ex} {p kpos pos : Pos} (hc : X.calm = true) (hu : X.A.units + 64 < cLine) (hg : Gl X "max") (hm : X.mg "max" = none) (ha : RX cl X a ma) (hb : RX cl X b mb) (hst : starEach [a] X.env = (false, eval a X.env) :: starEach [] X.env := by rfl)
    (he : backTo pos (starEach [a] X.env) = (false, eval a X.env) :: backTo pos (starEach [] X.env) := by rfl) (hpl : (backTo pos (starEach [a] X.env)).any (·.1) = false := by rfl)
    (hall : (backToKw pos (keywordEach [⟨some "default", b, kpos⟩] X.env)).all (·.1.isSome) = true := by rfl) (hnone : (backToKw pos (keywordEach [⟨some "default", b, kpos⟩] X.env)).any (·.1.isNone) = false := by rfl) (hks : (backToKw pos (keywordEach [⟨some "default", b, kpos⟩] X.env)).filterMap (·.1) = [Str.ofString "default"] := by rfl) :
    RX cl X (.Call (.Name "max" p) [a] [⟨some "default", b, kpos⟩] pos) (xMxD ma mb) :=
  PE.imp (pe_callBK (cr_mxD hc hu) hg hm (by rfl) (pa_cons ha pa_nil hst) (pk_cons hb pk_nil) (by decide) (by decide) he hpl hall hnone hks) fun σ H Q ⟨ρ, env, mem, r, hm, hE, h, q⟩ => by
    unfold xMxD at h
    obtain ⟨r1, e1, h⟩ := Option.bind_eq_some_iff.mp h
    obtain ⟨r2, e2, h⟩ := Option.bind_eq_some_iff.mp h
    obtain ⟨ps, e3, h⟩ := Option.bind_eq_some_iff.mp h
    obtain ⟨is, e4, rfl⟩ := Option.map_eq_some_iff.mp h
    refine ⟨ρ, env, mem, r1, hm, hE, e1, fun ρ1 v1 H1 x1 m1 p1 => ⟨ρ1, env, r1.2, r2, m1, hE.ext x1, e2, fun ρ2 v2 H2 x2 m2 p2 => ?_⟩⟩
    obtain ⟨i, a, ys, h1, y1, y2, rfl, y3, y4⟩ := lstB_ok m2 (x2.rep _ _ p1) e3
    obtain rfl := intsP_eq e4
    obtain rfl := repL_ints y4
    refine ⟨a, is, v2, rfl, rfl, .inl (.inl y3), ?_⟩
    cases hm : is.max? with
    | none => exact q ρ2 _ H2 (x1.trans x2) m2 (by rw [hm]; exact p2)
    | some k => exact q ρ2 _ H2 (x1.trans x2) m2 (by rw [hm]; show Rep _ _ _ (.int k) _; rw [Rep]; rfl)
end
end Rf
end

section
set_option Elab.async false
set_option linter.all false
set_option maxRecDepth 100000
set_option autoImplicit false
namespace Rf
open PySem PySem.Spec L2
/-! ### enumerate(list or tuple), the pairs without a dict -/
def IteX (K : PySem.W.Frag) (k : Bool) (a : Addr) : It :=
  ⟨fun i H => ∃ (xs : List V) (x : V), SqX k K H a xs ∧ xs[i]? = some x, fun i H v H' => ∃ T x, v = .ref T ∧ H T = none ∧ (∃ ob : Obj, ob.dict = none ∧ H' = upd H T (.frz ob (.tup [.int (i : Nat), x]))) ∧ ∀ xs, SqX k K H a xs → xs[i]? = some x, fun i H => ∃ xs : List V, SqX k K H a xs ∧ xs.length = i⟩
theorem turn_enumX {P : Program} {w : World} {K : PySem.W.Frag} {elts : List Expr} {kk : Nat} {tpos : Pos} (k : Bool) (a e it : Addr) :
    Turn P w K (.Tuple elts kk tpos) (IteX K k a) [e, it] e (fun i h => (∃ old, IsEnum h e it ((i : Nat) : Int) old) ∧ IterX k h it a i ∧ e ≠ it ∧ e ≠ a ∧ a ≠ it) where
  mem := by simp
  obj := fun i h st b hb => by
    obtain ⟨⟨old, he⟩, hi, _⟩ := st
    have e' : b = e ∨ b = it := by simpa using hb
    rcases e' with z | z
    · rw [z]; exact ⟨_, he, fun v q => nomatch q⟩
    · rw [z]; exact hi.there
  keep := fun i h h' st q => let ⟨⟨old, he⟩, hi, hne⟩ := st; ⟨⟨old, q e (by simp) _ he⟩, hi.keep (q it (by simp)), hne⟩
  item := by
    intro X hP hw hK hc i pins s σ H E I hf st hg
    subst hP hw hK
    obtain ⟨⟨old, he⟩, hit, hne, hea, hai⟩ := st
    obtain ⟨xs, x, hq, hx⟩ := hg
    obtain ⟨its, rv, p, hz⟩ := sqX_at I hq
    obtain ⟨u, hu, ru⟩ := rv.get hx
    have hel : e < s.heap.objs.size := Heap.lt_size he
    have hil : it < s.heap.objs.size := by obtain ⟨_, q, _⟩ := hit.there; exact Heap.lt_size q
    have hlt : i < its.toArray.size := by
      have := (List.getElem?_eq_some_iff.mp hu).1
      simpa using this
    refine wpAny_pyNext_enum_itemC (draws_x (A := X.A.in1) k (I.ok.hd hc) it a hai its.toArray) he ⟨hit, p⟩ hlt hne (by simp; exact ⟨hne, hea⟩) fun x' h' tk hx' ho st' hT hsz hk => ?_
    have ex : x' = u := by
      have : its.toArray[i]? = some u := by simpa using hu
      rw [this] at hx'
      exact (Option.some.inj hx').symm
    subst ex
    refine ⟨_, rfl, wpAny_letOwnedTupleGo_enum (s := { s with heap := h', toks := tk + 1 }) ho fun h'' he' sb => ?_⟩
    have hT2 : h''.get? s.heap.objs.size = some { cls := .type "tuple", data := .seq #[.int i tk, x'] } := (sb.2 _ (Nat.ne_of_gt hel)).trans hT
    have new : ObjOk X.prog X.w (upd H s.heap.objs.size (.frz { cls := .type "tuple", data := .seq #[.int i tk, x'] } (.tup [.int (i : Nat), x]))) h'' s.heap.objs.size (.frz { cls := .type "tuple", data := .seq #[.int i tk, x'] } (.tup [.int (i : Nat), x])) :=
      ⟨hT2, by show 2 ≤ sizeLine; decide, [.int i tk, x'], .cons ⟨_, rfl⟩ (.cons ru .nil), ⟨_, hT2, rfl, _, rfl⟩⟩
    have I1 : Inv X pins σ (upd H s.heap.objs.size (.frz { cls := .type "tuple", data := .seq #[.int i tk, x'] } (.tup [.int (i : Nat), x]))) { s with heap := h'', toks := tk + 1 } :=
      I.turnedNew (ch := [e, it]) (fun b ob hb q => (sb.2 b (fun z => hb (by simp [z]))).trans (hk b ob (fun z => hb (by simp [z])) (fun z => hb (by simp [z])) q)) hf (Nat.le_refl _) new
    refine ⟨.ref s.heap.objs.size, _, I1, rfl, ⟨_, x, rfl, I.hok.fresh (Nat.le_refl _), ⟨_, rfl, rfl⟩, fun ys hy => by rw [sqX_inj I hy hq]; exact hx⟩, ⟨⟨x', ?_⟩, st'.1.keep fun o q => (sb.2 it (Ne.symm hne)).trans q, hne, hea, hai⟩, fun b hb => ?_⟩
    · have e1 : ((i + 1 : Nat) : Int) = (i : Int) + 1 := by omega
      rw [e1]; exact he'
    · have hb' : b < s.heap.objs.size := by
        have e' : b = e ∨ b = it := by simpa using hb
        rcases e' with z | z
        · rw [z]; exact hel
        · rw [z]; exact hil
      rw [upd_ne (Nat.ne_of_lt hb')]
      exact (hf b hb).1
  done := by
    intro X hP hw hK hc i pins s σ H E I hf st hg
    subst hP hw hK
    obtain ⟨⟨old, he⟩, hit, hne, hea, hai⟩ := st
    obtain ⟨xs, hq, hx⟩ := hg
    obtain ⟨its, rv, p, hz⟩ := sqX_at I hq
    obtain ⟨f0, f1, f2, f3, f4, f5⟩ := hf it (by simp)
    have hl : its.toArray.size = i := by
      have := rv.length
      simp; omega
    subst hl
    exact wpAny_pyNext_enum_endD (draws_x (A := X.A.in1) k (I.ok.hd hc) it a hai its.toArray) he ⟨hit, p⟩ fun h' eb => ⟨rfl, I.turned (t' := s.toks) (fun b o hb q => eb b o hb q) f0 f1 f3 f4 f5⟩
  self := fun A i s Q E st h => let ⟨⟨_, he⟩, _⟩ := st; wpAny_pyIter_enum he h
def iEnumX (K : PySem.W.Frag) (ta : TA) : TI := fun σ H R => ta σ H fun vs H1 => ∃ k a xs, vs = [.ref a] ∧ SqX k K H1 a xs ∧ R (IteX K k a) H1
theorem pi_enumX {X : Cx} {e : Expr} {ta : TA} {p pos tpos : Pos} {elts : List Expr} {kk : Nat} (hg : Gl X "enumerate") (hm : X.mg "enumerate" = none) (ha : PA X [e] ta) (hs : starEach [e] X.env = [(false, eval e X.env)] := by rfl) :
    PI X (.Tuple elts kk tpos) (.Call (.Name "enumerate" p) [e] [] pos) (iEnumX X.K ta) := by
  refine ⟨fun pins s σ H R I h => ?_⟩
  refine PyProof.Rows.Call_ (ld_blt I hg hm PyProof.Rows.boot_enumerate (PyProof.Rows.callWith_type1 (thn (ha.run pos pins s σ H _ I h) fun us s1 ⟨vs, H1, I1, r1, q1⟩ => ?_) hs rfl))
  obtain ⟨k, a, xs, ex, hq, q⟩ := q1
  subst ex
  cases r1 with
  | cons r rr =>
    cases rr
    cases r
    have fin : ∀ (h' : Heap), IsEnum h' (s1.heap.objs.size + 1) s1.heap.objs.size 0 .none → IterX k h' s1.heap.objs.size a 0 → a < s1.heap.objs.size → (∀ b o, s1.heap.get? b = some o → h'.get? b = some o) →
        wpAny (model X.prog X.w) X.A (pyIter (.ref (s1.heap.objs.size + 1))) (PIE X pins σ (.Tuple elts kk tpos) R) X.xe { s1 with heap := h' } := fun h' he hit al hk => wpAny_pyIter_enum he (by
      have I2 : Inv X pins σ H1 { s1 with heap := h' } := I1.kept (t' := s1.toks) hk
      refine ⟨s1.heap.objs.size + 1, [s1.heap.objs.size + 1, s1.heap.objs.size], _, _, H1, rfl, I2, turn_enumX k a (s1.heap.objs.size + 1) s1.heap.objs.size, ⟨⟨.none, he⟩, hit, Nat.succ_ne_self _, Nat.ne_of_gt (Nat.lt_succ_of_lt al), Nat.ne_of_lt al⟩, fun b hb => ?_, q⟩
      have e' : b = s1.heap.objs.size + 1 ∨ b = s1.heap.objs.size := by simpa using hb
      have hle : s1.heap.objs.size ≤ b := by
        rcases e' with z | z
        · rw [z]; exact Nat.le_add_right _ _
        · rw [z]; exact Nat.le_refl _
      exact I1.fpOk hle (I1.hok.fresh hle))
    cases k with
    | true =>
      obtain ⟨its, rv, p', hz⟩ := I1.tuple (show SqT X.K H1 a xs from hq)
      have al : a < s1.heap.objs.size := by
        obtain ⟨o, ho, _⟩ := p'
        exact Heap.lt_size ho
      exact en_call (begins_tuple a its.toArray) p' fun h' he g2 hk hsz => fin h' he ⟨_, g2, rfl, rfl⟩ al hk
    | false =>
      obtain ⟨its, rv, p', hz⟩ := I1.list (show SqL X.K H1 a xs from hq)
      have al : a < s1.heap.objs.size := by
        obtain ⟨o, ho, _⟩ := p'.isList
        exact Heap.lt_size ho
      exact call_enumerate_list p'.isList fun h' he hit hsz hk => fin h' he hit al hk
/-- enumerate of a list or a tuple -/
def enX : List PV → Mem → Option Sq
  | [p], m => (seqQ p m).map fun s => ⟨enP 0 s.items, s.guard⟩
  | _, _ => none
def iEnX (a : Ax) : Ix := fun env m => (a env m).bind fun r => (enX r.1 r.2).map (·, r.2)
theorem ri_enumX {X : Cx} {cl : Nat → Addr} {a : Expr} {mA : Ax} {p pos tpos : Pos} {elts : List Expr} {kk : Nat} (hg : Gl X "enumerate") (hm : X.mg "enumerate" = none) (ha : RA cl X [a] mA) (hs : starEach [a] X.env = [(false, eval a X.env)] := by rfl) :
    RI cl X (.Tuple elts kk tpos) (.Call (.Name "enumerate" p) [a] [] pos) (iEnX mA) := PI.imp (pi_enumX hg hm ha hs) fun σ H R ⟨ρ, env, mem, r, hm, hE, h, q⟩ => by
  unfold iEnX at h
  obtain ⟨r1, e1, h⟩ := Option.bind_eq_some_iff.mp h
  obtain ⟨s, e2, h⟩ := Option.map_eq_some_iff.mp h
  subst h
  obtain ⟨ps, m0⟩ := r1
  unfold enX at e2
  split at e2
  · rename_i p0 p hpp
    obtain ⟨s1, e3, e2⟩ := Option.map_eq_some_iff.mp e2
    subst e2
    replace hpp : ps = [p] := hpp
    subst hpp
    refine ⟨ρ, env, mem, _, hm, hE, e1, fun ρ1 vs H1 x1 m1 p1 => ?_⟩
    obtain ⟨x, xs, rfl, i1, i2⟩ := p1.inv
    obtain rfl := i2.inv0
    obtain ⟨k, a, rfl, k1, ⟨us, z1⟩, w1⟩ := seqQ_ok m1 i1 e3
    refine ⟨k, a, us, rfl, z1, q ρ1 H1 _ x1 m1 k1 ⟨fun ρ' H' m i p x2 m2 kk hi => ?_, fun ρ' H' m x2 m2 kk => ?_⟩⟩
    · obtain ⟨as, a1, a2⟩ := w1 ρ' H' m x2 m2 kk
      obtain ⟨u, c1, c2⟩ := enP_get _ _ _ _ hi
      obtain ⟨x, a3, a4⟩ := a2.get c1
      refine ⟨⟨as, x, a1, a3⟩, fun v H'' ⟨T, x', e1, e2, ⟨ob, hob, e3⟩, e4⟩ => ?_⟩
      subst e1 e3 c2
      obtain rfl := Option.some.inj ((e4 as a1).symm.trans a3)
      rw [Nat.zero_add]
      exact new_tup hob m2 (.cons (by rw [Rep]) (.cons a4 .nil)) e2
    · obtain ⟨as, a1, a2⟩ := w1 ρ' H' m x2 m2 kk
      refine ⟨as, a1, ?_⟩
      rw [enP_len, a2.length]
  · cases e2
end Rf
end

section
set_option Elab.async false
set_option linter.all false
set_option maxRecDepth 100000
set_option autoImplicit false
namespace Rf
open PySem PySem.Spec L2
/-! ### dict(tuple of pairs) -/
theorem putP_repF {K : PySem.W.Frag} {ρ : List Addr} {H : Hp} {kvs : List (Key × PV)} {kws : List (Key × V)} (h : RepF K ρ H kvs kws) (k : Key) {p : PV} {v : V} (r : Rep K ρ H p v) : RepF K ρ H (putP kvs k p) (putK kws k v) := putP_rep h k r
theorem mergeP_rep {K : PySem.W.Frag} {ρ : List Addr} {H : Hp} : ∀ {more : List (Key × PV)} {mws : List (Key × V)} {kvs : List (Key × PV)} {kws : List (Key × V)}, RepF K ρ H more mws → RepF K ρ H kvs kws → RepF K ρ H (mergeP kvs more) (mergeK kws mws)
  | _, _, kvs, kws, .nil, h => h
  | (a, p) :: more, (b, v) :: mws, kvs, kws, .cons ⟨e, r⟩ t, h => by
    have e : a = b := e
    subst e
    exact mergeP_rep (more := more) (mws := mws) t (putP_rep h a r)
section
variable {X : Cx} {cl : Nat → Addr}
theorem kvsP_rep {K : PySem.W.Frag} {ρ : List Addr} {H : Hp} : ∀ {ps : List PV} {xs : List V} {kvs : List (Key × PV)}, RepL K ρ H ps xs → kvsP ps = some kvs → ∃ (as : List Addr) (kws : List (Key × V)), xs = as.map V.ref ∧ RepF K ρ H kvs kws ∧ Paired (fun p kv => SqT K H p [kV kv.1, kv.2]) as kws
  | [], xs, kvs, h, e => by
    cases e
    exact ⟨[], [], h.inv0, .nil, .nil⟩
  | p :: ps, xs, kvs, h, e => by
    obtain ⟨x, r, rfl, h1, h2⟩ := h.inv
    unfold kvsP at e
    split at e
    · cases ‹p :: ps = []›
    · rename_i k v qs heq
      obtain ⟨rfl, rfl⟩ := List.cons.inj heq
      obtain ⟨kk, e1, e⟩ := Option.bind_eq_some_iff.mp e
      obtain ⟨kvs', e2, rfl⟩ := Option.map_eq_some_iff.mp e
      obtain ⟨as, kws, rfl, h3, h4⟩ := kvsP_rep h2 e2
      rw [rep_tup] at h1
      obtain ⟨a, us, rfl, z1, z2⟩ := h1
      obtain ⟨kx, r1, rfl, w1, w2⟩ := z2.inv
      obtain ⟨vx, r2, rfl, w3, w4⟩ := w2.inv
      obtain rfl := w4.inv0
      have := keyOf_rep w1 e1
      subst this
      exact ⟨a :: as, (kk, vx) :: kws, rfl, .cons ⟨rfl, w3⟩ h3, .cons z1.t h4⟩
    · cases e
theorem pairs_of3 {pins : List (Addr × Obj)} {σ : L2.St} {H : Hp} {s : Shared} (I : Inv X pins σ H s) : ∀ {ps : List Addr} {kvs : List (Key × V)}, Paired (fun p kv => SqT X.K H p [kV kv.1, kv.2]) ps kvs →
    ∃ (prs : List (Key × Value)) (us : List (Value × Value)), KV kvs prs ∧ prs.length = ps.length ∧ us.length = ps.length ∧ ∀ (j : Nat) (w : Value × Value), us[j]? = some w → ∃ (q : Key × Value) (b : Addr), prs[j]? = some q ∧ w.2 = q.2 ∧ ps[j]? = some b ∧ s.heap.IsTuple b #[w.1, w.2] ∧ keyIs q.1 w.1 = true
  | _, _, .nil => ⟨[], [], .nil, rfl, rfl, fun j w e => by simp at e⟩
  | _, _, .cons (a := p) (b := kv) h t => by
    obtain ⟨prs, us, r, hl, hl2, hp⟩ := pairs_of3 I t
    obtain ⟨its, rv, ht, _⟩ := I.tuple h
    obtain ⟨u, y, ei, ru, ry⟩ := vals2 rv
    subst ei
    refine ⟨(kv.1, y) :: prs, (u, y) :: us, .cons ⟨rfl, ry⟩ r, by rw [List.length_cons, List.length_cons, hl], by rw [List.length_cons, List.length_cons, hl2], fun j w e => ?_⟩
    cases j with
    | zero =>
      obtain rfl := Option.some.inj (show some (u, y) = some w from e)
      exact ⟨(kv.1, y), p, rfl, rfl, rfl, ht, kV_is (P := X.prog) (w := X.w) ru⟩
    | succ j =>
      obtain ⟨q, b, e1, e2, e3, e4, e5⟩ := hp j w (by simpa using e)
      exact ⟨q, b, by simpa using e1, e2, by simpa using e3, e4, e5⟩
theorem sqP_dict {pins : List (Addr × Obj)} {σ : L2.St} {H : Hp} {s : Shared} {a : Addr} {xs : List V} {o : Obj} (I : Inv X pins σ H s) (h : SqP X.K H a xs) (e : s.heap.get? a = some o) : o.dict = none := by
  rcases h with ⟨o', h, hd⟩ | ⟨o', its, n, h, _, hd, _⟩
  · have := (I.hok a _ h).1
    rw [this] at e
    cases e
    exact hd
  · have := I.kIn a o' h
    rw [this] at e
    cases e
    exact hd
theorem cx_dict (hc : X.calm = true) : CallR X (.type "dict") (GL X.K cl dctG) := by
  intro pins s σ H xs us Q I rs ⟨ρ, ps, mem, r, hm, hp, h, k⟩
  unfold dctG at h
  split at h
  · rename_i qs
    obtain ⟨kvs, h1, rfl⟩ := Option.map_eq_some_iff.mp h
    obtain ⟨x, xs, rfl, i1, i2⟩ := hp.inv
    obtain rfl := i2.inv0
    rw [rep_tup] at i1
    obtain ⟨a, ys, rfl, z1, z2⟩ := i1
    obtain ⟨as, kws, rfl, f1, f2⟩ := kvsP_rep z2 h1
    obtain ⟨its, rv, ht, hz⟩ := I.tuple z1.t
    have ei := refs_at rv
    subst ei
    rw [List.length_map] at hz
    obtain ⟨prs, ws, rel, hl, hl2, hpr⟩ := pairs_of3 I f2
    rw [Vals.ref1 rs]
    have hpl : PlainSeq "tuple" s.heap a (as.map Value.ref).toArray := by
      obtain ⟨o, h1, h2, n, h3⟩ := ht
      exact ⟨o, n, h1, h2, sqP_dict I z1 h1, h3⟩
    refine call_dict_pairs (knd := mixKind X.prog X.w) (kvs := prs) (PairArg.tuple a (as.map Value.ref).toArray (fun j => as.getD j 0) ws) (I.ok.hd hc) ⟨hpl, ?_, fun j kk v e => ?_⟩ ⟨by rw [hl, hl2], fun i key v e => ?_⟩ (by rw [hl2]; exact hz) fun h' tk hd' hk => ?_
    · simp [hl2]
    · obtain ⟨q, b, e1, e2, e3, e4, e5⟩ := hpr j _ e
      refine ⟨by simp [e3], .inl ?_⟩
      simp only [List.getD_eq_getElem?_getD, e3, Option.getD_some]
      exact e4
    · obtain ⟨q, b, e1, e2, e3, e4, e5⟩ := hpr i _ e
      obtain ⟨kq, vq⟩ := q
      have e2 : v = vq := e2
      subst e2
      exact ⟨kq, e1, by simpa [mixKind] using e5⟩
    · have hd0 : (s.heap.objs.size == sysModules) = false := beq_eq_false_iff_ne.mpr (Nat.ne_of_gt I.big)
      have hlen : (mergeK [] kws).length ≤ sizeLine := by
        refine Nat.le_trans (length_mergeK kws []) ?_
        rw [List.length_nil, Nat.zero_add, rel.length, hl]
        exact hz
      have fr : H s.heap.objs.size = none := I.hok.fresh (Nat.le_refl _)
      obtain ⟨y1, y2, y3⟩ := new_dic hm (mergeP_rep f1 .nil) fr
      exact ⟨.ref s.heap.objs.size, upd H s.heap.objs.size (.dK (mergeK [] kws)), I.laid (t' := tk) (fun b o e => hk b o (by simp) e) (Nat.le_refl _) (show ObjOk X.prog X.w _ _ _ (.dK (mergeK [] kws)) from ⟨hlen, hd0, merged [] prs, KV.merge rel .nil, hd'⟩), rfl, k _ _ _ y1 y2 y3⟩
  · cases h
/-! ### a module's text, a module's tuple of texts -/
theorem rx_gstr {x y : Str} {pos : Pos} (h : ∃ t, X.mg x = some (.str y t)) (hg : Gl X x) (hd : (x == ("__debug__" : Str)) = false := by decide) : RX cl X (.Name x pos) (xC (.str y)) := by
  obtain ⟨t, h⟩ := h
  exact rx_c (v := .str y) (pe_glob hg h ⟨t, rfl⟩ hd) fun _ _ => by rw [Rep]
def GTup (K : PySem.W.Frag) (mg : Str → Option Value) (x : Str) (ws : List Str) : Prop := ∃ t, mg x = some (.ref t) ∧ ∀ H, SqP K H t (ws.map V.str)
theorem rx_gtup {x : Str} {ws : List Str} {pos : Pos} (h : GTup X.K X.mg x ws) (hg : Gl X x) (hd : (x == ("__debug__" : Str)) = false := by decide) : RX cl X (.Name x pos) (xC (.tup (ws.map PV.str))) := by
  obtain ⟨t, h, h2⟩ := h
  exact rx_c (v := .ref t) (pe_glob hg h rfl hd) fun ρ H => by rw [rep_tup]; exact ⟨t, _, rfl, h2 H, repL_strs ws⟩
theorem gtup_mk {K : PySem.W.Frag} {mg : Str → Option Value} {t : Addr} {x : Str} {ws : List Str} {its : Array Value} {n : Nat} {sl : Array (Option Value)} (h1 : mg x = some (.ref t)) (h2 : K.lookup t = some ⟨.type "tuple", none, .seq its n, sl⟩) (h3 : Vals (ws.map V.str) its.toList) (h4 : its.size ≤ sizeLine) : GTup K mg x ws :=
  ⟨t, h1, fun H => .inr ⟨_, its, n, h2, rfl, rfl, rfl, h4, h3⟩⟩
end
end Rf
end

section
set_option Elab.async false
set_option linter.all false
set_option maxRecDepth 100000
set_option autoImplicit false
namespace Rf
open PySem PySem.Spec L2 PyProof.Rows
section
variable {X : Cx} {cl : Nat → Addr} {b : Expr} {pos p apos cpos : Pos} {mb : Ex} {x : Str}
/-- T.get(k), the key there -/
theorem rx_kget {T : Tab} (h : KTab X.K X.w X.mg x T) (hg : Gl X x) (hb : RX cl X b mb) (m : M1 X (.Name x p) "get" apos b cpos) (hd : (x == ("__debug__" : Str)) = false := by decide) :
    RX cl X (.Call (.Attribute (.Name x p) "get" apos) [b] [] cpos) (x1 (kdG T) mb) := by
  obtain ⟨d, es, n, h1, D, h2⟩ := h
  refine ⟨fun pins s σ H Q I w => ?_⟩
  have w2 : TX X.K cl mb σ H fun y H2 => ∃ z u0 v0, y = .str z ∧ PySem.W.nsIn X.K d z = some (some u0) ∧ RelV v0 u0 ∧ Q v0 H2 := by
    obtain ⟨ρ, env, mem, r, hm, hE, e, q⟩ := w
    unfold x1 at e
    obtain ⟨⟨y, mm⟩, e1, e2⟩ := Option.bind_eq_some_iff.mp e
    refine ⟨ρ, env, mem, _, hm, hE, e1, fun ρ1 v H1 y1 m1 p1 => ?_⟩
    cases y with
    | str z =>
      obtain ⟨ws, f1, rfl⟩ := Option.map_eq_some_iff.mp (show (T.lookup z).map (fun ws => (PV.tup (ws.map PV.str), mm)) = some r from e2)
      replace p1 : Rep X.K ρ1 H1 (.str z) v := p1
      rw [rep_str] at p1
      obtain ⟨t, g1, g2⟩ := h2 _ (tab_mem f1)
      exact ⟨z, _, .ref t, p1, g1, rfl, q _ _ _ y1 m1 (by rw [rep_tup]; exact ⟨t, _, rfl, g2 _, repL_strs ws⟩)⟩
    | _ => cases e2
  refine wpAny_Call_method m.base m.few m.line PySem.F.plainAttrs_dict PySem.F.slot_dict_get PySem.F.type_dict_get (thn ((pe_glob (v := .ref d) hg h1 rfl hd).run pins s σ H (fun x H1 => x = .ref d ∧ TX X.K cl mb σ H1 fun y H2 => ∃ z u0 v0, y = .str z ∧ PySem.W.nsIn X.K d z = some (some u0) ∧ RelV v0 u0 ∧ Q v0 H2) I ⟨rfl, w2⟩) fun u s1 ⟨x, H1, I1, rx, ex, q1⟩ => ?_)
  subst ex
  obtain rfl : u = Value.ref d := rx
  refine ⟨kd_type D I1, fun a z => ?_, ?_⟩
  · cases z
    exact ⟨_, I1.kIn _ _ D.at_, rfl⟩
  rw [m.trees]
  refine Calls.callWith_builtin rfl (Calls.evalArgs_plain (Calls.spliced_cons (thn (hb.run pins s1 σ H1 _ I1 q1) fun iv s2 ⟨y, H2, I2, ry, z, u0, v0, ey, g, r0, q2⟩ => Calls.spliced_nil ?_)))
  subst ey
  obtain ⟨t, rfl⟩ := ry
  refine call_meetsIn PySem.F.slot_dict_get (kd_type D I2) PySem.F.entry_dict_get (PySem.F.args_dict_get_2 _ _) (meets_dict_get (strKind X.prog X.w) d (PySem.strKind_is X.prog X.w z t) D.low) ⟨_, PySem.W.mapOf_K (prog := X.prog) I2.kIn D.at_ D.lit, ?_⟩
  rw [PySem.W.find_K D.at_ g]
  exact ⟨v0, H2, I2.tok _, r0, q2⟩
theorem m1_of {o e : Expr} {m : Str} (base : attributeBase o m X.env (eval o X.env) = eval o X.env := by rfl) (few : ((backTo cpos (starEach [e] X.env)).all (fun x => !x.1) && (backToKw cpos (keywordEach [] X.env)).all (fun x => x.1.isSome)
    && decide (([e] : List Expr).length + ([] : List Keyword).length + (if ([] : List Keyword).isEmpty then 0 else 1) < 30)) = true := by rfl) (line : (apos.endLine == cpos.line) = true := by rfl)
    (trees : backTo cpos (starEach [e] X.env) = [(false, eval e X.env)] := by rfl) : M1 X o m apos e cpos := ⟨base, few, line, trees⟩
end
end Rf
end

section
set_option Elab.async false
set_option linter.all false
set_option maxRecDepth 100000
set_option autoImplicit false
namespace Rf
open PySem PySem.Spec L2
section
variable {X : Cx} {cl : Nat → Addr} {o value : Expr} {pos tpos : Pos} {mo me : Ex} {f : Str}
/-- o.f += e, ints -/
def sFa (C : Nat) (f : Str) (o v : Ex) : Sx := fun env m => (o env m).bind fun r => match r.1 with
  | .ref i => match r.2[i]? with
    | some (.ins c fs) => if c = C then match fs.lookup f with
        | some (.int n) => (v env r.2).bind fun s => match s.1 with
          | .int k => match s.2[i]? with
            | some (.ins c' fs') => if c' = C ∧ fs'.length < 1000 then some (.nx, env, s.2.set i (.ins c' (putFP f (.int (n + k)) fs'))) else none
            | _ => none
          | _ => none
        | _ => none
      else none
    | _ => none
  | _ => none
theorem rs_fldaug {C : Nat} (hc : Cls X.K (cl C)) (hn : NoAttr X.K (cl C) f) (ho : RX cl X o mo) (hv : RX cl X value me) : RS cl X (.AugAssign (.Attribute o f tpos) .Add value pos) (sFa C f mo me) :=
  PS.imp (ps_fldaug (rd := rAdd) ho hv in_add) fun D σ H ⟨ρ, env, mem, r, hm, hE, h, q⟩ => by
    unfold sFa at h
    obtain ⟨r1, e1, h⟩ := Option.bind_eq_some_iff.mp h
    refine ⟨ρ, env, mem, r1, hm, hE, e1, fun ρ1 v1 H1 x1 m1 p1 => ?_⟩
    split at h
    · rename_i i hi
      rw [hi, rep_ref] at p1
      obtain ⟨a, ha, rfl⟩ := p1
      split at h
      · rename_i c fs hf
        split at h
        · rename_i hC
          subst hC
          split at h
          · rename_i n hl
            obtain ⟨r2, e2, h⟩ := Option.bind_eq_some_iff.mp h
            obtain ⟨dx, gs, z1, z2⟩ := m1.ok i a _ ha hf
            have z3 := repF_lookup f z2
            rw [hl] at z3
            obtain ⟨w, w1, w2⟩ := z3
            rw [rep_int] at w2
            subst w2
            refine ⟨a, _, dx, gs, _, rfl, z1, hc, hn, w1, ρ1, env, r1.2, r2, m1, hE.ext x1, e2, fun ρ2 v2 H2 x2 m2 p2 => ?_⟩
            split at h
            · rename_i k hk
              rw [hk, rep_int] at p2
              subst p2
              split at h
              · rename_i c' fs' hf'
                split at h
                · rename_i hC'
                  obtain ⟨hC', hl'⟩ := hC'
                  obtain rfl := Option.some.inj h
                  have ha2 : ρ2[i]? = some a := by
                    obtain ⟨t, ht⟩ := x2.pre
                    rw [← ht, List.getElem?_append_left (List.getElem?_eq_some_iff.mp ha).1]
                    exact ha
                  obtain ⟨dx', gs', y1, y2⟩ := m2.ok i a _ ha2 hf'
                  subst hC'
                  refine ⟨n, k, rfl, rfl, dx', gs', y1, by rw [← Paired.length y2]; exact hl', ?_⟩
                  have x3 : Ext X.K ρ2 H2 ρ2 (upd H2 a (.ins (cl c') dx' (putF f (.int (n + k)) gs'))) := ext_set m2 ha2 hf' rfl
                  exact q ρ2 σ _ ((x1.trans x2).trans x3) (m2.set ha2 hf' rfl rfl ⟨dx', _, upd_same, putFP_rep f (by rw [rep_int]) (x3.repF y2)⟩) ((hE.ext (x1.trans x2)).ext x3)
                · cases h
              · cases h
            · cases h
          · cases h
        · cases h
      · cases h
    · cases h
end
end Rf
end

section
set_option Elab.async false
set_option linter.all false
set_option maxRecDepth 100000
set_option autoImplicit false
/-! sets of hashable values, from a list or a tuple: which members, how many -/
namespace RY
open PySem PySem.Spec PyProof.Rows
section
variable {K : Type} [DecidableEq K]
/-- each once, in the order of the first coming -/
def once : List K → List K → List K
  | acc, [] => acc
  | acc, k :: ks => once (if k ∈ acc then acc else acc ++ [k]) ks
theorem once_snoc : ∀ (ks acc : List K) (k : K), once acc (ks ++ [k]) = (if k ∈ once acc ks then once acc ks else once acc ks ++ [k])
  | [], acc, k => rfl
  | j :: ks, acc, k => by
    show once _ (ks ++ [k]) = _
    exact once_snoc ks _ k
theorem once_mem : ∀ (ks acc : List K) (k : K), k ∈ once acc ks ↔ k ∈ acc ∨ k ∈ ks
  | [], acc, k => by simp [once]
  | j :: ks, acc, k => by
    show k ∈ once _ ks ↔ _
    rw [once_mem ks]
    by_cases h : j ∈ acc
    · rw [if_pos h, List.mem_cons]
      constructor
      · rintro (z | z)
        · exact .inl z
        · exact .inr (.inr z)
      · rintro (z | rfl | z)
        · exact .inl z
        · exact .inl h
        · exact .inr z
    · rw [if_neg h, List.mem_append, List.mem_singleton, List.mem_cons, or_assoc]
theorem once_nodup : ∀ (ks acc : List K), acc.Nodup → (once acc ks).Nodup
  | [], acc, h => h
  | j :: ks, acc, h => by
    show (once _ ks).Nodup
    apply once_nodup
    split
    · exact h
    · rename_i hj
      rw [List.nodup_append]
      exact ⟨h, by simp, fun a ha b hb e => hj (by rw [List.mem_singleton.mp hb] at e; exact e ▸ ha)⟩
abbrev uniq (ks : List K) : List K := once [] ks
end
section
variable {P : Program} {w : World} {A : Around} {K : Type} [DecidableEq K] {knd : PySem.KeyKind P w K}
variable {R : Result → Shared → Prop} {I : Addr} {fp wr : List Addr} {G : Array GenState → Array GenState → Prop} {n : Nat} {Pv : Nat → Value → Prop} {St : Nat → Shared → Prop}
/-- the set at S has the first i of the keys -/
def Has (knd : PySem.KeyKind P w K) (h : Heap) (S : Addr) (ks : List K) (i : Nat) : Prop := h.SetOf knd S (fun k => decide (k ∈ ks.take i)) (uniq (ks.take i)).length
theorem Has.moved {ks : List K} {i : Nat} {h h' : Heap} {S : Addr} (x : Has knd h S ks i) (k : ∀ o, h.get? S = some o → h'.get? S = some o) : Has knd h' S ks i := by
  obtain ⟨o, es, ep, t, e1, e2⟩ := x
  exact ⟨o, es, ep, t, k o e1, e2⟩
theorem uniq_le (ks : List K) : (uniq ks).length ≤ ks.length := by
  have : ∀ (ks acc : List K), (once acc ks).length ≤ acc.length + ks.length := by
    intro ks
    induction ks with
    | nil => intro acc; simp [once]
    | cons j ks ih =>
      intro acc
      have z := ih (if j ∈ acc then acc else acc ++ [j])
      show (once _ ks).length ≤ _
      rw [List.length_cons]
      split at z
      · rename_i c; rw [if_pos c]; omega
      · rename_i c; rw [if_neg c]; rw [List.length_append] at z; simp at z; omega
  simpa using this ks []
theorem Has.next {ks : List K} {i : Nat} {h' : Heap} {S : Addr} {k : K} (hk : ks[i]? = some k) (x : h'.SetOf knd S (fun j => decide (j ∈ ks.take i) || decide (j = k)) (if decide (k ∈ ks.take i) = true then (uniq (ks.take i)).length else (uniq (ks.take i)).length + 1)) : Has knd h' S ks (i + 1) := by
  have et : ks.take (i + 1) = ks.take i ++ [k] := by rw [List.take_add_one, hk]; rfl
  have eu : (uniq (ks.take (i + 1))).length = if decide (k ∈ ks.take i) = true then (uniq (ks.take i)).length else (uniq (ks.take i)).length + 1 := by
    rw [et]
    show (once [] _).length = _
    rw [once_snoc]
    have hm : k ∈ once [] (ks.take i) ↔ k ∈ ks.take i := by rw [once_mem]; simp
    by_cases c : k ∈ ks.take i
    · rw [if_pos (hm.mpr c), if_pos (decide_eq_true c)]
    · rw [if_neg (fun z => c (hm.mp z)), if_neg (by simpa using c), List.length_append]
      rfl
  unfold Has
  rw [eu]
  obtain ⟨o, es, ep, t, e1, e2, e3, e4, e5, e6⟩ := x
  refine ⟨o, es, ep, t, e1, e2, e3, e4, fun j => ?_, e6⟩
  rw [← e5 j, et]
  simp
/-- set.update's loop, keys that hash alone -/
theorem upd_keys (W : WalksS P w A.in1 I fp wr G n Pv St) (S : Addr) (out : S ∉ fp) (ks : List K) (len : ks.length = n) (room : n + 1 < scanBound)
    (each : ∀ i v, Pv i v → ∃ k, ks[i]? = some k ∧ knd.is k v = true ∧ v.scannable = true) :
    ∀ (d i : Nat) (s : Shared), n - i = d → i ≤ n → St i s → Has knd s.heap S ks i → (∀ s', Moved (S :: wr) G s s' → Has knd s'.heap S ks n → R (.ok (.ret .none)) s') →
      codeAny (model P w) A (.builtin "set.update.loop" ⟨[.ref S, .ref I], []⟩) R s := by
  have outw : S ∉ wr := fun z => out (W.sub _ z)
  have grow : ∀ b ∈ wr, b ∈ S :: wr := fun _ z => List.mem_cons_of_mem _ z
  intro d
  induction d with
  | zero =>
    intro i s hd hi st has fin
    obtain rfl : i = n := by omega
    refine codeAny_builtin F.entry_set_update_loop ?a
    case a =>
      rw [Around.under_plainId F.plain_set_update_loop _]
      show wpAny _ A.in1 (pyNext (.ref I) >>= _) _ _ s
      refine wpAny_bind (W.done s _ _ st fun t mv => ?b)
      case b =>
        show wpAny _ A.in1 (ret Value.none) _ _ t
        exact wpAny_pure (fin t (mv.mono grow) (has.moved fun o => mv.heap S o outw))
  | succ d ih =>
    intro i s hd hi st has fin
    have lt : i < n := by omega
    refine codeAny_builtin F.entry_set_update_loop ?a
    case a =>
      rw [Around.under_plainId F.plain_set_update_loop _]
      show wpAny _ A.in1 (pyNext (.ref I) >>= _) _ _ s
      refine wpAny_bind (W.item i s _ _ lt st fun v t pv st' mv => ?b)
      case b =>
        obtain ⟨k, ek, is_, sc⟩ := each i v pv
        have has' := has.moved fun o => mv.heap S o outw
        show wpAny _ A.in1 (holding [v] (setAdd S v) >>= _) _ _ t
        refine wpAny_bind (wpAny_holding ?c)
        case c =>
          unfold setAdd
          refine wpAny_holding (wpAny_bind (knd.pyHash (k := k) is_ ?_))
          have bound : (uniq (ks.take i)).length + 1 < scanBound := by
            have := uniq_le (ks.take i)
            rw [List.length_take] at this
            omega
          refine wpAny_setAddHashed_of (s := { t with toks := t.toks + 1 }) is_ sc has' bound fun h' same more => ?_
          have nx := Has.next ek more
          refine wpAny_pure ⟨plainId_quiet F.plain_set_update_loop _, ih (i + 1) _ (by omega) lt (W.frame _ t _ _ st' (Nat.le_succ _) fun b hb o e => ?_) nx fun u mv' fl => ?_⟩
          · exact (same.2 b fun z : b = S => out (z ▸ hb)).trans e
          · exact fin u (Moved.trans W.gtrans ((mv.mono grow).then_heap (Nat.le_succ _) fun b o hb e => (same.2 b fun z : b = S => hb (z ▸ List.mem_cons_self)).trans e) mv') fl
end
end RY
end

section
set_option Elab.async false
set_option linter.all false
set_option maxRecDepth 100000
set_option autoImplicit false
namespace RY
open PySem PySem.Spec PyProof.Rows
section
variable {P : Program} {w : World} {A : Around} {E : Value → Shared → Prop} {s : Shared} {K : Type} [DecidableEq K] {knd : PySem.KeyKind P w K}
/-- an empty set, as it is laid -/
abbrev nset (led : Bool) : Obj := { cls := .type "set", dict := none, data := .set #[] 0 (.fresh 0 0 led) }
theorem has_new (led : Bool) {h : Heap} {S : Addr} (ks : List K) (e : h.get? S = some (nset led)) : Has knd h S ks 0 := by
  have z := (PyProof.Rows.setObjOf_fresh (knd := knd) led).setOf e (by unfold scanBound; omega)
  obtain ⟨o, es, ep, t, e1, e2, e3, e4, e5, e6⟩ := z
  refine ⟨o, es, ep, t, e1, e2, e3, e4, fun k => ?_, e6⟩
  rw [← e5 k]
  simp
set_option maxHeartbeats 3200000 in
/-- set(t), t a tuple: by the loop that adds its items -/
theorem set_gen {l : Addr} {items : Array Value} (Fin : Heap → Prop) {Q : Value → Shared → Prop} (free : A.handled = none) (tup : s.heap.IsTuple l items)
    (loop : ∀ {I : Addr} {fp wr : List Addr} {G : Array GenState → Array GenState → Prop} {St : Nat → Shared → Prop} {R : Result → Shared → Prop} (led : Bool) (s1 : Shared), WalksS P w A.in1.in1.in1 I fp wr G items.size (fun i v => items[i]? = some v) St → s.heap.objs.size ∉ fp → (∀ b ∈ wr, s.heap.get? b = none) → St 0 s1 →
      s1.heap.get? s.heap.objs.size = some (nset led) → led = (!w.params.followText "set-order") → (∀ b o, s.heap.get? b = some o → s1.heap.get? b = some o) → (∀ s', Moved (s.heap.objs.size :: wr) G s1 s' → Fin s'.heap → R (.ok (.ret .none)) s') →
      codeAny (model P w) A.in1.in1 (.builtin "set.update.loop" ⟨[.ref s.heap.objs.size, .ref I], []⟩) R s1)
    (fin : ∀ (h' : Heap) (tk : Nat), Fin h' → (∀ b o, b < s.heap.objs.size → s.heap.get? b = some o → h'.get? b = some o) → Q (.ref s.heap.objs.size) { s with heap := h', toks := tk }) :
    wpAny (model P w) A (call (.type "set") [.ref l]) Q E s := by
  obtain ⟨mc, mt, m1⟩ := F.called_set.mro
  have m2 := F.called_set.made
  have m3 := F.called_set.sub
  refine wpAny_call (codeAny_of_tree ?top)
  case top =>
    show wpAny _ _ (callAny (.type "set") _) _ _ _
    refine wpAny_pure ⟨Code.quiet_builtin _ (by decide +kernel), codeAny_builtin F.entry_type_call ?made⟩
    case made =>
      rw [Around.under_plain (weight_type_call_type "set" [.ref l] []) rfl]
      have m4 := F.called_set.notType
      have m5 := F.called_set.canCreate
      have m6 := F.typeCall_set_1 (.ref l)
      repeat (any_goals (first | assumption | wp_step))
      refine codeAny_mono (L2.code_set_led1 (.ref l) (E := E) (Q₁ := fun x s1 => x = .ref s.heap.objs.size ∧ s1 = { s with heap := s.heap.push (nset (!w.params.followText "set-order")) }) ⟨rfl, rfl⟩) fun r s1 hr => ?next
      case next =>
        cases r with
        | error e => exact hr
        | ok fl =>
          cases fl with
          | ret x =>
            obtain ⟨rfl, rfl⟩ := hr
            generalize hl0 : (!w.params.followText "set-order") = led
            have hled : led = (!w.params.followText "set-order") := hl0.symm
            have new : (s.heap.push (nset led)).get? s.heap.objs.size = some (nset led) := Heap.get?_push_size _ rfl
            have ty : Shared.TypeIs { s with heap := s.heap.push (nset led) } (.ref s.heap.objs.size) "set" := ⟨_, new, rfl⟩
            have i1 := F.called_set.init.lookup
            have i2 := F.called_set.init.bind (.ref s.heap.objs.size)
            repeat (any_goals (first | assumption | wp_step))
            refine codeAny_mono (codeAny_call_builtin (R := wants (fun r t => r = .none ∧ ∃ h' tk, t = { s with heap := h', toks := tk } ∧ Fin h' ∧ (∀ b o, b < s.heap.objs.size → s.heap.get? b = some o → h'.get? b = some o)) E) F.called_set.init.plain F.entry_set_init (check_set_init_1 ty ?init)) fun r t ht => ?end_
            case init =>
              obtain ⟨⟨oc, od, odt, osl⟩, g1, g2, g3, g4⟩ := tup
              simp only at g2 g4
              subst g2 g4
              have g5 : (s.heap.push (nset led)).get? l = some { cls := .type "tuple", dict := od, data := .seq items g3, slots := osl } := Heap.get?_push_of_some _ g1
              have j1 := F.sub_tuple_set
              have j2 := F.sub_tuple_frozenset
              have j3 : (Value.type "tuple" == Value.type "dict") = false := by decide
              have g6 : (s.heap.push (nset led)).IsTuple l items := ⟨_, g5, rfl, g3, rfl⟩
              unfold Builtin.«set.__init__» noKeywords Builtin.Frozenset.updateFrom
              generalize hit : pyIter = IT
              wp_walk
              subst hit
              refine wpAny_pyIter_tuple g6 (wpAny_bind (wpAny_runValue ?loop))
              case loop =>
                have low : l < s.heap.objs.size := Heap.lt_size g1
                have fr3 : A.in1.in1.in1.handled = none := by simp [free]
                have off : l ≠ (s.heap.push (nset led)).objs.size := by
                  rw [Heap.size_push]
                  exact Nat.ne_of_lt (Nat.lt_succ_of_lt low)
                have out : s.heap.objs.size ∉ [(s.heap.push (nset led)).objs.size, l] := by
                  rw [Heap.size_push]
                  simp only [List.mem_cons, List.not_mem_nil, or_false, not_or]
                  exact ⟨Nat.ne_of_lt (Nat.lt_succ_self _), Nat.ne_of_gt low⟩
                refine loop led _ ((Walks.tuple fr3 _ l off items).toS) out (fun b hb => ?gone) ⟨⟨_, Heap.get?_push_size _ rfl, rfl, rfl⟩, g6.push _⟩ (Heap.get?_push_of_some _ new) hled (fun b o e => Heap.get?_push_of_some _ (Heap.get?_push_of_some _ e)) ?done
                case gone =>
                  cases q : s.heap.get? b with
                  | none => rfl
                  | some o =>
                    have z := Heap.lt_size q
                    rw [List.mem_singleton.mp hb, Heap.size_push] at z
                    exact absurd z (Nat.not_lt_of_lt (Nat.lt_succ_self _))
                case done =>
                  intro u mv has
                  obtain ⟨uh, ug, ud, ut, uo⟩ := u
                  obtain rfl : ug = s.gens := mv.gens
                  obtain rfl : ud = s.drawn := mv.drawn
                  obtain rfl : uo = s.os := mv.os
                  show wpAny _ _ _ _ _ _
                  refine wpAny_pure ?ret
                  case ret =>
                    show wpAny _ _ (ret Value.none) _ _ _
                    refine wpAny_pure ⟨rfl, uh, ut, rfl, has, fun b o hb e => mv.heap b o ?_ (Heap.get?_push_of_some _ (Heap.get?_push_of_some _ e))⟩
                    rw [Heap.size_push]
                    simp only [List.mem_cons, List.not_mem_nil, or_false, not_or]
                    exact ⟨Nat.ne_of_lt hb, Nat.ne_of_lt (Nat.lt_succ_of_lt hb)⟩
            case end_ =>
              cases r with
              | error e => exact ht
              | ok f2 =>
                cases f2 with
                | ret r =>
                  obtain ⟨rfl, h', tk, rfl, x1, x2⟩ := ht
                  repeat (any_goals (first | assumption | wp_step))
                  exact fin _ _ x1 x2
                | _ => exact ht.elim
          | _ => exact hr.elim
theorem set_tup (knd : PySem.KeyKind P w K) {l : Addr} {items : Array Value} (ks : List K) {Q : Value → Shared → Prop} (free : A.handled = none) (tup : s.heap.IsTuple l items) (len : ks.length = items.size) (room : items.size + 1 < scanBound)
    (each : ∀ (i : Nat) (v : Value), items[i]? = some v → ∃ k, ks[i]? = some k ∧ knd.is k v = true ∧ v.scannable = true)
    (fin : ∀ (h' : Heap) (tk : Nat), Has knd h' s.heap.objs.size ks ks.length → (∀ b o, b < s.heap.objs.size → s.heap.get? b = some o → h'.get? b = some o) → Q (.ref s.heap.objs.size) { s with heap := h', toks := tk }) :
    wpAny (model P w) A (call (.type "set") [.ref l]) Q E s :=
  set_gen (fun h => Has knd h s.heap.objs.size ks ks.length) free tup (fun led s1 W out _ st new _ _ done => upd_keys (knd := knd) W s.heap.objs.size out ks len room each (items.size - 0) 0 s1 (by omega) (Nat.zero_le _) st (has_new led ks new) fun s' mv has => done s' mv (len ▸ has)) fin
open L2 TS in
/-- set(t), t a tuple of tuples of ints -/
theorem set_tupT {l : Addr} {items : Array Value} (ks : List (Addr × List Int)) {Q : Value → Shared → Prop} (free : A.handled = none) (tup : s.heap.IsTuple l items) (its : items.toList = ks.map fun p => Value.ref p.1) (are : ∀ p ∈ ks, IsT P w s.heap p.2 p.1) (few : ks.length < 64) (hu : A.units + 3 < cLine)
    (fin : ∀ (h' : Heap) (tk : Nat), (∃ L es ep t, SetTR P w h' s.heap.objs.size L es ep t ∧ Got ks ks.length L) → (∀ b o, b < s.heap.objs.size → s.heap.get? b = some o → h'.get? b = some o) → Q (.ref s.heap.objs.size) { s with heap := h', toks := tk }) :
    wpAny (model P w) A (call (.type "set") [.ref l]) Q E s := by
  have len : items.size = ks.length := by rw [← Array.length_toList, its, List.length_map]
  refine set_gen (fun h => ∃ L es ep t, SetTR P w h s.heap.objs.size L es ep t ∧ Got ks ks.length L) free tup (fun led s1 W out gone st new hled keep done => ?_) fin
  refine set_update_tups W s.heap.objs.size out ks len few (fun i v hv => ?_) s.heap are (by
    cases q : s.heap.get? s.heap.objs.size with
    | none => rfl
    | some o => exact absurd (Heap.lt_size q) (Nat.lt_irrefl _)) gone hu (items.size - 0) 0 s1 (by omega) (Nat.zero_le _) st keep ?_ fun s' L es ep t mv x g _ => done s' mv ⟨L, es, ep, t, x, len ▸ g⟩
  · have q : items.toList[i]? = some v := by rw [Array.getElem?_toList]; exact hv
    rw [its, List.getElem?_map] at q
    obtain ⟨p, e1, e2⟩ := Option.map_eq_some_iff.mp q
    exact ⟨p, e1, e2.symm⟩
  · subst hled
    exact ⟨[], #[], 0, _, setTR_fresh new, Got.zero ks⟩
end
end RY
end

section
set_option Elab.async false
set_option linter.all false
set_option maxRecDepth 100000
set_option autoImplicit false
namespace Rf
open PySem PySem.Spec L2 PyProof.Rows
section
variable {X : Cx} {cl : Nat → Addr} {a : Expr} {pos p p2 q : Pos} {ma : Ex}
theorem ints_inv {K : PySem.W.Frag} {ρ : List Addr} {H : Hp} : ∀ {is : List Int} {xs : List V}, RepL K ρ H (is.map PV.int) xs → xs = is.map V.int
  | [], xs, h => h.inv0
  | i :: is, xs, h => by
    obtain ⟨w, ws, rfl, i1, i2⟩ := RepL.inv h
    rw [rep_int] at i1
    rw [i1, ints_inv i2]; rfl
theorem rows_ks {K : PySem.W.Frag} {ρ : List Addr} {H : Hp} : ∀ {rs : List (List Int)} {xs : List V}, RepL K ρ H (rs.map rowV) xs → ∃ ks : List (Addr × List Int), xs = (ks.map fun p => V.ref p.1) ∧ ks.map (·.2) = rs ∧ ∀ p ∈ ks, SqT K H p.1 (p.2.map V.int)
  | [], xs, h => ⟨[], h.inv0, rfl, nofun⟩
  | r :: rs, xs, h => by
    obtain ⟨w, ws, rfl, i1, i2⟩ := RepL.inv h
    obtain ⟨ks, rfl, rfl, k3⟩ := rows_ks i2
    replace i1 : Rep K ρ H (.tup (r.map PV.int)) w := i1
    rw [rep_tup] at i1
    obtain ⟨t, ys, rfl, j1, j2⟩ := i1
    obtain rfl := ints_inv j2
    exact ⟨(t, r) :: ks, rfl, rfl, fun p m => (List.mem_cons.mp m).elim (fun z => z ▸ j1.t) (k3 p)⟩
theorem once_perm {K : Type} [DecidableEq K] {L ks : List K} (nd : L.Nodup) (h : ∀ k, k ∈ L ↔ k ∈ ks) : L.length = (RY.uniq ks).length :=
  ((List.perm_ext_iff_of_nodup nd (RY.once_nodup ks [] (by simp))).mpr fun k => by rw [h, RY.once_mem]; simp).length_eq
/-- len(set(t)), t a tuple of rows of ints -/
def lenSetG (p : PV) (m : Mem) : Option (PV × Mem) := match p with
  | .tup ps => (rowsP ps).bind fun rs => if rs.length < 64 then some (.int (RY.uniq rs).length, m) else none
  | _ => none
theorem rx_lenSet (hc : X.calm = true) (hu : X.A.units + 64 < cLine) (hg : Gl X "len") (hm : X.mg "len" = none) (hg2 : Gl X "set") (hm2 : X.mg "set" = none) (ha : RX cl X a ma) (na : starEach [a] X.env = (false, eval a X.env) :: starEach [] X.env := by rfl) :
    RX cl X (.Call (.Name "len" p) [.Call (.Name "set" p2) [a] [] q] [] pos) (x1 lenSetG ma) := by
  refine ⟨fun pins s σ H Q I h => ?_⟩
  have w2 : TX X.K cl ma σ H fun y H2 => ∃ (t : Addr) (ks : List (Addr × List Int)), y = .ref t ∧ SqT X.K H2 t (ks.map fun p => V.ref p.1) ∧ (∀ p ∈ ks, SqT X.K H2 p.1 (p.2.map V.int)) ∧ ks.length < 64 ∧ Q (.int (RY.uniq (ks.map (·.2))).length) H2 := by
    obtain ⟨ρ, env, mem, r, hm, hE, e, q⟩ := h
    unfold x1 at e
    obtain ⟨⟨y, mm⟩, e1, e2⟩ := Option.bind_eq_some_iff.mp e
    refine ⟨ρ, env, mem, _, hm, hE, e1, fun ρ1 v H1 y1 m1 p1 => ?_⟩
    cases y with
    | tup ps =>
      obtain ⟨rs, f1, f2⟩ := Option.bind_eq_some_iff.mp (show (rowsP ps).bind (fun rs => if rs.length < 64 then some (PV.int (RY.uniq rs).length, mm) else none) = some r from e2)
      split at f2
      · rename_i hl
        cases f2
        replace p1 : Rep X.K ρ1 H1 (.tup ps) v := p1
        rw [rep_tup] at p1
        obtain ⟨t, ys, rfl, j1, j2⟩ := p1
        obtain ⟨rfl, _⟩ := rowsP_eq f1
        obtain ⟨ks, rfl, k2, k3⟩ := rows_ks j2
        refine ⟨t, ks, rfl, j1.t, k3, by rw [← k2, List.length_map] at hl; exact hl, ?_⟩
        rw [k2]
        exact q _ _ _ y1 m1 (by rw [rep_int])
      · cases f2
    | _ => cases e2
  refine Call_ (ld_blt I hg hm boot_len (PyProof.Rows.callWith_builtin1 (PyProof.Rows.args_cons ?inner rfl) rfl rfl))
  case inner =>
    refine Call_ (ld_blt I hg2 hm2 PyProof.Rows.boot_set (PyProof.Rows.callWith_type1 (PyProof.Rows.args_cons (thn (ha.run pins s σ H _ I w2) fun v s1 ⟨x, H1, I1, rx, ex⟩ => PyProof.Rows.args_nil ?made) na) na rfl))
    case made =>
      obtain ⟨t, ks, rfl, sq, each, few, q1⟩ := ex
      obtain rfl : v = Value.ref t := rx
      obtain ⟨its, r, pl, _⟩ := I1.tuple sq
      have ei := refs_of_vals r
      refine RY.set_tupT ks (I1.ok.hd hc) pl (by simpa using ei) (fun p m => I1.isT (each p m)) few (by omega) fun h' tk ⟨L, es, ep, tb, R, g⟩ keep => ?got
      case got =>
        refine PyProof.Rows.args_nil ?_
        obtain ⟨o, ho, hex, hd⟩ := R.ob
        have I2 : Inv X pins σ H1 { s1 with heap := h', toks := tk } := I1.kept fun b o e => keep b o (Heap.lt_size e) e
        have sz := R.size (s := { s1 with heap := h', toks := tk })
        have num : es.size = (RY.uniq (ks.map (·.2))).length := by
          rw [sz, ← List.length_map (f := fun p : Addr × List Int => p.2)]
          refine once_perm R.nd fun k => ?_
          constructor
          · intro m
            obtain ⟨z, mz, rfl⟩ := List.mem_map.mp m
            exact List.mem_map_of_mem (List.mem_of_mem_take (g.sub z mz))
          · intro m
            obtain ⟨z, mz, rfl⟩ := List.mem_map.mp m
            exact g.all z (by rw [List.take_length]; exact mz)
        refine call_len_set (s := { s1 with heap := h', toks := tk }) ho hex hd (R.fits (s := { s1 with heap := h', toks := tk })) ?fit ⟨.int es.size, H1, I2.tok _, ⟨_, rfl⟩, ?ans⟩
        case fit => have := R.few; rw [sz]; omega
        case ans => rw [num]; exact q1
end
end Rf
end

section
set_option Elab.async false
set_option linter.all false
set_option maxRecDepth 100000
set_option autoImplicit false
/-! sets of texts, each text once -/
namespace RY
open PySem PySem.Spec PyProof.Rows L2 PySem.Froz
section
variable {P : Program} {w : World} {A : Around} {E : Value → Shared → Prop} {s : Shared}
/-- the payload holds the texts, in an order that can be walked -/
structure Tx (P : Program) (w : World) (h : Heap) (S : Addr) (l : List Str) : Prop where
  at_ : ∃ D : SD, h.get? S = some (sObj "set" D) ∧ TxOk P w D l ∧ Ris D.2.2.place.toList ∧ (w.params.followText "set-order" = true ∨ D.2.2.led = true)
theorem add_walk {D : SD} (x : Int) (v : Value) (r : Ris D.2.2.place.toList) : Ris (addTx x v D).2.2.place.toList ∧ (addTx x v D).2.2.led = D.2.2.led := by
  obtain ⟨es, ep, t⟩ := D
  have n1 := layNew_ris t es x v r
  have n2 := layNew_led t es x v
  unfold addTx
  simp only
  generalize layNew t es x v = N at *
  obtain ⟨e1, t1, b1, b2⟩ := N
  simp only at *
  unfold tailTx
  have key : ∀ t2 : SetTable, Ris t2.place.toList → t2.led = t.led → Ris (if (!b1 && t2.tooFull) = true then ((relayAll t2 e1 (SetTable.grown e1.size)).1, ep + 2, (relayAll t2 e1 (SetTable.grown e1.size)).2.1) else (e1, ep + 1, t2) : SD).2.2.place.toList ∧ (if (!b1 && t2.tooFull) = true then ((relayAll t2 e1 (SetTable.grown e1.size)).1, ep + 2, (relayAll t2 e1 (SetTable.grown e1.size)).2.1) else (e1, ep + 1, t2) : SD).2.2.led = t.led := fun t2 r2 l2 => by
    split
    · exact ⟨relayAll_ris _ _ _, (relayAll_led _ _ _).trans l2⟩
    · exact ⟨r2, l2⟩
  split
  · exact key _ n1 n2
  · exact key _ n1 n2
variable {R : Result → Shared → Prop} {I : Addr} {fp wr : List Addr} {G : Array GenState → Array GenState → Prop} {n : Nat} {Pv : Nat → Value → Prop} {St : Nat → Shared → Prop}
theorem Tx.moved {l : List Str} {h h' : Heap} {S : Addr} (x : Tx P w h S l) (k : ∀ o, h.get? S = some o → h'.get? S = some o) : Tx P w h' S l := by
  obtain ⟨D, e1, e2⟩ := x.at_
  exact ⟨D, k _ e1, e2⟩
theorem upd_texts (W : WalksS P w A.in1 I fp wr G n Pv St) (S : Addr) (out : S ∉ fp) (ys : List Str) (len : ys.length = n) (room : n + 1 < scanBound) (nd : ys.Nodup)
    (each : ∀ (i : Nat) (v : Value), Pv i v → ∃ k u, ys[i]? = some k ∧ v = .str k u) :
    ∀ (d i : Nat) (s : Shared), n - i = d → i ≤ n → St i s → Tx P w s.heap S (ys.take i).reverse → (∀ s', Moved (S :: wr) G s s' → Tx P w s'.heap S (ys.take n).reverse → R (.ok (.ret .none)) s') →
      codeAny (model P w) A (.builtin "set.update.loop" ⟨[.ref S, .ref I], []⟩) R s := by
  have outw : S ∉ wr := fun z => out (W.sub _ z)
  have grow : ∀ b ∈ wr, b ∈ S :: wr := fun _ z => List.mem_cons_of_mem _ z
  intro d
  induction d with
  | zero =>
    intro i s hd hi st has fin
    obtain rfl : i = n := by omega
    refine codeAny_builtin F.entry_set_update_loop ?a
    case a =>
      rw [Around.under_plainId F.plain_set_update_loop _]
      show wpAny _ A.in1 (pyNext (.ref I) >>= _) _ _ s
      refine wpAny_bind (W.done s _ _ st fun t mv => ?b)
      case b =>
        show wpAny _ A.in1 (ret Value.none) _ _ t
        exact wpAny_pure (fin t (mv.mono grow) (has.moved fun o => mv.heap S o outw))
  | succ d ih =>
    intro i s hd hi st has fin
    have lt : i < n := by omega
    refine codeAny_builtin F.entry_set_update_loop ?a
    case a =>
      rw [Around.under_plainId F.plain_set_update_loop _]
      show wpAny _ A.in1 (pyNext (.ref I) >>= _) _ _ s
      refine wpAny_bind (W.item i s _ _ lt st fun v t pv st' mv => ?b)
      case b =>
        obtain ⟨k, u, ek, rfl⟩ := each i v pv
        obtain ⟨D, d1, d2, d3, d4⟩ := (has.moved fun o => mv.heap S o outw).at_
        have fresh : k ∉ (ys.take i).reverse := by
          rw [List.mem_reverse]
          intro z
          obtain ⟨j, hj⟩ := List.mem_iff_getElem?.mp z
          rw [List.getElem?_take] at hj
          split at hj
          · rename_i c
            obtain ⟨q1, q2⟩ := List.getElem?_eq_some_iff.mp hj
            obtain ⟨q3, q4⟩ := List.getElem?_eq_some_iff.mp ek
            exact List.pairwise_iff_getElem.mp nd j i q1 q3 c (q2.trans q4.symm)
          · cases hj
        show wpAny _ A.in1 (holding [Value.str k u] (setAdd S (.str k u)) >>= _) _ _ t
        refine wpAny_bind (wpAny_holding ?c)
        case c =>
          unfold setAdd
          refine wpAny_holding (wpAny_bind ((strKind P w).pyHash (k := k) (is_str k u) ?_))
          have bound : (ys.take i).reverse.length + 1 < scanBound := by
            rw [List.length_reverse, List.length_take]
            omega
          refine add_x (s := { t with toks := t.toks + 1 }) d1 d2 fresh bound ?_
          have et : (ys.take (i + 1)).reverse = k :: (ys.take i).reverse := by rw [List.take_add_one, ek]; simp
          have put : (t.heap.update S (fun _ => sObj "set" (addTx (hashStr w k) (.str k u) D))).get? S = some (sObj "set" (addTx (hashStr w k) (.str k u) D)) := Heap.get?_update_self _ d1 rfl
          have aw := add_walk (hashStr w k) (.str k u) d3
          have nx : Tx P w (t.heap.update S (fun _ => sObj "set" (addTx (hashStr w k) (.str k u) D))) S (ys.take (i + 1)).reverse := ⟨_, put, et ▸ add_ok u d2, aw.1, by rw [aw.2]; exact d4⟩
          refine wpAny_pure ⟨plainId_quiet F.plain_set_update_loop _, ih (i + 1) _ (by omega) lt (W.frame _ t _ _ st' (Nat.le_succ _) fun b hb o e => ?_) nx fun u' mv' fl => ?_⟩
          · exact (Heap.get?_update_other _ _ (fun z : S = b => out (z ▸ hb))).trans e
          · exact fin u' (Moved.trans W.gtrans ((mv.mono grow).then_heap (Nat.le_succ _) fun b o hb e => (Heap.get?_update_other _ _ (fun z : S = b => hb (z ▸ List.mem_cons_self))).trans e) mv') fl
/-- set(t), t a tuple of texts, each once -/
theorem set_tupS {l : Addr} {items : Array Value} (ys : List Str) {Q : Value → Shared → Prop} (free : A.handled = none) (tup : s.heap.IsTuple l items) (len : ys.length = items.size) (room : items.size + 1 < scanBound) (nd : ys.Nodup)
    (each : ∀ (i : Nat) (v : Value), items[i]? = some v → ∃ k u, ys[i]? = some k ∧ v = .str k u)
    (fin : ∀ (h' : Heap) (tk : Nat), Tx P w h' s.heap.objs.size ys.reverse → (∀ b o, b < s.heap.objs.size → s.heap.get? b = some o → h'.get? b = some o) → Q (.ref s.heap.objs.size) { s with heap := h', toks := tk }) :
    wpAny (model P w) A (call (.type "set") [.ref l]) Q E s :=
  set_gen (fun h => Tx P w h s.heap.objs.size ys.reverse) free tup (fun led s1 W out _ st new hled _ done => upd_texts W s.heap.objs.size out ys len room nd each (items.size - 0) 0 s1 (by omega) (Nat.zero_le _) st ⟨(#[], 0, .fresh 0 0 led), new, TxOk.nil rfl, List.Pairwise.nil, by
    subst hled
    show _ ∨ (!w.params.followText "set-order") = true
    cases w.params.followText "set-order"
    · exact .inr rfl
    · exact .inl rfl⟩ fun s' mv has => done s' mv (by rw [← len, List.take_length] at has; exact has)) fin
end
end RY
end

section
set_option Elab.async false
set_option linter.all false
set_option maxRecDepth 100000
set_option autoImplicit false
namespace RY
open PySem PySem.Spec PyProof.Rows L2 PySem.Froz
theorem sub_perm {α : Type} [DecidableEq α] : ∀ {l z : List α}, l.Nodup → (∀ x ∈ l, x ∈ z) → z.length = l.length → l.Perm z
  | [], z, _, _, h => by rw [List.length_eq_zero_iff.mp h]
  | a :: l, z, nd, sub, h => by
    obtain ⟨n1, n2⟩ := List.nodup_cons.mp nd
    have ma := sub a List.mem_cons_self
    have p := List.perm_cons_erase ma
    have le := p.length_eq
    rw [List.length_cons] at le h
    refine (List.Perm.cons a (sub_perm n2 (fun x mx => ?_) (by omega))).trans p.symm
    have : x ∈ a :: z.erase a := p.mem_iff.mp (sub x (List.mem_cons_of_mem _ mx))
    exact (List.mem_cons.mp this).resolve_left fun e => n1 (e ▸ mx)
abbrev leS : Str → Str → Bool := PySem.W.dataLe false PyData.str
theorem leS_is (a b : Str) : leS a b = decide (a.cps.toList ≤ b.cps.toList) := by
  show (!PySem.W.dataLt (.str b) (.str a)) = _
  rw [PySem.W.dataLt_str]
  by_cases h : b.cps.toList < a.cps.toList
  · rw [decide_eq_true h, decide_eq_false (fun z => z h)]; rfl
  · rw [decide_eq_false h, decide_eq_true (List.not_lt.mp h)]; rfl
abbrev srtS (ys : List Str) : List Str := ys.mergeSort leS
theorem srtS_perm {z ys : List Str} (h : z.Perm ys) : srtS z = srtS ys := by
  have tr : ∀ a b c : Str, leS a b = true → leS b c = true → leS a c = true := fun a b c p q => by
    rw [leS_is] at p q ⊢
    exact decide_eq_true (List.le_trans (of_decide_eq_true p) (of_decide_eq_true q))
  have tt : ∀ a b : Str, (leS a b || leS b a) = true := fun a b => by
    rw [leS_is, leS_is]
    rcases List.le_total a.cps.toList b.cps.toList with p | p
    · rw [decide_eq_true p]; rfl
    · rw [decide_eq_true p, Bool.or_true]
  exact List.Perm.eq_of_pairwise (le := fun a b => leS a b = true) (fun a b _ _ p q => by
    rw [leS_is] at p q
    exact PySem.W.str_of_cps (List.le_antisymm (of_decide_eq_true p) (of_decide_eq_true q))) (List.pairwise_mergeSort tr tt z) (List.pairwise_mergeSort tr tt ys) ((List.mergeSort_perm z leS).trans (h.trans (List.mergeSort_perm ys leS).symm))
section
variable {P : Program} {w : World} {A : Around} {E : Value → Shared → Prop} {s : Shared}
abbrev IsS (v : Value) (k : Str) : Prop := ∃ u, v = .str k u
theorem texts_of : ∀ (vs : List Value), (∀ v ∈ vs, ∃ k u, v = Value.str k u) → ∃ zs : List Str, PySem.W.EachIs IsS vs zs ∧ ∀ k, k ∈ zs ↔ ∃ v ∈ vs, IsS v k
  | [], _ => ⟨[], .nil, fun k => by simp⟩
  | v :: vs, h => by
    obtain ⟨k, u, rfl⟩ := h v List.mem_cons_self
    obtain ⟨zs, z1, z2⟩ := texts_of vs fun v m => h v (List.mem_cons_of_mem _ m)
    refine ⟨k :: zs, .cons ⟨u, rfl⟩ z1, fun j => ?_⟩
    rw [List.mem_cons, z2 j]
    constructor
    · rintro (rfl | ⟨v, m, q⟩)
      · exact ⟨_, List.mem_cons_self, u, rfl⟩
      · exact ⟨v, List.mem_cons_of_mem _ m, q⟩
    · rintro ⟨v, m, q⟩
      rcases List.mem_cons.mp m with rfl | m
      · obtain ⟨u', e⟩ := q
        cases e
        exact .inl rfl
      · exact .inr ⟨v, m, q⟩
/-- sorted(set), the set of texts -/
theorem sorted_tx {a : Addr} {l : List Str} {Q : Value → Shared → Prop} (x : Tx P w s.heap a l) (nd : l.Nodup) (free : A.handled = none) (few : l.length < 4000) (hu : A.units + 64 < cLine)
    (fin : ∀ (s' : Shared) (p : Addr) (out : List Value) (c : Nat), (∀ b o, s.heap.get? b = some o → s'.heap.get? b = some o) → s'.gens = s.gens → s'.os = s.os → s.heap.objs.size ≤ p → s'.heap.get? p = some (seqObj "list" out.toArray c) → PySem.W.EachIs IsS out (srtS l) → Q (.ref p) s') :
    wpAny (model P w) A (call (.builtin "sorted") [.ref a]) Q E s := by
  obtain ⟨⟨es, ep, t⟩, d1, d2, d3, d4⟩ := x.at_
  have num : es.size = l.length := d2.sz
  refine Calls.call_function_entry kind_sorted plain_sorted entry_sorted (args_sorted1 _) ?body
  case body =>
    unfold Builtin.«sorted»
    refine wpAny_bind (m := checkCount "sorted" 1 1 _) (wpAny_pure ?walk)
    case walk =>
      refine wpAny_bind (collect_set (A := A.in1) free ⟨_, d1, rfl, rfl⟩ d2.fit (by show es.size < scanBound; unfold scanBound; omega) d3 d4 fun s1 vs k1 low g1 o1 pm => ?list)
      case list =>
        have vl : vs.length = l.length := by rw [pm.length_eq, List.length_map, Array.length_toList, num]
        have isS : ∀ v ∈ vs, ∃ k u, v = Value.str k u := fun v m => by
          obtain ⟨e, me, rfl⟩ := List.mem_map.mp (pm.mem_iff.mp m)
          obtain ⟨⟨k, q1, _⟩, _⟩ := d2.el e me
          obtain ⟨u, q2⟩ := Value.isStrOf_shape (x := k) (v := e.2) q1
          exact ⟨k, u, q2⟩
        obtain ⟨zs, z1, z2⟩ := texts_of vs isS
        have zl : zs.length = l.length := by rw [← vl, z1.length]
        have pz : l.Perm zs := sub_perm nd (fun k mk => by
          obtain ⟨e, me, q⟩ := (d2.mem k).mp mk
          obtain ⟨u, q2⟩ := Value.isStrOf_shape (x := k) (v := e.2) q
          exact (z2 k).mpr ⟨e.2, pm.mem_iff.mpr (List.mem_map_of_mem me), u, q2⟩) zl
        refine wpAny_bind (wpAny_newList ?sort (by rw [vl, sizeLine_eq]; omega))
        case sort =>
          have lo : (s1.heap.push (seqObj "list" vs.toArray 0)).get? s1.heap.objs.size = some (seqObj "list" vs.toArray 0) := Heap.get?_push_size _ rfl
          refine wpAny_bind (wpAny_holding (PySem.W.list_sort_data (enc := PyData.str) lo z1 (z1.mono fun v k ⟨u, e⟩ => ⟨[], e ▸ Reads.str _ _, nofun⟩) (PySem.W.AllAlike.of fun b b' => by show PySem.W.alike (.str b) (.str b') = true; simp [PySem.W.alike]) ?can (by rw [zl, sizeLine_eq]; omega) (fun b _ => ?room) fun out h3 h4 => ?done))
          case can =>
            refine .inr fun d hd => ?_
            obtain ⟨k, _, rfl⟩ := List.mem_map.mp hd
            exact ⟨nofun, nofun⟩
          case room =>
            show A.units + 1 + 1 + PyData.depth (.str b) < cLine
            rw [PyData.depth]
            omega
          case done =>
            obtain ⟨c, hc⟩ := sortedHeap_at (vs := vs) (out := out.toArray) lo
            have eS : zs.mergeSort leS = srtS l := srtS_perm pz.symm
            refine wpAny_pure ⟨_, rfl, fin _ s1.heap.objs.size out c (fun b o e => ?_) g1 o1 low hc (eS ▸ h4)⟩
            have q := k1 b o e
            have lt := Heap.lt_size q
            show (sortedHeap (s1.heap.push (seqObj "list" vs.toArray 0)) s1.heap.objs.size vs out.toArray).get? b = some o
            rw [sortedHeap_old (Nat.ne_of_lt lt) (by rw [size_push']; exact Nat.lt_succ_of_lt lt)]
            exact Heap.get?_push_of_some _ q
end
end RY
namespace Rf
open PySem PySem.Spec L2 PyProof.Rows
section
variable {X : Cx} {cl : Nat → Addr} {a : Expr} {pos p p2 q : Pos} {ma : Ex}
/-- sorted(set(t)), t a tuple of texts, each once -/
def srtSetG (p : PV) (m : Mem) : Option (PV × Mem) := match p with
  | .tup ps => (strsP ps).bind fun ys => if ys.Nodup ∧ ys.length < 4000 then some (.ref m.length, m ++ [.lst ((RY.srtS ys).map PV.str)]) else none
  | _ => none
theorem each_vals : ∀ {out : List Value} {zs : List Str}, PySem.W.EachIs RY.IsS out zs → Vals (zs.map V.str) out
  | _, _, .nil => .nil
  | _, _, .cons h t => .cons h (each_vals t)
theorem vals_each : ∀ {out : List Value} {zs : List Str}, Vals (zs.map V.str) out → PySem.W.EachIs RY.IsS out zs
  | _, [], .nil => .nil
  | _, _ :: _, .cons h t => .cons h (vals_each t)
theorem each_at : ∀ {vs : List Value} {zs : List Str}, PySem.W.EachIs RY.IsS vs zs → ∀ (i : Nat) (v : Value), vs[i]? = some v → ∃ k u, zs[i]? = some k ∧ v = .str k u
  | _, _, .nil, i, v, h => by cases i <;> cases h
  | _, _, .cons ⟨u, e⟩ t, 0, v, h => by cases h; exact ⟨_, u, rfl, e⟩
  | _, _, .cons _ t, i + 1, v, h => each_at t i v h
theorem rx_sortedSet (hc : X.calm = true) (hu : X.A.units + 64 < cLine) (hg : Gl X "sorted") (hm : X.mg "sorted" = none) (hg2 : Gl X "set") (hm2 : X.mg "set" = none) (ha : RX cl X a ma) (na : starEach [a] X.env = (false, eval a X.env) :: starEach [] X.env := by rfl) :
    RX cl X (.Call (.Name "sorted" p) [.Call (.Name "set" p2) [a] [] q] [] pos) (x1 srtSetG ma) := by
  refine ⟨fun pins s σ H Q I h => ?_⟩
  have w2 : TX X.K cl ma σ H fun y H2 => ∃ (t : Addr) (ys : List Str), y = .ref t ∧ SqT X.K H2 t (ys.map V.str) ∧ ys.Nodup ∧ ys.length < 4000 ∧ ∀ d, H2 d = none → Q (.ref d) (upd H2 d (.lst ((RY.srtS ys).map V.str))) := by
    obtain ⟨ρ, env, mem, r, hm, hE, e, q⟩ := h
    unfold x1 at e
    obtain ⟨⟨y, mm⟩, e1, e2⟩ := Option.bind_eq_some_iff.mp e
    refine ⟨ρ, env, mem, _, hm, hE, e1, fun ρ1 v H1 y1 m1 p1 => ?_⟩
    cases y with
    | tup ps =>
      obtain ⟨ys, f1, f2⟩ := Option.bind_eq_some_iff.mp (show (strsP ps).bind (fun ys => if ys.Nodup ∧ ys.length < 4000 then some (PV.ref mm.length, mm ++ [Ob.lst ((RY.srtS ys).map PV.str)]) else none) = some r from e2)
      split at f2
      · rename_i hl
        cases f2
        replace p1 : Rep X.K ρ1 H1 (.tup ps) v := p1
        rw [rep_tup] at p1
        obtain ⟨t, xs, rfl, j1, j2⟩ := p1
        obtain rfl := strsP_eq f1
        obtain rfl := repL_strs_inv j2
        refine ⟨t, ys, rfl, j1.t, hl.1, hl.2, fun d hd => ?_⟩
        obtain ⟨w1, w2, w3⟩ := new_lst m1 (repL_strs (RY.srtS ys)) hd
        exact q _ _ _ (y1.trans w1) w2 w3
      · cases f2
    | _ => cases e2
  refine Call_ (ld_blt I hg hm (show bootBuiltins "sorted" = some (.builtin "sorted") by decide +kernel) (PyProof.Rows.callWith_builtin1 (PyProof.Rows.args_cons ?inner rfl) rfl rfl))
  case inner =>
    refine Call_ (ld_blt I hg2 hm2 PyProof.Rows.boot_set (PyProof.Rows.callWith_type1 (PyProof.Rows.args_cons (thn (ha.run pins s σ H _ I w2) fun v s1 ⟨x, H1, I1, rx, ex⟩ => PyProof.Rows.args_nil ?made) na) na rfl))
    case made =>
      obtain ⟨t, ys, rfl, sq, nd, few, q1⟩ := ex
      obtain rfl : v = Value.ref t := rx
      obtain ⟨its, r, pl, _⟩ := I1.tuple sq
      have ei := vals_each r
      have len : ys.length = its.length := by rw [← List.length_map (f := V.str), r.length]
      refine RY.set_tupS ys (I1.ok.hd hc) pl (by simpa using len) (by rw [List.size_toArray, ← len]; unfold scanBound; omega) nd (fun i v hv => each_at ei i v (by simpa using hv)) fun h' tk x keep => ?got
      case got =>
        refine PyProof.Rows.args_nil ?_
        have I2 : Inv X pins σ H1 { s1 with heap := h', toks := tk } := I1.kept fun b o e => keep b o (Heap.lt_size e) e
        refine RY.sorted_tx (s := { s1 with heap := h', toks := tk }) x ((List.reverse_perm ys).nodup_iff.mpr nd) (I2.ok.hd hc) (by rw [List.length_reverse]; exact few) hu fun s' d out c k g o low hd e => ?ans
        case ans =>
          rw [RY.srtS_perm (List.reverse_perm ys)] at e
          have rv := each_vals e
          have none_ : H1 d = none := I2.hok.fresh low
          have sz : ((RY.srtS ys).map V.str).length ≤ sizeLine := by rw [List.length_map, List.length_mergeSort, sizeLine_eq]; omega
          have J : Inv X pins σ (upd H1 d (.lst ((RY.srtS ys).map V.str))) { { s1 with heap := h', toks := tk } with heap := s'.heap, gens := s'.gens, drawn := s'.drawn, toks := s'.toks } :=
            I2.call (ch := []) (Un.laid k low none_) (I2.hok.laid k low ⟨sz, out, c, rv, hd⟩) (by rw [g]; exact I2.bare) (fun _ z => nomatch z)
          have es : s' = { { s1 with heap := h', toks := tk } with heap := s'.heap, gens := s'.gens, drawn := s'.drawn, toks := s'.toks } := by
            cases s'
            cases o
            rfl
          rw [es]
          exact ⟨.ref d, _, J, rfl, q1 d none_⟩
end
end Rf
end

section
set_option Elab.async false
set_option linter.all false
set_option maxRecDepth 100000
set_option autoImplicit false
namespace RY
open PySem PySem.Spec PyProof.Rows L2 HT
section
variable {P : Program} {w : World} {A : Around} {E : Value → Shared → Prop} {s : Shared}
theorem turn_round (n : Nat) : Builtin.Slice.sliceAdjust none none (-1) (n : Int) = ((n : Int) - 1, -1) := by
  unfold Builtin.Slice.sliceAdjust
  simp
theorem turn_many (n : Nat) : Builtin.Slice.slicePlaces ((n : Int) - 1) (-1) (-1) = n := by
  unfold Builtin.Slice.slicePlaces
  cases n with
  | zero => rfl
  | succ n => simp <;> omega
theorem fm_same {α β : Type} {f g : α → Option β} : ∀ {l : List α}, (∀ a ∈ l, f a = g a) → l.filterMap f = l.filterMap g
  | [], _ => rfl
  | a :: l, h => by
    rw [List.filterMap_cons, List.filterMap_cons, h a List.mem_cons_self, fm_same fun b m => h b (List.mem_cons_of_mem _ m)]
theorem turn_pick (xs : Array Value) : ((List.range xs.size).filterMap fun (k : Nat) => xs[(((xs.size : Int) - 1) + (k : Int) * (-1)).toNat]?).toArray = xs.toList.reverse.toArray := by
  have z := pick_gen xs.toList.reverse.toArray 0 xs.size
  have same : ((List.range xs.size).filterMap fun (k : Nat) => xs[(((xs.size : Int) - 1) + (k : Int) * (-1)).toNat]?) = (List.range xs.size).filterMap fun (m : Nat) => xs.toList.reverse.toArray[((((0 : Nat) : Int)) + (m : Int) * 1).toNat]? := by
    refine fm_same fun k hk => ?_
    have hk := List.mem_range.mp hk
    rw [show (((xs.size : Int) - 1) + (k : Int) * (-1)).toNat = xs.size - 1 - k by omega, show ((((0 : Nat) : Int)) + (k : Int) * 1).toNat = k by omega]
    rw [← Array.getElem?_toList, List.getElem?_toArray, List.getElem?_reverse (by rw [Array.length_toList]; exact hk), Array.length_toList]
  rw [same, z]
  congr 1
  rw [List.drop_zero, List.take_of_length_le]
  rw [List.length_reverse, Array.length_toList]
  exact Nat.le_refl _
theorem applied_turn {sl : Addr} {vl vu vs : Value} {n : Nat} {Q : Int × Int × Nat → Shared → Prop} (hs : s.heap.IsSliceOf sl vl vu vs) (pl : IsPart vl none) (pu : IsPart vu none) (ps : IsPart vs (some (-1))) (fin : Q ((n : Int) - 1, -1, n) s) :
    wpAny (model P w) A (Builtin.Slice.sliceApplied (.ref sl) (pure (n : Int))) Q E s := by
  obtain ⟨ob, o1, o2, o3⟩ := id hs
  unfold Builtin.Slice.sliceApplied Builtin.Slice.sliceFields
  refine wpAny_bind (wpAny_bind (wpAny_field o1 o3 (x := vl) rfl (wpAny_bind (wpAny_field o1 o3 (x := vu) rfl (wpAny_bind (wpAny_field o1 o3 (x := vs) rfl (wpAny_pure ?parts)))))))
  case parts =>
    refine wpAny_bind (slicePart_ ps ?step)
    case step =>
      show wpAny _ _ (if ((-1 : Int) == 0) = true then _ else _) _ _ s
      rw [if_neg (by decide)]
      refine wpAny_bind (slicePart_ pl (wpAny_bind (slicePart_ pu (wpAny_bind (wpAny_pure ?ends)))))
      case ends =>
        show wpAny _ _ (match Builtin.Slice.sliceAdjust none none (-1) (n : Int) with | (lo, hi) => pure (lo, (-1 : Int), Builtin.Slice.slicePlaces lo hi (-1))) _ _ s
        rw [turn_round]
        show wpAny _ _ (pure ((n : Int) - 1, (-1 : Int), Builtin.Slice.slicePlaces ((n : Int) - 1) (-1) (-1))) _ _ s
        rw [turn_many]
        exact wpAny_pure fin
/-- t[::-1], t a tuple -/
theorem get_turn {t sl : Addr} {items : Array Value} {vl vu vs : Value} {Q : Value → Shared → Prop} (tup : IsTup s.heap t items) (hs : s.heap.IsSliceOf sl vl vu vs) (pl : IsPart vl none) (pu : IsPart vu none) (ps : IsPart vs (some (-1))) (size : items.size ≤ sizeLine)
    (fin : Q (.ref s.heap.objs.size) { s with heap := s.heap.push { cls := .type "tuple", data := .seq items.toList.reverse.toArray } }) : wpAny (model P w) A (getItem (.ref t) (.ref sl)) Q E s := by
  have fits : sizeOk (.seq items.toList.reverse.toArray) := by
    show items.toList.reverse.toArray.size ≤ sizeLine
    rw [List.size_toArray, List.length_reverse, Array.length_toList]
    exact size
  obtain ⟨ob, o1, o2, o3⟩ := id hs
  have ty : s.TypeIs (.ref sl) "slice" := ⟨ob, o1, o2⟩
  unfold getItem
  (try (with_reducible refine wpAny_holding ?_)); (first | (refine wpAny_bind (wpAny_pure ?_)) | skip)
  refine wpAny_bind (wpAny_sequenceKey tup.typeIs (by decide) ?slot)
  case slot =>
    refine wpAny_bind (wpAny_callSpecial?_slot (name := Str.ofString "__getitem__") tup.typeIs PyProof.Rows.slot_tuple_getitem (wpAny_call_entry PyProof.Rows.slot_tuple_getitem tup.typeIs entry_tuple_getitem ?run (args_tuple_getitem _ _)))
    case run =>
      show wpAny _ _ (Builtin.Tuple.tupleItemsOf (.ref t) >>= _) _ _ s
      refine wpAny_bind (tupleItemsOf_ tup (wpAny_bind (wpAny_typeOf ty ?cut)))
      case cut =>
        rw [if_pos (by decide)]
        refine wpAny_bind (applied_turn hs pl pu ps ?out)
        case out =>
          have part : ¬ ((((items.size : Int) - 1) == 0 && (-1 : Int) == 1 && items.size == items.size) = true) := by
            rw [show ((-1 : Int) == 1) = false from rfl, Bool.and_false, Bool.false_and]
            exact Bool.false_ne_true
          show wpAny _ _ (if (((items.size : Int) - 1) == 0 && (-1 : Int) == 1 && items.size == items.size) = true then _ else _) _ _ s
          rw [if_neg part, turn_pick]
          first
            | exact wpAny_bind (m := Builtin.Tuple.tupleExact _) (wpAny_newObj_type (wpAny_pure ⟨_, rfl, wpAny_pure fin⟩) fits)
            | exact wpAny_bind (m := Builtin.Tuple.tupleExact _) (wpAny_newObj_type (wpAny_bind (wpAny_pure (wpAny_pure ⟨_, rfl, wpAny_pure fin⟩))) fits)
            | exact wpAny_bind (wpAny_bind (m := Builtin.Tuple.tupleExact _) (wpAny_newObj_type (wpAny_pure (wpAny_pure ⟨_, rfl, wpAny_pure fin⟩)) fits))
            | exact wpAny_bind (wpAny_bind (m := Builtin.Tuple.tupleExact _) (wpAny_newObj_type (wpAny_pure ⟨_, rfl, wpAny_pure fin⟩) fits))
end
end RY
namespace Rf
open PySem PySem.Spec L2 PyProof.Rows
section
variable {X : Cx} {cl : Nat → Addr} {a : Expr} {ma : Ex} {k : Nat} {p1 p2 p3 pos : Pos}
/-- t[::-1], t a tuple -/
def revG (p : PV) (m : Mem) : Option (PV × Mem) := match p with
  | .tup ps => some (.tup ps.reverse, m)
  | _ => none
theorem repL_rev {K : PySem.W.Frag} {ρ : List Addr} {H : Hp} : ∀ {ps : List PV} {xs : List V}, RepL K ρ H ps xs → RepL K ρ H ps.reverse xs.reverse
  | [], xs, h => by rw [h.inv0]; exact .nil
  | p :: ps, xs, h => by
    obtain ⟨x, ys, rfl, i1, i2⟩ := RepL.inv h
    rw [List.reverse_cons, List.reverse_cons]
    exact (repL_rev i2).append (.cons i1 .nil)
theorem rx_rev (ha : RX cl X a ma) : RX cl X (.Subscript a (.Slice none none (some (.UnaryOp .USub (.Constant (.int 1) k p1) p2)) p3) pos) (x1 revG ma) := by
  refine ⟨fun pins s σ H Q I h => ?_⟩
  have w2 : TX X.K cl ma σ H fun y H2 => ∃ (t : Addr) (xs : List V), y = .ref t ∧ SqT X.K H2 t xs ∧ ∀ (d : Addr) (ob : Obj), ob.dict = none → H2 d = none → Q (.ref d) (upd H2 d (.frz ob (.tup xs.reverse))) := by
    obtain ⟨ρ, env, mem, r, hm, hE, e, q⟩ := h
    unfold x1 at e
    obtain ⟨⟨y, mm⟩, e1, e2⟩ := Option.bind_eq_some_iff.mp e
    refine ⟨ρ, env, mem, _, hm, hE, e1, fun ρ1 v H1 y1 m1 p1 => ?_⟩
    cases y with
    | tup ps =>
      cases e2
      replace p1 : Rep X.K ρ1 H1 (.tup ps) v := p1
      rw [rep_tup] at p1
      obtain ⟨t, xs, rfl, j1, j2⟩ := p1
      refine ⟨t, xs, rfl, j1.t, fun d ob hob hd => ?_⟩
      obtain ⟨w1, w2, w3⟩ := new_tup hob m1 (repL_rev j2) hd
      exact q _ _ _ (y1.trans w1) w2 w3
    | _ => cases e2
  refine Subscript_ (thn (ha.run pins s σ H _ I w2) fun v s1 ⟨x, H1, I1, rx, t, xs, ex, sq, q1⟩ => ?cut)
  case cut =>
    subst ex
    obtain rfl : v = Value.ref t := rx
    have minus : PO X (some (.UnaryOp .USub (.Constant (.int 1) k p1) p2)) (tPart (tUn (rU fun i => .int (-i)) (tC (.int 1)))) := po_some (pe_un un_neg pe_int)
    refine wpAny_Slice (thn (po_none.run pins s1 σ H1 (fun o G => o = none ∧ G = H1) I1 ⟨rfl, rfl⟩) fun vl s2 ⟨l, H2, I2, pl, el, e2⟩ => ?upper)
    case upper =>
      subst el e2
      refine thn (po_none.run pins s2 σ H2 (fun o G => o = none ∧ G = H2) I2 ⟨rfl, rfl⟩) fun vu s3 ⟨u, H3, I3, pu, eu, e3⟩ => ?stp
      case stp =>
        subst eu e3
        refine thn (minus.run pins s3 σ H3 (fun o G => o = some (-1) ∧ G = H3) I3 ⟨1, rfl, -1, rfl, rfl, rfl⟩) fun vs s4 ⟨o, H4, I4, ps, eo, e4⟩ => ?item
        case item =>
          subst eo e4
          have I5 : Inv X pins σ H4 { s4 with heap := s4.heap.push { cls := .type "slice", data := .fields #[vl, vu, vs] } } := I4.kept (t' := s4.toks) fun b ob q => Heap.get?_push_of_some _ q
          obtain ⟨its, r, tp, size⟩ := I5.tuple sq
          have len := r.length
          show wpAny (model X.prog X.w) X.A (subscriptTail a (.Slice none none (some (.UnaryOp .USub (.Constant (.int 1) k p1) p2)) p3) (.ref t) (.ref s4.heap.objs.size)) (EP X pins σ Q) X.xe { s4 with heap := s4.heap.push { cls := .type "slice", data := .fields #[vl, vu, vs] } }
          refine tail_any (ops := [.ref t, .ref s4.heap.objs.size]) tp.typeIs (PyProof.Rows.slot_tuple_getitem.lookup) ?_ (by with_unfolding_all rfl)
          refine RY.get_turn tp (Heap.IsSliceOf.new _ vl vu vs) pl pu ps (by rw [List.size_toArray]; omega) ?_
          have out := laid_tup (X := X) (pins := pins) (σ := σ) (Q := Q) I5 (by rw [List.length_reverse]; exact size) r.reverse (fun d ob hob hd => q1 d ob hob hd)
          simpa using out
end
end Rf
end

section
set_option Elab.async false
set_option linter.all false
set_option maxRecDepth 100000
set_option autoImplicit false
namespace RY
open PySem PySem.AutoSeq1
set_option maxHeartbeats 1000000 in
theorem ext_tup (l : Addr) (xs : Array Value) (n : Nat) (b : Addr) (ys : Array Value) (k : Nat) (dd : Option Addr) (sl : Array (Option Value)) (few : ¬(!xs.isEmpty && Builtin.List.listTooLong (xs.size + ys.size)) = true) (h1 : xs.size ≤ sizeLine) (h2 : xs.size + ys.size ≤ sizeLine + 1) :
    Meets (Builtin.«list.extend» ⟨[.ref l, .ref b], []⟩) (fun _ R s => s.heap.get? l = some { cls := .type "list", dict := none, data := .seq xs n, slots := #[] } ∧ s.heap.get? b = some { cls := .type "tuple", dict := dd, data := .seq ys k, slots := sl } ∧ R (.ok (.ret Value.none)) { s with heap := s.heap.update l (Obj.mapSeq fun x => x ++ ys), toks := s.toks }) :=
  .of_wp fun prog w A R s h => by
    obtain ⟨hp, g, d, tk, os⟩ := s
    obtain ⟨hl, hb, fin⟩ := h
    have f1 := idx_int
    have f2 := sub_tuple_tuple
    have f3 := sub_list_list
    have f4 := sub_tuple_list
    have f5 := sub_list_tuple
    have size : (xs ++ ys).size ≤ sizeLine + 1 := by rw [Array.size_append]; exact h2
    wp_walk using (wpAny_updateSeq hl rfl (hz := h1) (_hz' := size)), wpAny_loadPart' hl, wpAny_loadPart' hb
    exact ⟨_, rfl, fin⟩
end RY
namespace Rf
open PySem PySem.Spec L2 PyProof.Rows
section
variable {X : Cx} {cl : Nat → Addr} {o e : Expr} {apos cpos : Pos} {mo me : Ex}
/-- xs.extend(ys), ys a list or a tuple -/
def extAG : Mg := fun p xs m => match p, xs with
  | .ref i, [.ref j] => extG (.ref i) [.ref j] m
  | .ref i, [.tup qs] => match m[i]? with
    | some (.lst ps) => if ps.length + qs.length ≤ sizeLine then some (.non, m.set i (.lst (ps ++ qs))) else none
    | _ => none
  | _, _ => none
theorem mx_extA : MtR X "list.extend" (GM X.K cl extAG) := by
  intro pins s σ H x xs v us Q I rx rs ⟨ρ, p, ps, mem, r, hm, hp, hps, h, k⟩
  unfold extAG at h
  split at h
  · exact mx_ext pins s σ H x xs v us Q I rx rs ⟨ρ, _, _, mem, r, hm, hp, hps, h, k⟩
  · rename_i i qs
    split at h
    · rename_i ps' z1
      split at h
      · rename_i hl
        obtain rfl := Option.some.inj h
        rw [rep_ref] at hp
        obtain ⟨a, ha, rfl⟩ := hp
        obtain ⟨w, vs, rfl, i1, i2⟩ := hps.inv
        obtain rfl := i2.inv0
        rw [rep_tup] at i1
        obtain ⟨t, zs, rfl, j1, j2⟩ := i1
        obtain ⟨ys, y1, y2⟩ := hm.ok i a _ ha z1
        have x3 : Ext X.K ρ H ρ (upd H a (.lst (ys ++ zs))) := ext_set hm ha z1 rfl
        have fin := k ρ _ _ x3 (hm.set ha z1 rfl rfl ⟨_, upd_same, (x3.repL _ _ y2).append (x3.repL _ _ j2)⟩) (by rw [Rep])
        cases rx
        obtain ⟨u, rfl, ru⟩ := rs.one
        cases ru
        obtain ⟨_, its, n, rv, _, e1⟩ := I.lstM y1
        obtain ⟨it2, r2, ⟨⟨oc, od, odt, osl⟩, g1, g2, g3, g4⟩, _⟩ := I.tuple j1.t
        simp only at g2 g4
        subst g2 g4
        have l1 := rv.length
        have l2 := r2.length
        have l3 := y2.length
        have l4 := j2.length
        have tot : its.toArray.size + it2.toArray.size ≤ sizeLine := by rw [List.size_toArray, List.size_toArray]; omega
        have small : ¬ (!its.toArray.isEmpty && Builtin.List.listTooLong (its.toArray.size + it2.toArray.size)) = true := by
          rw [notLongL tot, Bool.and_false]
          exact Bool.false_ne_true
        refine call_meets PySem.F.slot_list_extend ⟨_, e1, rfl⟩ PySem.F.entry_list_extend (PySem.F.args_list_extend_2 _ _) (RY.ext_tup a its.toArray n t it2.toArray g3 od osl small (by omega) (by omega)) ⟨e1, g1, ?_⟩
        refine ⟨.non, _, I.lset (its' := its ++ it2) y1 e1 (by simp) (rv.append r2) ?_, rfl, fin⟩
        rw [List.length_append]
        omega
      · cases h
    · cases h
  · cases h
theorem rx_extendA (ho : RX cl X o mo) (ha : RX cl X e me)
    (hbase : attributeBase o "extend" X.env (eval o X.env) = eval o X.env := by rfl)
    (hfew : ((backTo cpos (starEach [e] X.env)).all (fun x => !x.1) && (backToKw cpos (keywordEach [] X.env)).all (fun x => x.1.isSome)
      && decide (([e] : List Expr).length + ([] : List Keyword).length + (if ([] : List Keyword).isEmpty then 0 else 1) < 30)) = true := by rfl)
    (hline : (apos.endLine == cpos.line) = true := by rfl) (hs : starEach [e] X.env = (false, eval e X.env) :: starEach [] X.env := by rfl) (hplain : (backTo cpos (starEach [] X.env)).any (·.1) = false := by rfl) :
    RX cl X (.Call (.Attribute o "extend" apos) [e] [] cpos) (xM chkL extAG mo (aCons me aNil)) :=
  rx_m PySem.F.plainAttrs_list PySem.F.slot_list_extend PySem.F.type_list_extend mx_extA (fun _ _ _ _ _ => chkL_ok) ho (ra_cons ha ra_nil hs) hbase hfew hline hs hplain
end
end Rf
end

section
set_option Elab.async false
set_option linter.all false
set_option maxRecDepth 100000
set_option autoImplicit false
/-! a tuple of data in a list -/
theorem L2.Room.u65 {k : Nat} {A : PySem.Around} (r : L2.Room k A) : A.units + 65 < PySem.cLine := by have := r.un; omega
namespace Rf
open PySem PySem.Spec L2
section
variable {X : Cx} {cl : Nat → Addr}
def inTB (p q : PV) (m : Mem) : Option Bool := match q with
  | .ref i => match m[i]? with
    | some (.lst ps) => (toD p).bind fun d => (toDs ps).bind fun ds => if SeqAt.shaped d = true ∧ SeqAt.shaped (.list ds) = true then some (ds.any fun z => PyData.eqv z d) else none
    | _ => none
  | _ => none
def inTG (p q : PV) (m : Mem) : Option (PV × Mem) := (inTB p q m).map fun k => (.bl k, m)
def ninTG (p q : PV) (m : Mem) : Option (PV × Mem) := (inTB p q m).map fun k => (.bl (!k), m)
theorem inTB_ok {ρ : List Addr} {H : Hp} {m : Mem} {p q : PV} {x y : V} {k : Bool} (hm : RelM X.K cl ρ H m) (hp : Rep X.K ρ H p x) (hq : Rep X.K ρ H q y) (h : inTB p q m = some k) :
    ∃ d ds, Dp X.K H x d ∧ Dp X.K H y (.list ds) ∧ SeqAt.shaped d = true ∧ SeqAt.shaped (.list ds) = true ∧ k = ds.any fun z => PyData.eqv z d := by
  unfold inTB at h
  split at h
  · rename_i i
    split at h
    · rename_i ps z
      obtain ⟨d, e1, h⟩ := Option.bind_eq_some_iff.mp h
      obtain ⟨ds, e2, h⟩ := Option.bind_eq_some_iff.mp h
      split at h
      · rename_i hs
        obtain rfl := Option.some.inj h
        refine ⟨d, ds, toD_rep _ _ _ hp e1, ?_, hs.1, hs.2, rfl⟩
        refine toDm_rep (p := .ref i) hm hq ?_
        simp only [toDm, z, e2, Option.map_some]
      · cases h
    · cases h
  · cases h
theorem ox_inT (hu : X.A.units + 65 < cLine) : OpR X (compareOp .In) (G2 X.K cl inTG) := by
  intro pins s σ H x y v u Q I rx ry ⟨ρ, p, q, mem, r, hm, hp, hq, h, k⟩
  obtain ⟨b, h1, rfl⟩ := Option.map_eq_some_iff.mp h
  have kk := k ρ (.bl b) H .refl hm (by rw [Rep])
  obtain ⟨d, ds, z1, z2, z3, z4, rfl⟩ := inTB_ok hm hp hq h1
  exact op_inD hu pins s σ H x y v u Q I rx ry ⟨d, ds, z1, z2, z3, z4, kk⟩
theorem ox_ninT (hu : X.A.units + 65 < cLine) : OpR X (compareOp .NotIn) (G2 X.K cl ninTG) := by
  intro pins s σ H x y v u Q I rx ry ⟨ρ, p, q, mem, r, hm, hp, hq, h, k⟩
  obtain ⟨b, h1, rfl⟩ := Option.map_eq_some_iff.mp h
  have kk := k ρ (.bl (!b)) H .refl hm (by rw [Rep])
  obtain ⟨d, ds, z1, z2, z3, z4, rfl⟩ := inTB_ok hm hp hq h1
  exact op_notInD hu pins s σ H x y v u Q I rx ry ⟨d, ds, z1, z2, z3, z4, kk⟩
/-! is, is not of bools -/
def isBG (p q : PV) (m : Mem) : Option (PV × Mem) := match p, q with
  | .bl a, .bl b => some (.bl (decide (a = b)), m)
  | _, _ => none
def notBG (p q : PV) (m : Mem) : Option (PV × Mem) := match p, q with
  | .bl a, .bl b => some (.bl (!decide (a = b)), m)
  | _, _ => none
theorem ox_isB : OpR X (compareOp .Is) (G2 X.K cl isBG) := by
  intro pins s σ H x y v u Q I rx ry ⟨ρ, p, q, mem, r, hm, hp, hq, h, k⟩
  unfold isBG at h
  split at h
  · obtain rfl := Option.some.inj h
    rw [rep_bl] at hp hq
    exact op_isBl pins s σ H x y v u Q I rx ry ⟨_, _, hp, hq, k ρ _ H .refl hm (by rw [rep_bl])⟩
  · cases h
theorem ox_notB : OpR X (compareOp .IsNot) (G2 X.K cl notBG) := by
  intro pins s σ H x y v u Q I rx ry ⟨ρ, p, q, mem, r, hm, hp, hq, h, k⟩
  unfold notBG at h
  split at h
  · obtain rfl := Option.some.inj h
    rw [rep_bl] at hp hq
    exact op_notBl pins s σ H x y v u Q I rx ry ⟨_, _, hp, hq, k ρ _ H .refl hm (by rw [rep_bl])⟩
  · cases h
end
end Rf
end

section
set_option Elab.async false
set_option linter.all false
set_option maxRecDepth 100000
set_option autoImplicit false
namespace Rf
open PySem PySem.Spec L2 PyProof.Rows
section
variable {X : Cx} {cl : Nat → Addr} {a : Expr} {pos p p2 q : Pos} {ma : Ex}
/-- len(set(t)), t a tuple or a list of rows of ints -/
def lenSetA (p : PV) (m : Mem) : Option (PV × Mem) := match p with
  | .tup ps => (rowsP ps).bind fun rs => if rs.length < 64 then some (.int (RY.uniq rs).length, m) else none
  | .ref i => match m[i]? with
    | some (.lst ps) => (rowsP ps).bind fun rs => if rs.length < 64 then some (.int (RY.uniq rs).length, m) else none
    | _ => none
  | _ => none
theorem uniq_of {ks L : List (Addr × List Int)} (nd : (L.map (·.2)).Nodup) (sub : ∀ p ∈ L, p ∈ ks.take ks.length) (all : ∀ p ∈ ks.take ks.length, p.2 ∈ L.map (·.2)) : (L.map (·.2)).length = (RY.uniq (ks.map (·.2))).length := by
  refine once_perm nd fun k => ?_
  constructor
  · intro m
    obtain ⟨z, mz, rfl⟩ := List.mem_map.mp m
    exact List.mem_map_of_mem (List.mem_of_mem_take (sub z mz))
  · intro m
    obtain ⟨z, mz, rfl⟩ := List.mem_map.mp m
    exact all z (by rw [List.take_length]; exact mz)
theorem rx_lenSetA (hc : X.calm = true) (hu : X.A.units + 64 < cLine) (hg : Gl X "len") (hm : X.mg "len" = none) (hg2 : Gl X "set") (hm2 : X.mg "set" = none) (ha : RX cl X a ma) (na : starEach [a] X.env = (false, eval a X.env) :: starEach [] X.env := by rfl) :
    RX cl X (.Call (.Name "len" p) [.Call (.Name "set" p2) [a] [] q] [] pos) (x1 lenSetA ma) := by
  refine ⟨fun pins s σ H Q I h => ?_⟩
  have w2 : TX X.K cl ma σ H fun y H2 => ∃ (t : Addr) (ks : List (Addr × List Int)), y = .ref t ∧ (SqT X.K H2 t (ks.map fun p => V.ref p.1) ∨ SqL X.K H2 t (ks.map fun p => V.ref p.1)) ∧ (∀ p ∈ ks, SqT X.K H2 p.1 (p.2.map V.int)) ∧ ks.length < 64 ∧ Q (.int (RY.uniq (ks.map (·.2))).length) H2 := by
    obtain ⟨ρ, env, mem, r, hm, hE, e, q⟩ := h
    unfold x1 at e
    obtain ⟨⟨y, mm⟩, e1, e2⟩ := Option.bind_eq_some_iff.mp e
    refine ⟨ρ, env, mem, _, hm, hE, e1, fun ρ1 v H1 y1 m1 p1 => ?_⟩
    have go : ∀ ps : List PV, (∃ t ys, v = .ref t ∧ (SqT X.K H1 t ys ∨ SqL X.K H1 t ys) ∧ RepL X.K ρ1 H1 ps ys) → ((rowsP ps).bind fun rs => if rs.length < 64 then some (PV.int (RY.uniq rs).length, mm) else none) = some r → ∃ (t : Addr) (ks : List (Addr × List Int)), v = .ref t ∧ (SqT X.K H1 t (ks.map fun p => V.ref p.1) ∨ SqL X.K H1 t (ks.map fun p => V.ref p.1)) ∧ (∀ p ∈ ks, SqT X.K H1 p.1 (p.2.map V.int)) ∧ ks.length < 64 ∧ Q (.int (RY.uniq (ks.map (·.2))).length) H1 := by
      rintro ps ⟨t, ys, rfl, j1, j2⟩ e2
      obtain ⟨rs, f1, f2⟩ := Option.bind_eq_some_iff.mp e2
      split at f2
      · rename_i hl
        cases f2
        obtain ⟨rfl, _⟩ := rowsP_eq f1
        obtain ⟨ks, rfl, k2, k3⟩ := rows_ks j2
        refine ⟨t, ks, rfl, j1, k3, by rw [← k2, List.length_map] at hl; exact hl, ?_⟩
        rw [k2]
        exact q _ _ _ y1 m1 (by rw [rep_int])
      · cases f2
    cases y with
    | tup ps =>
      replace p1 : Rep X.K ρ1 H1 (.tup ps) v := p1
      rw [rep_tup] at p1
      obtain ⟨t, ys, rfl, j1, j2⟩ := p1
      exact go ps ⟨t, ys, rfl, .inl j1.t, j2⟩ e2
    | ref i =>
      replace p1 : Rep X.K ρ1 H1 (.ref i) v := p1
      rw [rep_ref] at p1
      obtain ⟨t, ht, rfl⟩ := p1
      replace e2 : (match mm[i]? with
        | some (.lst ps) => (rowsP ps).bind fun rs => if rs.length < 64 then some (PV.int (RY.uniq rs).length, mm) else none
        | _ => none) = some r := e2
      split at e2
      · rename_i ps z
        obtain ⟨xs, s1, s2⟩ := sq_of m1 ht (.inl z)
        exact go ps ⟨t, xs, rfl, .inr s1, s2⟩ e2
      · cases e2
    | _ => cases e2
  refine Call_ (ld_blt I hg hm boot_len (PyProof.Rows.callWith_builtin1 (PyProof.Rows.args_cons ?inner rfl) rfl rfl))
  case inner =>
    refine Call_ (ld_blt I hg2 hm2 PyProof.Rows.boot_set (PyProof.Rows.callWith_type1 (PyProof.Rows.args_cons (thn (ha.run pins s σ H _ I w2) fun v s1 ⟨x, H1, I1, rx, ex⟩ => PyProof.Rows.args_nil ?made) na) na rfl))
    case made =>
      obtain ⟨t, ks, rfl, sq, each, few, q1⟩ := ex
      obtain rfl : v = Value.ref t := rx
      rcases sq with sq | sq
      · obtain ⟨its, r, pl, _⟩ := I1.tuple sq
        have ei := refs_of_vals r
        refine RY.set_tupT ks (I1.ok.hd hc) pl (by simpa using ei) (fun p m => I1.isT (each p m)) few (by omega) fun h' tk ⟨L, es, ep, tb, R, g⟩ keep => ?got
        case got =>
          refine PyProof.Rows.args_nil ?_
          obtain ⟨o, ho, hex, hd⟩ := R.ob
          have I2 : Inv X pins σ H1 { s1 with heap := h', toks := tk } := I1.kept fun b o e => keep b o (Heap.lt_size e) e
          have sz := R.size (s := { s1 with heap := h', toks := tk })
          have num : es.size = (RY.uniq (ks.map (·.2))).length := by
            rw [sz, ← List.length_map (f := fun p : Addr × List Int => p.2)]
            exact uniq_of R.nd g.sub g.all
          refine call_len_set (s := { s1 with heap := h', toks := tk }) ho hex hd (R.fits (s := { s1 with heap := h', toks := tk })) ?fit ⟨.int es.size, H1, I2.tok _, ⟨_, rfl⟩, ?ans⟩
          case fit => have := R.few; rw [sz]; omega
          case ans => rw [num]; exact q1
      · obtain ⟨its, r, pl, _⟩ := I1.list sq
        have ei := refs_of_vals r
        refine call_set_tups (P := X.prog) (w := X.w) ks (I1.ok.hd hc) pl.isList (by simpa using ei) (fun p m => I1.isT (each p m)) few (by omega) fun h' tk L es ep tb R g keep => ?got
        case got =>
          refine PyProof.Rows.args_nil ?_
          obtain ⟨o, ho, hex, hd⟩ := R.ob
          have I2 : Inv X pins σ H1 { s1 with heap := h', toks := tk } := I1.kept fun b o e => keep b o e
          have sz := R.size (s := { s1 with heap := h', toks := tk })
          have num : es.size = (RY.uniq (ks.map (·.2))).length := by
            rw [sz, ← List.length_map (f := fun p : Addr × List Int => p.2)]
            exact uniq_of R.nd g.sub g.all
          refine call_len_set (s := { s1 with heap := h', toks := tk }) ho hex hd (R.fits (s := { s1 with heap := h', toks := tk })) ?fit ⟨.int es.size, H1, I2.tok _, ⟨_, rfl⟩, ?ans⟩
          case fit => have := R.few; rw [sz]; omega
          case ans => rw [num]; exact q1
end
end Rf
end

section
set_option Elab.async false
set_option linter.all false
set_option maxRecDepth 100000
set_option autoImplicit false
/-! sets of texts, a text may come twice -/
namespace RY
open PySem PySem.Spec PyProof.Rows L2 PySem.Froz
/-- the texts, the last new one ahead -/
def dd (ys : List Str) : List Str := ys.foldl (fun l k => if k ∈ l then l else k :: l) []
theorem dd_add (ys : List Str) (k : Str) : dd (ys ++ [k]) = if k ∈ dd ys then dd ys else k :: dd ys := by
  unfold dd; rw [List.foldl_append]; rfl
theorem dd_len (ys : List Str) : (dd ys).length ≤ ys.length := by
  have : ∀ (ys l : List Str), (ys.foldl (fun l k => if k ∈ l then l else k :: l) l).length ≤ l.length + ys.length := by
    intro ys
    induction ys with
    | nil => intro l; simp
    | cons k ys ih =>
      intro l
      rw [List.foldl_cons, List.length_cons]
      have := ih (if k ∈ l then l else k :: l)
      by_cases h : k ∈ l
      · rw [if_pos h] at this ⊢; omega
      · rw [if_neg h] at this ⊢; rw [List.length_cons] at this; omega
  have z := this ys []
  rw [List.length_nil, Nat.zero_add] at z
  exact z
theorem dd_nodup (ys : List Str) : (dd ys).Nodup := by
  have : ∀ (ys l : List Str), l.Nodup → (ys.foldl (fun l k => if k ∈ l then l else k :: l) l).Nodup := by
    intro ys
    induction ys with
    | nil => intro l h; exact h
    | cons k ys ih =>
      intro l h
      rw [List.foldl_cons]
      refine ih _ ?_
      by_cases hk : k ∈ l
      · rw [if_pos hk]; exact h
      · rw [if_neg hk]; exact List.nodup_cons.mpr ⟨hk, h⟩
  exact this ys [] List.nodup_nil
theorem dd_of_nodup {ys : List Str} (h : ys.Nodup) : dd ys = ys.reverse := by
  have : ∀ (ys l : List Str), (l ++ ys).Nodup → ys.foldl (fun l k => if k ∈ l then l else k :: l) l.reverse = (l ++ ys).reverse := by
    intro ys
    induction ys with
    | nil => intro l _; rw [List.append_nil]; rfl
    | cons k ys ih =>
      intro l hn
      rw [List.foldl_cons]
      have hk : k ∉ l := fun m => (List.nodup_append.mp hn).2.2 k m k List.mem_cons_self rfl
      rw [if_neg (by rw [List.mem_reverse]; exact hk)]
      have := ih (l ++ [k]) (by rw [List.append_assoc]; exact hn)
      rw [List.reverse_append, List.append_assoc] at this
      exact this
  exact this ys [] h
section
variable {P : Program} {w : World} {A : Around} {E : Value → Shared → Prop} {s : Shared}
/-- a text that stands there is not added -/
theorem keep_x {a : Addr} {T : String} {D : SD} {l : List Str} {k : Str} {u : Tok} {Q : Bool → Shared → Prop} (ho : s.heap.get? a = some (sObj T D)) (F : TxOk P w D l) (hk : k ∈ l) (hb : l.length < scanBound)
    (h : Q false s) : wpAny (model P w) A (setAddHashed a (.str k u) (hashStr w k)) Q E s := by
  obtain ⟨es, ep, t⟩ := D
  have data : (sObj T (es, ep, t)).data = .set es ep t := rfl
  have fit : t.fits es.size = true := F.fit
  have el : ElemsOf (strKind P w) es.toList := F.el
  have few : es.size < scanBound := by have : es.size = l.length := F.sz; omega
  have isk : (strKind P w).is k (.str k u) = true := is_str k u
  obtain ⟨j, hj⟩ : ∃ j, List.findIdx? (fun e => (strKind P w).is k e.2) es.toList = some j := by
    cases hr : List.findIdx? (fun e => (strKind P w).is k e.2) es.toList with
    | some j => exact ⟨j, rfl⟩
    | none =>
      obtain ⟨e, me, q⟩ := (F.mem k).mp hk
      rw [List.findIdx?_eq_none_iff] at hr
      rw [hr e me] at q
      cases q
  unfold setAddHashed setAddHashedIn
  refine wpAny_holding (wpAny_bind (wpAny_setState_of ho data fit ?_))
  dsimp only
  rw [byScan_of rfl few el]
  simp only [↓reduceIte]
  unfold setAddByScan
  refine wpAny_bind (wpAny_bind (wpAny_rule ?_))
  refine wpAny_bind (wpAny_setScan_of (knd := strKind P w) (k := k) isk ho data fit el ?_)
  rw [hj]
  dsimp only
  exact wpAny_pure (wpAny_pure h)
variable {R : Result → Shared → Prop} {I : Addr} {fp wr : List Addr} {G : Array GenState → Array GenState → Prop} {n : Nat} {Pv : Nat → Value → Prop} {St : Nat → Shared → Prop}
theorem upd_textsD (W : WalksS P w A.in1 I fp wr G n Pv St) (S : Addr) (out : S ∉ fp) (ys : List Str) (len : ys.length = n) (room : n + 1 < scanBound)
    (each : ∀ (i : Nat) (v : Value), Pv i v → ∃ k u, ys[i]? = some k ∧ v = .str k u) :
    ∀ (d i : Nat) (s : Shared), n - i = d → i ≤ n → St i s → Tx P w s.heap S (dd (ys.take i)) → (∀ s', Moved (S :: wr) G s s' → Tx P w s'.heap S (dd (ys.take n)) → R (.ok (.ret .none)) s') →
      codeAny (model P w) A (.builtin "set.update.loop" ⟨[.ref S, .ref I], []⟩) R s := by
  have outw : S ∉ wr := fun z => out (W.sub _ z)
  have grow : ∀ b ∈ wr, b ∈ S :: wr := fun _ z => List.mem_cons_of_mem _ z
  intro d
  induction d with
  | zero =>
    intro i s hd hi st has fin
    obtain rfl : i = n := by omega
    refine codeAny_builtin F.entry_set_update_loop ?a
    case a =>
      rewrite [Around.under_plainId F.plain_set_update_loop _]
      change wpAny _ A.in1 (pyNext (.ref I) >>= _) _ _ s
      refine wpAny_bind (W.done s _ _ st fun t mv => ?b)
      case b =>
        change wpAny _ A.in1 (ret Value.none) _ _ t
        exact wpAny_pure (fin t (mv.mono grow) (has.moved fun o => mv.heap S o outw))
  | succ d ih =>
    intro i s hd hi st has fin
    have lt : i < n := by omega
    refine codeAny_builtin F.entry_set_update_loop ?a
    case a =>
      rewrite [Around.under_plainId F.plain_set_update_loop _]
      change wpAny _ A.in1 (pyNext (.ref I) >>= _) _ _ s
      refine wpAny_bind (W.item i s _ _ lt st fun v t pv st' mv => ?b)
      case b =>
        obtain ⟨k, u, ek, rfl⟩ := each i v pv
        obtain ⟨D, d1, d2, d3, d4⟩ := (has.moved fun o => mv.heap S o outw).at_
        have et : dd (ys.take (i + 1)) = if k ∈ dd (ys.take i) then dd (ys.take i) else k :: dd (ys.take i) := by
          rw [List.take_add_one, ek]
          exact dd_add _ _
        have bound : (dd (ys.take i)).length + 1 < scanBound := by
          have := dd_len (ys.take i)
          rw [List.length_take] at this
          omega
        change wpAny _ A.in1 (holding [Value.str k u] (setAdd S (.str k u)) >>= _) _ _ t
        refine wpAny_bind (wpAny_holding ?c)
        case c =>
          unfold setAdd
          refine wpAny_holding (wpAny_bind ((strKind P w).pyHash (k := k) (is_str k u) ?_))
          by_cases there : k ∈ dd (ys.take i)
          · rw [if_pos there] at et
            refine keep_x (s := { t with toks := t.toks + 1 }) d1 d2 there (by omega) ?_
            have nx : Tx P w t.heap S (dd (ys.take (i + 1))) := ⟨D, d1, et ▸ d2, d3, d4⟩
            refine wpAny_pure ⟨plainId_quiet F.plain_set_update_loop _, ih (i + 1) _ (by omega) lt (W.frame _ t _ _ st' (Nat.le_succ _) fun b hb o e => e) nx fun u' mv' fl => ?_⟩
            exact fin u' (Moved.trans W.gtrans ((mv.mono grow).then_heap (Nat.le_succ _) fun b o hb e => e) mv') fl
          · rw [if_neg there] at et
            refine add_x (s := { t with toks := t.toks + 1 }) d1 d2 there bound ?_
            have put : (t.heap.update S (fun _ => sObj "set" (addTx (hashStr w k) (.str k u) D))).get? S = some (sObj "set" (addTx (hashStr w k) (.str k u) D)) := Heap.get?_update_self _ d1 rfl
            have aw := add_walk (hashStr w k) (.str k u) d3
            have nx : Tx P w (t.heap.update S (fun _ => sObj "set" (addTx (hashStr w k) (.str k u) D))) S (dd (ys.take (i + 1))) := ⟨_, put, et ▸ add_ok u d2, aw.1, by rw [aw.2]; exact d4⟩
            refine wpAny_pure ⟨plainId_quiet F.plain_set_update_loop _, ih (i + 1) _ (by omega) lt (W.frame _ t _ _ st' (Nat.le_succ _) fun b hb o e => ?_) nx fun u' mv' fl => ?_⟩
            · exact (Heap.get?_update_other _ _ (fun z : S = b => out (z ▸ hb))).trans e
            · exact fin u' (Moved.trans W.gtrans ((mv.mono grow).then_heap (Nat.le_succ _) fun b o hb e => (Heap.get?_update_other _ _ (fun z : S = b => hb (z ▸ List.mem_cons_self))).trans e) mv') fl
/-- set(t), t a tuple of texts -/
theorem set_tupD {l : Addr} {items : Array Value} (ys : List Str) {Q : Value → Shared → Prop} (free : A.handled = none) (tup : s.heap.IsTuple l items) (len : ys.length = items.size) (room : items.size + 1 < scanBound)
    (each : ∀ (i : Nat) (v : Value), items[i]? = some v → ∃ k u, ys[i]? = some k ∧ v = .str k u)
    (fin : ∀ (h' : Heap) (tk : Nat), Tx P w h' s.heap.objs.size (dd ys) → (∀ b o, b < s.heap.objs.size → s.heap.get? b = some o → h'.get? b = some o) → Q (.ref s.heap.objs.size) { s with heap := h', toks := tk }) :
    wpAny (model P w) A (call (.type "set") [.ref l]) Q E s :=
  set_gen (fun h => Tx P w h s.heap.objs.size (dd ys)) free tup (fun led s1 W out _ st new hled _ done => upd_textsD W s.heap.objs.size out ys len room each (items.size - 0) 0 s1 (by omega) (Nat.zero_le _) st ⟨(#[], 0, .fresh 0 0 led), new, TxOk.nil rfl, List.Pairwise.nil, by
    subst hled
    cases (World.params w).followText "set-order"
    · exact .inr rfl
    · exact .inl rfl⟩ fun s' mv has => done s' mv (by rw [← len, List.take_length] at has; exact has)) fin
end
end RY
namespace Rf
open PySem PySem.Spec L2 PyProof.Rows
section
variable {X : Cx} {cl : Nat → Addr} {a : Expr} {pos p p2 q : Pos} {ma : Ex}
/-- sorted(set(t)), t a tuple of texts -/
def srtSetD (p : PV) (m : Mem) : Option (PV × Mem) := match p with
  | .tup ps => (strsP ps).bind fun ys => if ys.length < 4000 then some (.ref m.length, m ++ [.lst ((RY.srtS (RY.dd ys)).map PV.str)]) else none
  | _ => none
theorem rx_sortedSetD (hc : X.calm = true) (hu : X.A.units + 64 < cLine) (hg : Gl X "sorted") (hm : X.mg "sorted" = none) (hg2 : Gl X "set") (hm2 : X.mg "set" = none) (ha : RX cl X a ma) (na : starEach [a] X.env = (false, eval a X.env) :: starEach [] X.env := by rfl) :
    RX cl X (.Call (.Name "sorted" p) [.Call (.Name "set" p2) [a] [] q] [] pos) (x1 srtSetD ma) := by
  refine ⟨fun pins s σ H Q I h => ?_⟩
  have w2 : TX X.K cl ma σ H fun y H2 => ∃ (t : Addr) (ys : List Str), y = .ref t ∧ SqT X.K H2 t (ys.map V.str) ∧ ys.length < 4000 ∧ ∀ d, H2 d = none → Q (.ref d) (upd H2 d (.lst ((RY.srtS (RY.dd ys)).map V.str))) := by
    obtain ⟨ρ, env, mem, r, hm, hE, e, q⟩ := h
    unfold x1 at e
    obtain ⟨⟨y, mm⟩, e1, e2⟩ := Option.bind_eq_some_iff.mp e
    refine ⟨ρ, env, mem, _, hm, hE, e1, fun ρ1 v H1 y1 m1 p1 => ?_⟩
    cases y with
    | tup ps =>
      obtain ⟨ys, f1, f2⟩ := Option.bind_eq_some_iff.mp (show (strsP ps).bind (fun ys => if ys.length < 4000 then some (PV.ref mm.length, mm ++ [Ob.lst ((RY.srtS (RY.dd ys)).map PV.str)]) else none) = some r from e2)
      split at f2
      · rename_i hl
        cases f2
        replace p1 : Rep X.K ρ1 H1 (.tup ps) v := p1
        rw [rep_tup] at p1
        obtain ⟨t, xs, rfl, j1, j2⟩ := p1
        obtain rfl := strsP_eq f1
        obtain rfl := repL_strs_inv j2
        refine ⟨t, ys, rfl, j1.t, hl, fun d hd => ?_⟩
        obtain ⟨w1, w2, w3⟩ := new_lst m1 (repL_strs (RY.srtS (RY.dd ys))) hd
        exact q _ _ _ (y1.trans w1) w2 w3
      · cases f2
    | _ => cases e2
  refine Call_ (ld_blt I hg hm (show bootBuiltins "sorted" = some (.builtin "sorted") by decide +kernel) (PyProof.Rows.callWith_builtin1 (PyProof.Rows.args_cons ?inner rfl) rfl rfl))
  case inner =>
    refine Call_ (ld_blt I hg2 hm2 PyProof.Rows.boot_set (PyProof.Rows.callWith_type1 (PyProof.Rows.args_cons (thn (ha.run pins s σ H _ I w2) fun v s1 ⟨x, H1, I1, rx, ex⟩ => PyProof.Rows.args_nil ?made) na) na rfl))
    case made =>
      obtain ⟨t, ys, rfl, sq, few, q1⟩ := ex
      obtain rfl : v = Value.ref t := rx
      obtain ⟨its, r, pl, _⟩ := I1.tuple sq
      have ei := vals_each r
      have len : ys.length = its.length := by rw [← List.length_map (f := V.str), r.length]
      refine RY.set_tupD ys (I1.ok.hd hc) pl (by simpa using len) (by rw [List.size_toArray, ← len]; unfold scanBound; omega) (fun i v hv => each_at ei i v (by simpa using hv)) fun h' tk x keep => ?got
      case got =>
        refine PyProof.Rows.args_nil ?_
        have dl := RY.dd_len ys
        have I2 : Inv X pins σ H1 { s1 with heap := h', toks := tk } := I1.kept fun b o e => keep b o (Heap.lt_size e) e
        refine RY.sorted_tx (s := { s1 with heap := h', toks := tk }) x (RY.dd_nodup ys) (I2.ok.hd hc) (by omega) hu fun s' d out c k g o low hd e => ?ans
        case ans =>
          have rv := each_vals e
          have none_ : H1 d = none := I2.hok.fresh low
          have sz : ((RY.srtS (RY.dd ys)).map V.str).length ≤ sizeLine := by rw [List.length_map, List.length_mergeSort, sizeLine_eq]; omega
          have J : Inv X pins σ (upd H1 d (.lst ((RY.srtS (RY.dd ys)).map V.str))) { { s1 with heap := h', toks := tk } with heap := s'.heap, gens := s'.gens, drawn := s'.drawn, toks := s'.toks } :=
            I2.call (ch := []) (Un.laid k low none_) (I2.hok.laid k low ⟨sz, out, c, rv, hd⟩) (by rw [g]; exact I2.bare) (fun _ z => nomatch z)
          have es : s' = { { s1 with heap := h', toks := tk } with heap := s'.heap, gens := s'.gens, drawn := s'.drawn, toks := s'.toks } := by
            cases s'
            cases o
            rfl
          rw [es]
          exact ⟨.ref d, _, J, rfl, q1 d none_⟩
end
end Rf
end

section
set_option Elab.async false
set_option linter.all false
set_option maxRecDepth 100000
set_option autoImplicit false
/-! a tuple some times -/
namespace Rf
open PySem PySem.Spec L2 PyProof.Rows
section
variable {X : Cx} {cl : Nat → Addr}
def tmulG (p q : PV) (m : Mem) : Option (PV × Mem) := match p, q with
  | .tup ps, .int k => if ps ≠ [] ∧ 2 ≤ k ∧ k ≤ 1000 ∧ ps.length ≤ 1000 then some (.tup (List.replicate k.toNat ps).flatten, m) else none
  | _, _ => none
theorem ox_tmul : OpR X (binaryOp .Mult) (G2 X.K cl tmulG) := by
  intro pins s σ H x y v u Q I rx ry ⟨ρ, p, q, mem, r, hm, hp, hq, h, kk⟩
  unfold tmulG at h
  split at h
  · rename_i ps k
    split at h
    · rename_i cond
      obtain ⟨ne, k2, k1000, few⟩ := cond
      cases h
      rw [rep_tup] at hp
      rw [rep_int] at hq
      obtain ⟨l, xs, rfl, tp, rs⟩ := hp
      subst hq
      cases rx
      obtain ⟨tk, rfl⟩ := ry
      obtain ⟨items, rv, ⟨⟨c0, dct, dat, slt⟩, there, isT, cnt, isD⟩, _⟩ := I.tuple tp.t
      simp only at isT isD
      subst isT isD
      have same : items.length = ps.length := by rw [← rv.length, rs.length]
      obtain ⟨z, zs, rfl⟩ : ∃ z zs, items = z :: zs := by
        cases items with
        | nil => exact absurd (List.eq_nil_of_length_eq_zero same.symm) ne
        | cons z zs => exact ⟨z, zs, rfl⟩
      have size : (z :: zs).toArray.size = ps.length := by rw [List.size_toArray, same]
      have mul : ((((z :: zs).toArray.size : Nat)) : Int) * k ≤ 1000000 := by
        rw [size]
        have := Int.mul_le_mul_of_nonneg_right (show ((ps.length : Nat) : Int) ≤ 1000 by omega) (show 0 ≤ k by omega)
        omega
      have rep1000 : k.toNat * ps.length ≤ 1000 * 1000 := Nat.mul_le_mul (by omega) few
      have room : (List.replicate k.toNat (z :: zs)).flatten.length ≤ sizeLine := by
        rw [PyProof.Rows.lm_len_rep_flat, same, sizeLine_eq]; omega
      have b0 : (decide (k < -(2 ^ 63)) || decide (k ≥ 2 ^ 63)) = false := by
        rw [Bool.or_eq_false_iff]; exact ⟨decide_eq_false (by omega), decide_eq_false (by omega)⟩
      have b1 : ((z :: zs).toArray.isEmpty || k == 1) = false := by
        rw [Bool.or_eq_false_iff]; exact ⟨rfl, beq_eq_false_iff_ne.mpr (by omega)⟩
      have b2 : (decide (k ≤ 0) || (z :: zs).toArray.isEmpty) = false := by
        rw [Bool.or_eq_false_iff]; exact ⟨decide_eq_false (by omega), rfl⟩
      have b4 : Builtin.Tuple.tupleTooMany ((((z :: zs).toArray.size : Nat) : Int) * k) = false := by
        unfold Builtin.Tuple.tupleTooMany; rw [sizeLine_eq]; exact decide_eq_false (by omega)
      have inner := tuple_mulW l (z :: zs).toArray cnt dct slt k tk b0 b1 b2 (by omega) b4 (by rw [size_rep, List.size_toArray]; exact room)
      have outer := int_rmul_tuple k tk l (z :: zs).toArray cnt dct slt
      refine wpAny_binaryOp_repeat_ref (T := "tuple") (U := "int") (by decide) ⟨_, there, rfl⟩ (fun s' => typeIs_int s' k tk) noFill_tuple_mul F.fills_int_mul F.slot_int_rmul repeat_tuple F.slot_int_index.lookup
        (call_meets F.slot_int_rmul (typeIs_int s k tk) F.entry_int_rmul (F.args_int_rmul_2 _ _) outer ⟨there, rfl, ⟨_, there, rfl⟩, call_meets F.slot_tuple_mul ⟨_, there, rfl⟩ F.entry_tuple_mul (F.args_tuple_mul_2 _ _) inner ⟨there, ?_⟩⟩)
      rw [size_rep]
      have rvk : Vals (List.replicate k.toNat xs).flatten (List.replicate k.toNat (z :: zs)).flatten := rv.rep k.toNat
      exact laid_tup I (by rw [rvk.length]; exact room) rvk fun b ob hd hn => by
        obtain ⟨w1, w2, w3⟩ := new_tup hd hm (rs.rep k.toNat) hn
        exact kk _ _ _ w1 w2 w3
    · cases h
  · cases h
end
end Rf
end

section
set_option Elab.async false
set_option linter.all false
set_option maxRecDepth 100000
set_option autoImplicit false
/-! V2: a second layer over Rf, without memory: lists by value; a name holds a value (v) or a list of its own (o), which alone may be changed; the script's state is threaded. -/
namespace V2
open PySem Rf L2

inductive DV where
  | non | bl (b : Bool) | int (i : Int) | str (s : Str) | tup (xs : List DV) | lst (xs : List DV) | dic (kvs : List (Key × Int)) | tok

structure Cs where
  ns : List Int
  a : Int
  n : Int
  t : Int
  ha : 0 ≤ a
  hn : 0 ≤ n
  ht : 0 ≤ t
inductive Sl where
  | v (d : DV) | o (ds : List DV)
abbrev Env2 := List (Option Sl)
abbrev E2 := Env2 → Cs → Option (DV × Cs)
abbrev T2 := Env2 → Cs → Option (Bool × Cs)
abbrev A2 := Env2 → Cs → Option (List DV × Cs)
inductive Fl2 where
  | nx | rt (d : DV) | bk | ct
abbrev S2 := Env2 → Cs → Option (Fl2 × Env2 × Cs)
abbrev F2 := List DV → Cs → Option (DV × Cs)

/-- where the script's state stands, where its cells stand -/
structure Tk where
  c : Nat
  j : Nat
section
variable (T : Tk) (A : Nat → Prop) (m : Mem)
mutual
def D2 : DV → PV → Prop
  | .non, p => p = .non
  | .bl b, p => p = .bl b
  | .int i, p => p = .int i
  | .str s, p => p = .str s
  | .tup ds, p => ∃ ps, p = .tup ps ∧ D2L ds ps
  | .lst ds, p => ∃ k ps, p = .ref k ∧ A k ∧ m[k]? = some (.lst ps) ∧ D2L ds ps
  | .dic kvs, p => ∃ k, p = .ref k ∧ A k ∧ m[k]? = some (.dic (kvs.map fun q => (q.1, .int q.2)))
  | .tok, p => p = .ref T.c
def D2L : List DV → List PV → Prop
  | [], ps => ps = []
  | d :: ds, ps => ∃ p r, ps = p :: r ∧ D2 d p ∧ D2L ds r
end
/-- a list whose place need not be fixed -/
def Dt : DV → PV → Prop
  | .lst ds, p => ∃ k ps, p = .ref k ∧ k ≠ T.c ∧ k < m.length ∧ m[k]? = some (.lst ps) ∧ D2L T A m ds ps
  | d, p => D2 T A m d p
structure WF (c : Cs) : Prop where
  at_ : m[T.c]? = some (.lst [.ref T.j, .int c.a, .int c.n, .int c.t, .int 20])
  cells : m[T.j]? = some (.lst (c.ns.map PV.int))
  nA : ¬ A T.c
  jA : A T.j
  lt : ∀ k, A k → k < m.length
/-- a fresh list, from B on -/
def Fs (B : Nat) (d : DV) (p : PV) : Prop := ∃ ds k ps, d = .lst ds ∧ p = .ref k ∧ B ≤ k ∧ ¬ A k ∧ k ≠ T.c ∧ m[k]? = some (.lst ps) ∧ D2L T A m ds ps
def SlR (B : Nat) : Sl → PV → Prop
  | .v d, p => D2 T A m d p
  | .o ds, p => ∃ k ps, p = .ref k ∧ B ≤ k ∧ ¬ A k ∧ k ≠ T.c ∧ m[k]? = some (.lst ps) ∧ D2L T A m ds ps
structure EnvR (B : Nat) (e2 : Env2) (e : Rf.Env) : Prop where
  len : e.length = e2.length
  ok : ∀ (i : Nat) (s : Sl), e2[i]? = some (some s) → ∃ p : PV, e[i]? = some (some p) ∧ SlR T A m B s p
  inj : ∀ (i j : Nat) (ds es : List DV) (k : Nat), e2[i]? = some (some (.o ds)) → e2[j]? = some (some (.o es)) → e[i]? = some (some (.ref k)) → e[j]? = some (some (.ref k)) → i = j
end
/-- what an expression leaves: all that stood but the script's state -/
structure Xt (T : Tk) (A : Nat → Prop) (m : Mem) (A' : Nat → Prop) (m' : Mem) : Prop where
  le : m.length ≤ m'.length
  old : ∀ k, k < m.length → k ≠ T.c → m'[k]? = m[k]?
  up : ∀ k, A k → A' k
  dn : ∀ k, k < m.length → A' k → A k
/-- what a statement leaves: what is fixed, and all ahead of B -/
structure Xs (T : Tk) (B : Nat) (A : Nat → Prop) (m : Mem) (A' : Nat → Prop) (m' : Mem) : Prop where
  le : m.length ≤ m'.length
  old : ∀ k, k < B → k ≠ T.c → m'[k]? = m[k]?
  fix : ∀ k, A k → m'[k]? = m[k]?
  up : ∀ k, A k → A' k
  dn : ∀ k, k < B → A' k → A k

section
variable {T : Tk} {A A' A'' : Nat → Prop} {m m' m'' : Mem}
theorem lt_of {k : Nat} {o : Ob} (h : m[k]? = some o) : k < m.length := (List.getElem?_eq_some_iff.mp h).1
theorem Xt.refl : Xt T A m A m := ⟨Nat.le_refl _, fun _ _ _ => rfl, fun _ h => h, fun _ _ h => h⟩
theorem Xt.trans (a : Xt T A m A' m') (b : Xt T A' m' A'' m'') : Xt T A m A'' m'' :=
  ⟨Nat.le_trans a.le b.le, fun k h n => (b.old k (Nat.lt_of_lt_of_le h a.le) n).trans (a.old k h n), fun k h => b.up k (a.up k h), fun k h q => a.dn k h (b.dn k (Nat.lt_of_lt_of_le h a.le) q)⟩
theorem Xt.fix {c : Cs} (x : Xt T A m A' m') (w : WF T A m c) (k : Nat) (h : A k) : m'[k]? = m[k]? := x.old k (w.lt k h) fun e => w.nA (e ▸ h)
section
variable (h1 : ∀ k, A k → A' k) (h2 : ∀ k, A k → m'[k]? = m[k]?)
include h1 h2
mutual
theorem D2.mono : ∀ (d : DV) (p : PV), D2 T A m d p → D2 T A' m' d p
  | .non, _, h => h
  | .bl _, _, h => h
  | .int _, _, h => h
  | .str _, _, h => h
  | .tup ds, p, h => by
    rw [D2] at h ⊢
    obtain ⟨ps, e, h⟩ := h
    exact ⟨ps, e, D2L.mono ds ps h⟩
  | .lst ds, p, h => by
    rw [D2] at h ⊢
    obtain ⟨k, ps, e, a, g, h⟩ := h
    exact ⟨k, ps, e, h1 k a, (h2 k a).trans g, D2L.mono ds ps h⟩
  | .dic kvs, p, h => by
    rw [D2] at h ⊢
    obtain ⟨k, e, a, g⟩ := h
    exact ⟨k, e, h1 k a, (h2 k a).trans g⟩
  | .tok, _, h => h
theorem D2L.mono : ∀ (ds : List DV) (ps : List PV), D2L T A m ds ps → D2L T A' m' ds ps
  | [], _, h => h
  | d :: ds, ps, h => by
    rw [D2L] at h ⊢
    obtain ⟨p, r, e, a, b⟩ := h
    exact ⟨p, r, e, D2.mono d p a, D2L.mono ds r b⟩
end
end
theorem D2.x {c : Cs} {d : DV} {p : PV} (h : D2 T A m d p) (w : WF T A m c) (x : Xt T A m A' m') : D2 T A' m' d p := D2.mono x.up (x.fix w) d p h
theorem D2L.x {c : Cs} {d : List DV} {p : List PV} (h : D2L T A m d p) (w : WF T A m c) (x : Xt T A m A' m') : D2L T A' m' d p := D2L.mono x.up (x.fix w) d p h
theorem D2.xs {B : Nat} {d : DV} {p : PV} (h : D2 T A m d p) (x : Xs T B A m A' m') : D2 T A' m' d p := D2.mono x.up x.fix d p h
theorem D2L.xs {B : Nat} {d : List DV} {p : List PV} (h : D2L T A m d p) (x : Xs T B A m A' m') : D2L T A' m' d p := D2L.mono x.up x.fix d p h
theorem Xs.refl {B : Nat} : Xs T B A m A m := ⟨Nat.le_refl _, fun _ _ _ => rfl, fun _ _ => rfl, fun _ h => h, fun _ _ h => h⟩
theorem Xs.trans {B : Nat} (a : Xs T B A m A' m') (b : Xs T B A' m' A'' m'') : Xs T B A m A'' m'' :=
  ⟨Nat.le_trans a.le b.le, fun k h n => (b.old k h n).trans (a.old k h n), fun k h => (b.fix k (a.up k h)).trans (a.fix k h), fun k h => b.up k (a.up k h), fun k h q => a.dn k h (b.dn k h q)⟩
theorem Xt.s {c : Cs} {B : Nat} (x : Xt T A m A' m') (w : WF T A m c) (hB : B ≤ m.length) : Xs T B A m A' m' := ⟨x.le, fun k h n => x.old k (Nat.lt_of_lt_of_le h hB) n, x.fix w, x.up, fun k h q => x.dn k (Nat.lt_of_lt_of_le h hB) q⟩
theorem Xs.t (x : Xs T m.length A m A' m') : Xt T A m A' m' := ⟨x.le, x.old, x.up, x.dn⟩
theorem Dt.x {c : Cs} {d : DV} {p : PV} (h : Dt T A m d p) (w : WF T A m c) (x : Xt T A m A' m') : Dt T A' m' d p := by
  cases d with
  | lst ds =>
    obtain ⟨k, ps, e, n, l, g, h⟩ := h
    exact ⟨k, ps, e, n, Nat.lt_of_lt_of_le l x.le, (x.old k l n).trans g, h.x w x⟩
  | _ => exact D2.x h w x
theorem D2.t {c : Cs} {d : DV} {p : PV} (h : D2 T A m d p) (w : WF T A m c) : Dt T A m d p := by
  cases d with
  | lst ds =>
    rw [D2] at h
    obtain ⟨k, ps, e, a, g, h⟩ := h
    exact ⟨k, ps, e, fun z => w.nA (z ▸ a), w.lt k a, g, h⟩
  | _ => exact h
theorem Fs.t {B : Nat} {d : DV} {p : PV} (h : Fs T A m B d p) : Dt T A m d p := by
  obtain ⟨ds, k, ps, rfl, e, _, _, n, g, h⟩ := h
  exact ⟨k, ps, e, n, lt_of g, g, h⟩
/-- a fresh list is fixed -/
theorem Fs.fix {c : Cs} {d : DV} {p : PV} {A0 : Nat → Prop} {m0 : Mem} (x : Xt T A0 m0 A m) (w : WF T A m c) (h : Fs T A m m0.length d p) : ∃ A', Xt T A0 m0 A' m ∧ WF T A' m c ∧ D2 T A' m d p := by
  obtain ⟨ds, k, ps, rfl, e, hk, a, n, g, h⟩ := h
  refine ⟨fun i => A i ∨ i = k, ⟨x.le, x.old, fun i q => .inl (x.up i q), fun i l q => q.elim (x.dn i l) fun z => absurd l (by omega)⟩, ⟨w.at_, w.cells, fun q => q.elim w.nA fun z => n z.symm, .inl w.jA, fun i q => q.elim (w.lt i) fun z => z ▸ lt_of g⟩, ?_⟩
  rw [D2]
  exact ⟨k, ps, e, .inr rfl, g, D2L.mono (fun _ => .inl) (fun _ _ => rfl) ds ps h⟩
theorem SlR.x {c : Cs} {B : Nat} {s : Sl} {p : PV} (h : SlR T A m B s p) (w : WF T A m c) (x : Xt T A m A' m') : SlR T A' m' B s p := by
  cases s with
  | v d => exact D2.x h w x
  | o ds =>
    obtain ⟨k, ps, e, hk, a, n, g, h⟩ := h
    exact ⟨k, ps, e, hk, fun q => a (x.dn k (lt_of g) q), n, (x.old k (lt_of g) n).trans g, h.x w x⟩
theorem EnvR.x {c : Cs} {B : Nat} {e2 : Env2} {e : Rf.Env} (h : EnvR T A m B e2 e) (w : WF T A m c) (x : Xt T A m A' m') : EnvR T A' m' B e2 e :=
  ⟨h.len, fun i s q => let ⟨p, a, b⟩ := h.ok i s q; ⟨p, a, b.x w x⟩, h.inj⟩
theorem WF.app {c : Cs} (w : WF T A m c) (o : Ob) : WF T A (m ++ [o]) c :=
  ⟨by rw [List.getElem?_append_left (lt_of w.at_)]; exact w.at_, by rw [List.getElem?_append_left (lt_of w.cells)]; exact w.cells, w.nA, w.jA, fun k h => by have := w.lt k h; simp; omega⟩
theorem Xt.app {o : Ob} (h : ∀ k, A k → k < m.length) : Xt T A m A (m ++ [o]) := ⟨by simp, fun k l _ => List.getElem?_append_left l, fun _ q => q, fun _ _ q => q⟩
theorem D2L.length : ∀ {ds : List DV} {ps : List PV}, D2L T A m ds ps → ps.length = ds.length
  | [], ps, h => by rw [D2L] at h; rw [h]; rfl
  | d :: ds, ps, h => by
    rw [D2L] at h
    obtain ⟨p, r, rfl, _, h⟩ := h
    rw [List.length_cons, List.length_cons, D2L.length h]
theorem D2L.inv {d : DV} {ds : List DV} {ps : List PV} (h : D2L T A m (d :: ds) ps) : ∃ p r, ps = p :: r ∧ D2 T A m d p ∧ D2L T A m ds r := by rwa [D2L] at h
theorem D2L.inv0 {ps : List PV} (h : D2L T A m [] ps) : ps = [] := by rwa [D2L] at h
theorem D2L.nil : D2L T A m [] [] := by rw [D2L]
theorem D2L.cons {d : DV} {ds : List DV} {p : PV} {ps : List PV} (h : D2 T A m d p) (h' : D2L T A m ds ps) : D2L T A m (d :: ds) (p :: ps) := by
  rw [D2L]
  exact ⟨p, ps, rfl, h, h'⟩
theorem D2L.one {d : DV} {p : PV} (h : D2 T A m d p) : D2L T A m [d] [p] := .cons h .nil
theorem D2L.append : ∀ {ds es : List DV} {ps qs : List PV}, D2L T A m ds ps → D2L T A m es qs → D2L T A m (ds ++ es) (ps ++ qs)
  | [], es, ps, qs, h, h' => by rw [h.inv0]; exact h'
  | d :: ds, es, ps, qs, h, h' => by
    obtain ⟨p, r, rfl, a, b⟩ := h.inv
    exact .cons a (D2L.append b h')
theorem D2L.get : ∀ {ds : List DV} {ps : List PV} {i : Nat} {d : DV}, D2L T A m ds ps → ds[i]? = some d → ∃ p, ps[i]? = some p ∧ D2 T A m d p
  | [], _, i, d, _, e => by simp at e
  | q :: ds, ps, i, d, h, e => by
    obtain ⟨x, r, rfl, h2, h3⟩ := h.inv
    cases i with
    | zero =>
      simp only [List.getElem?_cons_zero, Option.some.injEq] at e
      subst e
      exact ⟨x, rfl, h2⟩
    | succ i =>
      simp only [List.getElem?_cons_succ] at e
      obtain ⟨y, h4, h5⟩ := D2L.get h3 e
      exact ⟨y, by simpa using h4, h5⟩
theorem D2L.set : ∀ {ds : List DV} {ps : List PV} {d : DV} {p : PV} (i : Nat), D2L T A m ds ps → D2 T A m d p → D2L T A m (ds.set i d) (ps.set i p)
  | [], ps, _, _, i, h, h' => by rw [h.inv0]; exact .nil
  | q :: ds, ps, _, _, i, h, h' => by
    obtain ⟨x, r, rfl, h2, h3⟩ := h.inv
    cases i with
    | zero => exact .cons h' h3
    | succ i => exact .cons h2 (D2L.set i h3 h')
theorem D2L.take : ∀ {ds : List DV} {ps : List PV} (n : Nat), D2L T A m ds ps → D2L T A m (ds.take n) (ps.take n)
  | [], ps, n, h => by rw [h.inv0]; simp; exact .nil
  | q :: ds, ps, n, h => by
    obtain ⟨x, r, rfl, h2, h3⟩ := h.inv
    cases n with
    | zero => exact .nil
    | succ n => exact .cons h2 (D2L.take n h3)
theorem D2L.drop : ∀ {ds : List DV} {ps : List PV} (n : Nat), D2L T A m ds ps → D2L T A m (ds.drop n) (ps.drop n)
  | [], ps, n, h => by rw [h.inv0]; simp; exact .nil
  | q :: ds, ps, n, h => by
    obtain ⟨x, r, rfl, h2, h3⟩ := h.inv
    cases n with
    | zero => exact .cons h2 h3
    | succ n => exact D2L.drop n h3
theorem D2L.ints : ∀ is : List Int, D2L T A m (is.map DV.int) (is.map PV.int)
  | [] => .nil
  | i :: is => .cons (by rw [D2]) (D2L.ints is)
@[simp] theorem d2_non {p : PV} : D2 T A m .non p ↔ p = .non := by rw [D2]
@[simp] theorem d2_bl {b : Bool} {p : PV} : D2 T A m (.bl b) p ↔ p = .bl b := by rw [D2]
@[simp] theorem d2_int {b : Int} {p : PV} : D2 T A m (.int b) p ↔ p = .int b := by rw [D2]
@[simp] theorem d2_str {b : Str} {p : PV} : D2 T A m (.str b) p ↔ p = .str b := by rw [D2]
theorem d2_tup {ds : List DV} {p : PV} : D2 T A m (.tup ds) p ↔ ∃ ps, p = .tup ps ∧ D2L T A m ds ps := by rw [D2]
theorem d2_tok {p : PV} : D2 T A m .tok p ↔ p = .ref T.c := by rw [D2]
end

/-! ### judgements -/
section
variable (T : Tk)
def SX (e2 : E2) (e : Ex) : Prop := ∀ A m c B v2 v, WF T A m c → EnvR T A m B v2 v → ∀ r c', e2 v2 c = some (r, c') → ∃ p m' A', e v m = some (p, m') ∧ Xt T A m A' m' ∧ WF T A' m' c' ∧ D2 T A' m' r p
/-- a fresh list -/
def SXf (e2 : E2) (e : Ex) : Prop := ∀ A m c B v2 v, WF T A m c → EnvR T A m B v2 v → ∀ r c', e2 v2 c = some (r, c') → ∃ p m' A', e v m = some (p, m') ∧ Xt T A m A' m' ∧ WF T A' m' c' ∧ Fs T A' m' m.length r p
/-- only looked at -/
def SXp (e2 : E2) (e : Ex) : Prop := ∀ A m c B v2 v, WF T A m c → EnvR T A m B v2 v → ∀ r c', e2 v2 c = some (r, c') → ∃ p m' A', e v m = some (p, m') ∧ Xt T A m A' m' ∧ WF T A' m' c' ∧ Dt T A' m' r p
def ST (e2 : T2) (e : Tx) : Prop := ∀ A m c B v2 v, WF T A m c → EnvR T A m B v2 v → ∀ r c', e2 v2 c = some (r, c') → ∃ m' A', e v m = some (r, m') ∧ Xt T A m A' m' ∧ WF T A' m' c'
def SA (e2 : A2) (e : Ax) : Prop := ∀ A m c B v2 v, WF T A m c → EnvR T A m B v2 v → ∀ r c', e2 v2 c = some (r, c') → ∃ ps m' A', e v m = some (ps, m') ∧ Xt T A m A' m' ∧ WF T A' m' c' ∧ D2L T A' m' r ps
def SF (f2 : F2) (f : Fn) : Prop := ∀ A m c ds ps, WF T A m c → D2L T A m ds ps → ∀ r c', f2 ds c = some (r, c') → ∃ p m' A', f ps m = some (p, m') ∧ Xt T A m A' m' ∧ WF T A' m' c' ∧ D2 T A' m' r p
def SFf (f2 : F2) (f : Fn) : Prop := ∀ A m c ds ps, WF T A m c → D2L T A m ds ps → ∀ r c', f2 ds c = some (r, c') → ∃ p m' A', f ps m = some (p, m') ∧ Xt T A m A' m' ∧ WF T A' m' c' ∧ Fs T A' m' m.length r p
/-- ends of statements: φ: what is returned is fresh -/
def FlR (φ : Bool) (A : Nat → Prop) (m : Mem) (B : Nat) : Fl2 → Fl → Prop
  | .nx, f => f = .nx
  | .bk, f => f = .bk
  | .ct, f => f = .ct
  | .rt d, f => ∃ p, f = .rt p ∧ if φ = true then Fs T A m B d p else D2 T A m d p
def SS (φ : Bool) (s2 : S2) (s : Sx) : Prop := ∀ A m c B v2 v, WF T A m c → EnvR T A m B v2 v → B ≤ m.length → ∀ f2 v2' c', s2 v2 c = some (f2, v2', c') → ∃ f v' m' A', s v m = some (f, v', m') ∧ Xs T B A m A' m' ∧ WF T A' m' c' ∧ EnvR T A' m' B v2' v' ∧ FlR T φ A' m' B f2 f
end
section
variable {T : Tk} {e2 a2 b2 : E2} {e a b : Ex} {t2 u2 : T2} {t u : Tx} {as2 : A2} {as : Ax}
theorem SX.p (h : SX T e2 e) : SXp T e2 e := fun A m c B v2 v w E r c' q => let ⟨p, m', A', h1, h2, h3, h4⟩ := h A m c B v2 v w E r c' q; ⟨p, m', A', h1, h2, h3, h4.t h3⟩
theorem SXf.p (h : SXf T e2 e) : SXp T e2 e := fun A m c B v2 v w E r c' q => let ⟨p, m', A', h1, h2, h3, h4⟩ := h A m c B v2 v w E r c' q; ⟨p, m', A', h1, h2, h3, h4.t⟩
theorem SXf.x (h : SXf T e2 e) : SX T e2 e := fun A m c B v2 v w E r c' q => by
  obtain ⟨p, m', A', h1, h2, h3, h4⟩ := h A m c B v2 v w E r c' q
  obtain ⟨A'', x1, x2, x3⟩ := h4.fix h2 h3
  exact ⟨p, m', A'', h1, x1, x2, x3⟩
theorem SFf.x {f2 : F2} {f : Fn} (h : SFf T f2 f) : SF T f2 f := fun A m c ds ps w D r c' q => by
  obtain ⟨p, m', A', h1, h2, h3, h4⟩ := h A m c ds ps w D r c' q
  obtain ⟨A'', x1, x2, x3⟩ := h4.fix h2 h3
  exact ⟨p, m', A'', h1, x1, x2, x3⟩

/-! ### names, constants -/
def yVar (i : Nat) : E2 := fun v c => match v[i]? with
  | some (some (.v d)) => some (d, c)
  | _ => none
def yPk (i : Nat) : E2 := fun v c => match v[i]? with
  | some (some (.v d)) => some (d, c)
  | some (some (.o ds)) => some (.lst ds, c)
  | _ => none
def yC (d : DV) : E2 := fun _ c => some (d, c)
theorem sx_var {i : Nat} : SX T (yVar i) (xVar i) := fun A m c B v2 v w E r c' q => by
  unfold yVar at q
  split at q
  · rename_i d hd
    cases q
    obtain ⟨p, h1, h2⟩ := E.ok i _ hd
    exact ⟨p, m, A, by unfold xVar; rw [h1], .refl, w, h2⟩
  · cases q
theorem sp_var {i : Nat} : SXp T (yPk i) (xVar i) := fun A m c B v2 v w E r c' q => by
  unfold yPk at q
  split at q
  · rename_i d hd
    cases q
    obtain ⟨p, h1, h2⟩ := E.ok i _ hd
    exact ⟨p, m, A, by unfold xVar; rw [h1], .refl, w, D2.t h2 w⟩
  · rename_i d hd
    cases q
    obtain ⟨p, h1, k, ps, rfl, hk, a, n, g, h⟩ := E.ok i _ hd
    exact ⟨_, m, A, by unfold xVar; rw [h1], .refl, w, k, ps, rfl, n, lt_of g, g, h⟩
  · cases q
theorem sx_c {d : DV} {p : PV} (h : ∀ A m, D2 T A m d p) : SX T (yC d) (xC p) := fun A m c B v2 v w E r c' q => by
  cases q
  exact ⟨p, m, A, rfl, .refl, w, h A m⟩
theorem sx_int {i : Int} : SX T (yC (.int i)) (xC (.int i)) := sx_c fun _ _ => by rw [D2]
theorem sx_bl {i : Bool} : SX T (yC (.bl i)) (xC (.bl i)) := sx_c fun _ _ => by rw [D2]
theorem sx_str {i : Str} : SX T (yC (.str i)) (xC (.str i)) := sx_c fun _ _ => by rw [D2]
theorem sx_non : SX T (yC .non) (xC .non) := sx_c fun _ _ => by rw [D2]

/-! ### operations: on looked-at values; what they give is fixed (Q) or fresh (Qf) -/
def OpX (g2 : DV → Option DV) (g : PV → Mem → Option (PV × Mem)) (T : Tk) : Prop := ∀ A m c d p, WF T A m c → Dt T A m d p → ∀ r, g2 d = some r → ∃ p' m' A', g p m = some (p', m') ∧ Xt T A m A' m' ∧ WF T A' m' c ∧ D2 T A' m' r p'
def OpF (g2 : DV → Option DV) (g : PV → Mem → Option (PV × Mem)) (T : Tk) : Prop := ∀ A m c d p, WF T A m c → Dt T A m d p → ∀ r, g2 d = some r → ∃ p' m' A', g p m = some (p', m') ∧ Xt T A m A' m' ∧ WF T A' m' c ∧ Fs T A' m' m.length r p'
def Op2 (g2 : DV → DV → Option DV) (g : PV → PV → Mem → Option (PV × Mem)) (T : Tk) : Prop := ∀ A m c d p e q, WF T A m c → Dt T A m d p → Dt T A m e q → ∀ r, g2 d e = some r → ∃ p' m' A', g p q m = some (p', m') ∧ Xt T A m A' m' ∧ WF T A' m' c ∧ D2 T A' m' r p'
def Op2f (g2 : DV → DV → Option DV) (g : PV → PV → Mem → Option (PV × Mem)) (T : Tk) : Prop := ∀ A m c d p e q, WF T A m c → Dt T A m d p → Dt T A m e q → ∀ r, g2 d e = some r → ∃ p' m' A', g p q m = some (p', m') ∧ Xt T A m A' m' ∧ WF T A' m' c ∧ Fs T A' m' m.length r p'
def y1 (g : DV → Option DV) (a : E2) : E2 := fun v c => (a v c).bind fun r => (g r.1).map fun d => (d, r.2)
def y2 (g : DV → DV → Option DV) (a b : E2) : E2 := fun v c => (a v c).bind fun r => (b v r.2).bind fun s => (g r.1 s.1).map fun d => (d, s.2)
theorem sx_1 {g2 : DV → Option DV} {g : PV → Mem → Option (PV × Mem)} (o : OpX g2 g T) (h : SXp T a2 a) : SX T (y1 g2 a2) (x1 g a) := fun A m c B v2 v w E r c' q => by
  obtain ⟨⟨d, c1⟩, q1, q⟩ := Option.bind_eq_some_iff.mp q
  obtain ⟨d', q2, q⟩ := Option.map_eq_some_iff.mp q
  cases q
  obtain ⟨p, m1, A1, h1, h2, h3, h4⟩ := h A m c B v2 v w E _ _ q1
  obtain ⟨p', m2, A2, h5, h6, h7, h8⟩ := o A1 m1 _ d p h3 h4 _ q2
  exact ⟨p', m2, A2, by unfold x1; rw [h1]; exact h5, h2.trans h6, h7, h8⟩
theorem sf_1 {g2 : DV → Option DV} {g : PV → Mem → Option (PV × Mem)} (o : OpF g2 g T) (h : SXp T a2 a) : SXf T (y1 g2 a2) (x1 g a) := fun A m c B v2 v w E r c' q => by
  obtain ⟨⟨d, c1⟩, q1, q⟩ := Option.bind_eq_some_iff.mp q
  obtain ⟨d', q2, q⟩ := Option.map_eq_some_iff.mp q
  cases q
  obtain ⟨p, m1, A1, h1, h2, h3, h4⟩ := h A m c B v2 v w E _ _ q1
  obtain ⟨p', m2, A2, h5, h6, h7, ds, k, ps, e1, e2, hk, h8⟩ := o A1 m1 _ d p h3 h4 _ q2
  exact ⟨p', m2, A2, by unfold x1; rw [h1]; exact h5, h2.trans h6, h7, ds, k, ps, e1, e2, Nat.le_trans h2.le hk, h8⟩
/-- the same for a call of a built-in with one argument -/
def un1 (g : List PV → Mem → Option (PV × Mem)) : PV → Mem → Option (PV × Mem) := fun p m => g [p] m
theorem xA_1 {g : List PV → Mem → Option (PV × Mem)} : xA g (aCons a aNil) = x1 (un1 g) a := by
  funext v m
  unfold xA aCons aNil x1 un1
  cases a v m <;> rfl
theorem sx_A {g2 : DV → Option DV} {g : List PV → Mem → Option (PV × Mem)} (o : OpX g2 (un1 g) T) (h : SXp T a2 a) : SX T (y1 g2 a2) (xA g (aCons a aNil)) := xA_1 ▸ sx_1 o h
theorem sf_A {g2 : DV → Option DV} {g : List PV → Mem → Option (PV × Mem)} (o : OpF g2 (un1 g) T) (h : SXp T a2 a) : SXf T (y1 g2 a2) (xA g (aCons a aNil)) := xA_1 ▸ sf_1 o h
theorem sx_2 {g2 : DV → DV → Option DV} {g : PV → PV → Mem → Option (PV × Mem)} (o : Op2 g2 g T) (h : SXp T a2 a) (h' : SXp T b2 b) : SX T (y2 g2 a2 b2) (x2 g a b) := fun A m c B v2 v w E r c' q => by
  obtain ⟨⟨d, c1⟩, q1, q⟩ := Option.bind_eq_some_iff.mp q
  obtain ⟨⟨d', c2⟩, q2, q⟩ := Option.bind_eq_some_iff.mp q
  obtain ⟨d'', q3, q⟩ := Option.map_eq_some_iff.mp q
  cases q
  obtain ⟨p, m1, A1, h1, h2, h3, h4⟩ := h A m c B v2 v w E _ _ q1
  obtain ⟨p', m2, A2, h5, h6, h7, h8⟩ := h' A1 m1 _ B v2 v h3 (E.x w h2) _ _ q2
  obtain ⟨p'', m3, A3, h9, h10, h11, h12⟩ := o A2 m2 _ _ _ _ _ h7 (h4.x h3 h6) h8 _ q3
  exact ⟨p'', m3, A3, by unfold x2; rw [h1]; simp only [Option.bind_some]; rw [h5]; exact h9, h2.trans (h6.trans h10), h11, h12⟩
theorem sf_2 {g2 : DV → DV → Option DV} {g : PV → PV → Mem → Option (PV × Mem)} (o : Op2f g2 g T) (h : SXp T a2 a) (h' : SXp T b2 b) : SXf T (y2 g2 a2 b2) (x2 g a b) := fun A m c B v2 v w E r c' q => by
  obtain ⟨⟨d, c1⟩, q1, q⟩ := Option.bind_eq_some_iff.mp q
  obtain ⟨⟨d', c2⟩, q2, q⟩ := Option.bind_eq_some_iff.mp q
  obtain ⟨d'', q3, q⟩ := Option.map_eq_some_iff.mp q
  cases q
  obtain ⟨p, m1, A1, h1, h2, h3, h4⟩ := h A m c B v2 v w E _ _ q1
  obtain ⟨p', m2, A2, h5, h6, h7, h8⟩ := h' A1 m1 _ B v2 v h3 (E.x w h2) _ _ q2
  obtain ⟨p'', m3, A3, h9, h10, h11, ds, k, ps, e1, e2, hk, h12⟩ := o A2 m2 _ _ _ _ _ h7 (h4.x h3 h6) h8 _ q3
  exact ⟨p'', m3, A3, by unfold x2; rw [h1]; simp only [Option.bind_some]; rw [h5]; exact h9, h2.trans (h6.trans h10), h11, ds, k, ps, e1, e2, Nat.le_trans h2.le (Nat.le_trans h6.le hk), h12⟩

/-! ### arguments, calls -/
def zNil : A2 := fun _ c => some ([], c)
def zCons (a : E2) (r : A2) : A2 := fun v c => (a v c).bind fun x => (r v x.2).bind fun xs => some (x.1 :: xs.1, xs.2)
theorem sa_nil : SA T zNil aNil := fun A m c B v2 v w E r c' q => by
  cases q
  exact ⟨[], m, A, rfl, .refl, w, .nil⟩
theorem sa_cons (h : SX T a2 a) (h' : SA T as2 as) : SA T (zCons a2 as2) (aCons a as) := fun A m c B v2 v w E r c' q => by
  obtain ⟨⟨d, c1⟩, q1, q⟩ := Option.bind_eq_some_iff.mp q
  obtain ⟨⟨ds, c2⟩, q2, q⟩ := Option.bind_eq_some_iff.mp q
  cases q
  obtain ⟨p, m1, A1, h1, h2, h3, h4⟩ := h A m c B v2 v w E _ _ q1
  obtain ⟨ps, m2, A2, h5, h6, h7, h8⟩ := h' A1 m1 _ B v2 v h3 (E.x w h2) _ _ q2
  exact ⟨p :: ps, m2, A2, by unfold aCons; rw [h1]; simp only [Option.bind_some]; rw [h5]; rfl, h2.trans h6, h7, .cons (h4.x h3 h6) h8⟩
def yCall (n : Nat) (F : F2) (a : A2) : E2 := fun v c => (a v c).bind fun r => if r.1.length = n then F r.1 r.2 else none
theorem sx_call {n : Nat} {f2 : F2} {f : Fn} (hf : SF T f2 f) (h : SA T as2 as) : SX T (yCall n f2 as2) (xCall n f as) := fun A m c B v2 v w E r c' q => by
  obtain ⟨⟨d, c1⟩, q1, q⟩ := Option.bind_eq_some_iff.mp q
  obtain ⟨ps, m1, A1, h1, h2, h3, h4⟩ := h A m c B v2 v w E _ _ q1
  split at q
  · rename_i hl
    obtain ⟨p', m2, A2, h5, h6, h7, h8⟩ := hf A1 m1 _ _ _ h3 h4 _ _ q
    exact ⟨p', m2, A2, by unfold xCall; rw [h1]; simp only [Option.bind_some]; rw [if_pos (by rw [h4.length]; exact hl)]; exact h5, h2.trans h6, h7, h8⟩
  · cases q
theorem sf_call {n : Nat} {f2 : F2} {f : Fn} (hf : SFf T f2 f) (h : SA T as2 as) : SXf T (yCall n f2 as2) (xCall n f as) := fun A m c B v2 v w E r c' q => by
  obtain ⟨⟨d, c1⟩, q1, q⟩ := Option.bind_eq_some_iff.mp q
  obtain ⟨ps, m1, A1, h1, h2, h3, h4⟩ := h A m c B v2 v w E _ _ q1
  split at q
  · rename_i hl
    obtain ⟨p', m2, A2, h5, h6, h7, ds, k, qs, e1, e2, hk, h8⟩ := hf A1 m1 _ _ _ h3 h4 _ _ q
    exact ⟨p', m2, A2, by unfold xCall; rw [h1]; simp only [Option.bind_some]; rw [if_pos (by rw [h4.length]; exact hl)]; exact h5, h2.trans h6, h7, ds, k, qs, e1, e2, Nat.le_trans h2.le hk, h8⟩
  · cases q
/-- displays -/
def yTup (a : A2) : E2 := fun v c => (a v c).bind fun r => if r.1.length ≤ sizeLine then some (.tup r.1, r.2) else none
def yLst (a : A2) : E2 := fun v c => (a v c).bind fun r => if r.1.length ≤ sizeLine then some (.lst r.1, r.2) else none
theorem sx_tup (h : SA T as2 as) : SX T (yTup as2) (xA tupG as) := fun A m c B v2 v w E r c' q => by
  obtain ⟨⟨d, c1⟩, q1, q⟩ := Option.bind_eq_some_iff.mp q
  obtain ⟨ps, m1, A1, h1, h2, h3, h4⟩ := h A m c B v2 v w E _ _ q1
  split at q
  · rename_i hl
    cases q
    exact ⟨.tup ps, m1, A1, by unfold xA; rw [h1]; simp only [Option.bind_some]; unfold tupG; rw [if_pos (by rw [h4.length]; exact hl)], h2, h3, by rw [d2_tup]; exact ⟨ps, rfl, h4⟩⟩
  · cases q
/-- a new list -/
theorem fs_new {A : Nat → Prop} {m : Mem} {c : Cs} {ds : List DV} {ps : List PV} (w : WF T A m c) (h : D2L T A m ds ps) : Xt T A m A (m ++ [.lst ps]) ∧ WF T A (m ++ [.lst ps]) c ∧ Fs T A (m ++ [.lst ps]) m.length (.lst ds) (.ref m.length) := by
  refine ⟨.app w.lt, w.app _, ds, m.length, ps, rfl, rfl, Nat.le_refl _, fun q => absurd (w.lt _ q) (Nat.lt_irrefl _), fun e => absurd (lt_of w.at_) (by rw [← e]; exact Nat.lt_irrefl _), by simp, h.x w (.app w.lt)⟩
theorem sf_lst (h : SA T as2 as) : SXf T (yLst as2) (xA lstG as) := fun A m c B v2 v w E r c' q => by
  obtain ⟨⟨d, c1⟩, q1, q⟩ := Option.bind_eq_some_iff.mp q
  obtain ⟨ps, m1, A1, h1, h2, h3, h4⟩ := h A m c B v2 v w E _ _ q1
  split at q
  · rename_i hl
    cases q
    obtain ⟨z1, z2, ds, k, qs, e1, e2, hk, z3⟩ := fs_new h3 h4
    exact ⟨.ref m1.length, m1 ++ [.lst ps], A1, by unfold xA; rw [h1]; simp only [Option.bind_some]; unfold lstG; rw [if_pos (by rw [h4.length]; exact hl)], h2.trans z1, z2, ds, k, qs, e1, e2, Nat.le_trans h2.le hk, z3⟩
  · cases q

/-! ### choices, tests -/
def yIf (t : T2) (a b : E2) : E2 := fun v c => (t v c).bind fun r => if r.1 = true then a v r.2 else b v r.2
def yNt (a : E2) : E2 := fun v c => (a v c).bind fun r => match r.1 with
  | .bl b => some (.bl (!b), r.2)
  | _ => none
def yAn (a b : E2) : E2 := fun v c => (a v c).bind fun r => match r.1 with
  | .bl k => if k = true then b v r.2 else some (.bl false, r.2)
  | _ => none
def yOr (a b : E2) : E2 := fun v c => (a v c).bind fun r => match r.1 with
  | .bl k => if k = true then some (.bl true, r.2) else b v r.2
  | _ => none
def uBl (a : E2) : T2 := fun v c => (a v c).bind fun r => match r.1 with
  | .bl b => some (b, r.2)
  | _ => none
def uNt (a : T2) : T2 := fun v c => (a v c).map fun r => (!r.1, r.2)
def uAn (a b : T2) : T2 := fun v c => (a v c).bind fun r => if r.1 = true then b v r.2 else some (false, r.2)
def uOr (a b : T2) : T2 := fun v c => (a v c).bind fun r => if r.1 = true then some (true, r.2) else b v r.2
def uYs : T2 := fun _ c => some (true, c)
def truV : DV → Option Bool
  | .non => some false
  | .bl b => some b
  | .int i => some (decide (i ≠ 0))
  | .str s => if s.length ≤ sizeLine then some (decide (s.length ≠ 0)) else none
  | .tup ds => some (!ds.isEmpty)
  | .lst ds => some (!ds.isEmpty)
  | _ => none
def uTru (a : E2) : T2 := fun v c => (a v c).bind fun r => (truV r.1).map fun k => (k, r.2)
theorem sx_if (ht : ST T t2 t) (ha : SX T a2 a) (hb : SX T b2 b) : SX T (yIf t2 a2 b2) (xIf t a b) := fun A m c B v2 v w E r c' q => by
  obtain ⟨⟨d, c1⟩, q1, q⟩ := Option.bind_eq_some_iff.mp q
  obtain ⟨m1, A1, h1, h2, h3⟩ := ht A m c B v2 v w E _ _ q1
  split at q
  · rename_i z
    obtain ⟨p, m2, A2, h4, h5, h6, h7⟩ := ha A1 m1 _ B v2 v h3 (E.x w h2) _ _ q
    exact ⟨p, m2, A2, by unfold xIf; rw [h1]; simp only [Option.bind_some]; rw [if_pos z]; exact h4, h2.trans h5, h6, h7⟩
  · rename_i z
    obtain ⟨p, m2, A2, h4, h5, h6, h7⟩ := hb A1 m1 _ B v2 v h3 (E.x w h2) _ _ q
    exact ⟨p, m2, A2, by unfold xIf; rw [h1]; simp only [Option.bind_some]; rw [if_neg z]; exact h4, h2.trans h5, h6, h7⟩
theorem sf_if (ht : ST T t2 t) (ha : SXf T a2 a) (hb : SXf T b2 b) : SXf T (yIf t2 a2 b2) (xIf t a b) := fun A m c B v2 v w E r c' q => by
  obtain ⟨⟨d, c1⟩, q1, q⟩ := Option.bind_eq_some_iff.mp q
  obtain ⟨m1, A1, h1, h2, h3⟩ := ht A m c B v2 v w E _ _ q1
  split at q
  · rename_i z
    obtain ⟨p, m2, A2, h4, h5, h6, ds, k, qs, e1, e2, hk, h7⟩ := ha A1 m1 _ B v2 v h3 (E.x w h2) _ _ q
    exact ⟨p, m2, A2, by unfold xIf; rw [h1]; simp only [Option.bind_some]; rw [if_pos z]; exact h4, h2.trans h5, h6, ds, k, qs, e1, e2, Nat.le_trans h2.le hk, h7⟩
  · rename_i z
    obtain ⟨p, m2, A2, h4, h5, h6, ds, k, qs, e1, e2, hk, h7⟩ := hb A1 m1 _ B v2 v h3 (E.x w h2) _ _ q
    exact ⟨p, m2, A2, by unfold xIf; rw [h1]; simp only [Option.bind_some]; rw [if_neg z]; exact h4, h2.trans h5, h6, ds, k, qs, e1, e2, Nat.le_trans h2.le hk, h7⟩
theorem sx_not (ha : SX T a2 a) : SX T (yNt a2) (xNt a) := fun A m c B v2 v w E r c' q => by
  obtain ⟨⟨d, c1⟩, q1, q⟩ := Option.bind_eq_some_iff.mp q
  obtain ⟨p, m1, A1, h1, h2, h3, h4⟩ := ha A m c B v2 v w E _ _ q1
  cases d with
  | bl k =>
    cases q
    rw [d2_bl] at h4
    subst h4
    exact ⟨_, m1, A1, by unfold xNt; rw [h1]; rfl, h2, h3, by rw [D2]⟩
  | _ => cases q
theorem sx_and (ha : SX T a2 a) (hb : SX T b2 b) : SX T (yAn a2 b2) (xAn a b) := fun A m c B v2 v w E r c' q => by
  obtain ⟨⟨d, c1⟩, q1, q⟩ := Option.bind_eq_some_iff.mp q
  obtain ⟨p, m1, A1, h1, h2, h3, h4⟩ := ha A m c B v2 v w E _ _ q1
  cases d with
  | bl k =>
    rw [d2_bl] at h4
    subst h4
    cases k with
    | true =>
      obtain ⟨p, m2, A2, h4, h5, h6, h7⟩ := hb A1 m1 _ B v2 v h3 (E.x w h2) _ _ q
      exact ⟨p, m2, A2, by unfold xAn; rw [h1]; exact h4, h2.trans h5, h6, h7⟩
    | false =>
      cases q
      exact ⟨_, m1, A1, by unfold xAn; rw [h1]; rfl, h2, h3, by rw [D2]⟩
  | _ => cases q
theorem sx_or (ha : SX T a2 a) (hb : SX T b2 b) : SX T (yOr a2 b2) (xOr a b) := fun A m c B v2 v w E r c' q => by
  obtain ⟨⟨d, c1⟩, q1, q⟩ := Option.bind_eq_some_iff.mp q
  obtain ⟨p, m1, A1, h1, h2, h3, h4⟩ := ha A m c B v2 v w E _ _ q1
  cases d with
  | bl k =>
    rw [d2_bl] at h4
    subst h4
    cases k with
    | false =>
      obtain ⟨p, m2, A2, h4, h5, h6, h7⟩ := hb A1 m1 _ B v2 v h3 (E.x w h2) _ _ q
      exact ⟨p, m2, A2, by unfold xOr; rw [h1]; exact h4, h2.trans h5, h6, h7⟩
    | true =>
      cases q
      exact ⟨_, m1, A1, by unfold xOr; rw [h1]; rfl, h2, h3, by rw [D2]⟩
  | _ => cases q
theorem st_bl (ha : SX T a2 a) : ST T (uBl a2) (tBl a) := fun A m c B v2 v w E r c' q => by
  obtain ⟨⟨d, c1⟩, q1, q⟩ := Option.bind_eq_some_iff.mp q
  obtain ⟨p, m1, A1, h1, h2, h3, h4⟩ := ha A m c B v2 v w E _ _ q1
  cases d with
  | bl k =>
    rw [d2_bl] at h4
    subst h4
    cases q
    exact ⟨m1, A1, by unfold tBl; rw [h1]; rfl, h2, h3⟩
  | _ => cases q
theorem st_not (ha : ST T t2 t) : ST T (uNt t2) (tNt t) := fun A m c B v2 v w E r c' q => by
  obtain ⟨⟨d, c1⟩, q1, q⟩ := Option.map_eq_some_iff.mp q
  cases q
  obtain ⟨m1, A1, h1, h2, h3⟩ := ha A m c B v2 v w E _ _ q1
  exact ⟨m1, A1, by unfold tNt; rw [h1]; rfl, h2, h3⟩
theorem st_and (ha : ST T t2 t) (hb : ST T u2 u) : ST T (uAn t2 u2) (tAn t u) := fun A m c B v2 v w E r c' q => by
  obtain ⟨⟨d, c1⟩, q1, q⟩ := Option.bind_eq_some_iff.mp q
  obtain ⟨m1, A1, h1, h2, h3⟩ := ha A m c B v2 v w E _ _ q1
  split at q
  · rename_i z
    obtain ⟨m2, A2, h4, h5, h6⟩ := hb A1 m1 _ B v2 v h3 (E.x w h2) _ _ q
    exact ⟨m2, A2, by unfold tAn; rw [h1]; simp only [Option.bind_some]; rw [if_pos z]; exact h4, h2.trans h5, h6⟩
  · rename_i z
    cases q
    exact ⟨m1, A1, by unfold tAn; rw [h1]; simp only [Option.bind_some]; rw [if_neg z], h2, h3⟩
theorem st_or (ha : ST T t2 t) (hb : ST T u2 u) : ST T (uOr t2 u2) (tOr' t u) := fun A m c B v2 v w E r c' q => by
  obtain ⟨⟨d, c1⟩, q1, q⟩ := Option.bind_eq_some_iff.mp q
  obtain ⟨m1, A1, h1, h2, h3⟩ := ha A m c B v2 v w E _ _ q1
  split at q
  · rename_i z
    cases q
    exact ⟨m1, A1, by unfold tOr'; rw [h1]; simp only [Option.bind_some]; rw [if_pos z], h2, h3⟩
  · rename_i z
    obtain ⟨m2, A2, h4, h5, h6⟩ := hb A1 m1 _ B v2 v h3 (E.x w h2) _ _ q
    exact ⟨m2, A2, by unfold tOr'; rw [h1]; simp only [Option.bind_some]; rw [if_neg z]; exact h4, h2.trans h5, h6⟩
theorem st_ys : ST T uYs tYs := fun A m c B v2 v w E r c' q => by
  cases q
  exact ⟨m, A, rfl, .refl, w⟩
theorem D2L.empty {A : Nat → Prop} {m : Mem} {ds : List DV} {ps : List PV} (h : D2L T A m ds ps) : ps.isEmpty = ds.isEmpty := by
  cases ds with
  | nil => rw [h.inv0]; rfl
  | cons d ds => obtain ⟨p, r, rfl, _⟩ := h.inv; rfl
theorem truV_ok {A : Nat → Prop} {m : Mem} {d : DV} {p : PV} {k : Bool} (h : Dt T A m d p) (e : truV d = some k) : truG p m = some k := by
  cases d with
  | non => cases e; rw [show p = .non from h]; rfl
  | bl b => rw [show p = .bl b from h]; exact e
  | int i => cases e; rw [show p = .int i from h]; rfl
  | str s => rw [show p = .str s from h]; exact e
  | tup ds =>
    cases e
    obtain ⟨ps, rfl, h'⟩ := d2_tup.mp (show D2 T A m (.tup ds) p from h)
    show some (!ps.isEmpty) = _
    rw [h'.empty]
  | lst ds =>
    cases e
    obtain ⟨k, ps, rfl, n, l, g, h⟩ := h
    unfold truG
    simp only [g]
    rw [h.empty]
  | _ => cases e
theorem st_tru (ha : SXp T a2 a) : ST T (uTru a2) (tTru a) := fun A m c B v2 v w E r c' q => by
  obtain ⟨⟨d, c1⟩, q1, q⟩ := Option.bind_eq_some_iff.mp q
  obtain ⟨k, q2, q⟩ := Option.map_eq_some_iff.mp q
  cases q
  obtain ⟨p, m1, A1, h1, h2, h3, h4⟩ := ha A m c B v2 v w E _ _ q1
  exact ⟨m1, A1, by unfold tTru; rw [h1]; simp only [Option.bind_some]; rw [truV_ok h4 q2]; rfl, h2, h3⟩
end
end V2
end

section
set_option Elab.async false
set_option linter.all false
set_option maxRecDepth 100000
set_option autoImplicit false
namespace V2
open PySem Rf L2
abbrev I2 := Env2 → Cs → Option (List DV × Cs)
abbrev P2 := DV → Env2 → Option Env2
abbrev Ps2 := List DV → Env2 → Option Env2
section
variable {T : Tk} {A A' A'' : Nat → Prop} {m m' m'' : Mem}
/-! ### names set -/
theorem EnvR.set {B : Nat} {v2 : Env2} {v : Rf.Env} (h : EnvR T A m B v2 v) (i : Nat) {d : DV} {p : PV} (r : D2 T A m d p) : EnvR T A m B (v2.set i (some (.v d))) (v.set i (some p)) := by
  refine ⟨by simp [h.len], fun j s e => ?_, fun j j' ds es k e1 e2 e3 e4 => ?_⟩
  · by_cases hj : j = i
    · subst hj
      have hl : j < v2.length := by
        have := (List.getElem?_eq_some_iff.mp e).1
        simpa using this
      rw [List.getElem?_set_self hl] at e
      cases e
      exact ⟨p, by rw [List.getElem?_set_self (by rw [h.len]; exact hl)], r⟩
    · rw [List.getElem?_set_ne (Ne.symm hj)] at e ⊢
      exact h.ok j s e
  · have n1 : i ≠ j := fun z => by
      subst z
      have hl : i < v2.length := by
        have := (List.getElem?_eq_some_iff.mp e1).1
        simpa using this
      rw [List.getElem?_set_self hl] at e1
      cases e1
    have n2 : i ≠ j' := fun z => by
      subst z
      have hl : i < v2.length := by
        have := (List.getElem?_eq_some_iff.mp e2).1
        simpa using this
      rw [List.getElem?_set_self hl] at e2
      cases e2
    rw [List.getElem?_set_ne n1] at e1 e3
    rw [List.getElem?_set_ne n2] at e2 e4
    exact h.inj j j' ds es k e1 e2 e3 e4
theorem EnvR.wipe1 {B : Nat} {v2 : Env2} {v : Rf.Env} (h : EnvR T A m B v2 v) (i : Nat) : EnvR T A m B (v2.set i none) (v.set i none) := by
  refine ⟨by simp [h.len], fun j s e => ?_, fun j j' ds es k e1 e2 e3 e4 => ?_⟩
  · by_cases hj : j = i
    · subst hj
      have hl : j < v2.length := by
        have := (List.getElem?_eq_some_iff.mp e).1
        simpa using this
      rw [List.getElem?_set_self hl] at e
      cases e
    · rw [List.getElem?_set_ne (Ne.symm hj)] at e ⊢
      exact h.ok j s e
  · have nn : ∀ j (ds : List DV), (v2.set i none)[j]? = some (some (Sl.o ds)) → i ≠ j := fun j ds e z => by
      subst z
      have hl : i < v2.length := by
        have := (List.getElem?_eq_some_iff.mp e).1
        simpa using this
      rw [List.getElem?_set_self hl] at e
      cases e
    have n1 := nn j ds e1
    have n2 := nn j' es e2
    rw [List.getElem?_set_ne n1] at e1 e3
    rw [List.getElem?_set_ne n2] at e2 e4
    exact h.inj j j' ds es k e1 e2 e3 e4
def wipe2 (v : Env2) : List Nat → Env2
  | [] => v
  | i :: is => (wipe2 v is).set i none
theorem EnvR.wipe {B : Nat} {v2 : Env2} {v : Rf.Env} (h : EnvR T A m B v2 v) : ∀ is : List Nat, EnvR T A m B (wipe2 v2 is) (wipeE v is)
  | [] => h
  | i :: is => (h.wipe is).wipe1 i
/-- an own list: its place is no other's -/
theorem EnvR.setO {B k : Nat} {v2 : Env2} {v : Rf.Env} {ps : List PV} {ds : List DV} (h : EnvR T A m B v2 v) (i : Nat) (hk : B ≤ k) (a : ¬ A k) (n : k ≠ T.c) (g : m[k]? = some (.lst ps)) (r : D2L T A m ds ps)
    (no : ∀ (j : Nat) (es : List DV), j ≠ i → v2[j]? = some (some (.o es)) → v[j]? ≠ some (some (.ref k))) : EnvR T A m B (v2.set i (some (.o ds))) (v.set i (some (.ref k))) := by
  have at_ : ∀ (j : Nat) (s : Sl), (v2.set i (some (.o ds)))[j]? = some (some s) → (j = i ∧ s = .o ds ∧ (v.set i (some (PV.ref k)))[j]? = some (some (.ref k))) ∨ (j ≠ i ∧ v2[j]? = some (some s) ∧ (v.set i (some (PV.ref k)))[j]? = v[j]?) := fun j s e => by
    by_cases hj : j = i
    · subst hj
      have hl : j < v2.length := by
        have := (List.getElem?_eq_some_iff.mp e).1
        simpa using this
      rw [List.getElem?_set_self hl] at e
      cases e
      exact .inl ⟨rfl, rfl, by rw [List.getElem?_set_self (by rw [h.len]; exact hl)]⟩
    · rw [List.getElem?_set_ne (Ne.symm hj)] at e
      exact .inr ⟨hj, e, List.getElem?_set_ne (Ne.symm hj)⟩
  refine ⟨by simp [h.len], fun j s e => ?_, fun j j' es fs k' e1 e2 e3 e4 => ?_⟩
  · rcases at_ j s e with ⟨_, rfl, q⟩ | ⟨_, q1, q2⟩
    · exact ⟨_, q, k, ps, rfl, hk, a, n, g, r⟩
    · obtain ⟨p, z1, z2⟩ := h.ok j s q1
      exact ⟨p, by rw [q2]; exact z1, z2⟩
  · rcases at_ j _ e1 with ⟨q0, _, q⟩ | ⟨q0, q1, q2⟩
    · rcases at_ j' _ e2 with ⟨r0, _, _⟩ | ⟨r0, r1, r2⟩
      · rw [q0, r0]
      · rw [q] at e3
        cases e3
        rw [r2] at e4
        exact absurd e4 (no j' fs r0 r1)
    · rcases at_ j' _ e2 with ⟨r0, _, r⟩ | ⟨r0, r1, r2⟩
      · rw [r] at e4
        cases e4
        rw [q2] at e3
        exact absurd e3 (no j es q0 q1)
      · rw [q2] at e3
        rw [r2] at e4
        exact h.inj j j' es fs k' q1 r1 e3 e4
theorem EnvR.fz {B : Nat} {v2 : Env2} {v : Rf.Env} {ds : List DV} {i k : Nat} (h : EnvR T A m B v2 v) (e : v2[i]? = some (some (.o ds))) (ek : v[i]? = some (some (.ref k))) :
    EnvR T (fun j => A j ∨ j = k) m B (v2.set i (some (.v (.lst ds)))) v := by
  have hl : i < v2.length := (List.getElem?_eq_some_iff.mp e).1
  obtain ⟨p, h1, k', ps, rfl, hk, a, n, g, r⟩ := h.ok i _ e
  rw [ek] at h1
  cases h1
  have mono : ∀ (d : DV) (p : PV), D2 T A m d p → D2 T (fun j => A j ∨ j = k) m d p := D2.mono (fun _ => .inl) (fun _ _ => rfl)
  have monoL : ∀ (d : List DV) (p : List PV), D2L T A m d p → D2L T (fun j => A j ∨ j = k) m d p := D2L.mono (fun _ => .inl) (fun _ _ => rfl)
  have at_ : ∀ (j : Nat) (s : Sl), (v2.set i (some (.v (.lst ds))))[j]? = some (some s) → (j = i ∧ s = .v (.lst ds)) ∨ (j ≠ i ∧ v2[j]? = some (some s)) := fun j s e => by
    by_cases hj : j = i
    · subst hj
      rw [List.getElem?_set_self hl] at e
      cases e
      exact .inl ⟨rfl, rfl⟩
    · rw [List.getElem?_set_ne (Ne.symm hj)] at e
      exact .inr ⟨hj, e⟩
  refine ⟨by simp [h.len], fun j s q => ?_, fun j j' es fs k' e1 e2 e3 e4 => ?_⟩
  · rcases at_ j s q with ⟨rfl, rfl⟩ | ⟨hj, q⟩
    · refine ⟨_, ek, ?_⟩
      show D2 T _ m (.lst ds) _
      rw [D2]
      exact ⟨k, ps, rfl, .inr rfl, g, monoL _ _ r⟩
    · obtain ⟨p, h1, h2⟩ := h.ok j s q
      refine ⟨p, h1, ?_⟩
      cases s with
      | v d => exact mono _ _ h2
      | o es =>
        obtain ⟨k2, qs, rfl, hk2, a2, n2, g2, r2⟩ := h2
        refine ⟨k2, qs, rfl, hk2, fun z => z.elim a2 fun z => ?_, n2, g2, monoL _ _ r2⟩
        subst z
        exact hj (h.inj j i es ds _ q e h1 ek)
  · rcases at_ j _ e1 with ⟨_, q⟩ | ⟨_, q⟩
    · cases q
    · rcases at_ j' _ e2 with ⟨_, q'⟩ | ⟨_, q'⟩
      · cases q'
      · exact h.inj j j' es fs k' q q' e3 e4
theorem WF.fz {c : Cs} {k : Nat} (w : WF T A m c) (n : k ≠ T.c) (l : k < m.length) : WF T (fun j => A j ∨ j = k) m c :=
  ⟨w.at_, w.cells, fun q => q.elim w.nA fun z => n z.symm, .inl w.jA, fun i q => q.elim (w.lt i) fun z => z ▸ l⟩
theorem Xs.fz {B k : Nat} (hk : B ≤ k) : Xs T B A m (fun j => A j ∨ j = k) m :=
  ⟨Nat.le_refl _, fun _ _ _ => rfl, fun _ _ => rfl, fun _ => .inl, fun j l q => q.elim id fun z => absurd l (by omega)⟩
theorem EnvR.xs {B : Nat} {v2 : Env2} {v : Rf.Env} (h : EnvR T A m B v2 v) (x : Xs T B A m A' m') (own : ∀ (k : Nat), B ≤ k → ¬ A k → k < m.length → (¬ A' k ∧ m'[k]? = m[k]?)) : EnvR T A' m' B v2 v :=
  ⟨h.len, fun i s q => by
    obtain ⟨p, a, b⟩ := h.ok i s q
    refine ⟨p, a, ?_⟩
    cases s with
    | v d => exact D2.xs b x
    | o ds =>
      obtain ⟨k, ps, e, hk, a, n, g, r⟩ := b
      obtain ⟨z1, z2⟩ := own k hk a (lt_of g)
      exact ⟨k, ps, e, hk, z1, n, z2.trans g, r.xs x⟩, h.inj⟩
end
section
variable {T : Tk}
/-! ### walks -/
def SI (T : Tk) (i2 : I2) (i : Ix) : Prop := ∀ A m c B v2 v, WF T A m c → EnvR T A m B v2 v → ∀ r c', i2 v2 c = some (r, c') → ∃ sq m' A', i v m = some (sq, m') ∧ Xt T A m A' m' ∧ WF T A' m' c' ∧ D2L T A' m' r sq.items ∧ okG sq.guard m' = true ∧ ∀ g ∈ sq.guard, A' g.1
def SIp (T : Tk) (i2 : I2) (i : Ix) : Prop := ∀ A m c B v2 v, WF T A m c → EnvR T A m B v2 v → ∀ r c', i2 v2 c = some (r, c') → ∃ sq m' A', i v m = some (sq, m') ∧ Xt T A m A' m' ∧ WF T A' m' c' ∧ D2L T A' m' r sq.items ∧ okG sq.guard m' = true ∧ ∀ g ∈ sq.guard, g.1 ≠ T.c ∧ g.1 < m'.length
variable {i2 : I2} {i : Ix} {a2 b2 : E2} {a b : Ex}
theorem SI.p (h : SI T i2 i) : SIp T i2 i := fun A m c B v2 v w E r c' q => by
  obtain ⟨sq, m', A', h1, h2, h3, h4, h5, h6⟩ := h A m c B v2 v w E r c' q
  exact ⟨sq, m', A', h1, h2, h3, h4, h5, fun g hg => ⟨fun z => h3.nA (z ▸ h6 g hg), h3.lt _ (h6 g hg)⟩⟩
def itV : DV → Option (List DV)
  | .lst ds => some ds
  | .tup ds => some ds
  | .str z => some (z.cps.toList.map fun c => .str ⟨#[c]⟩)
  | _ => none
def jAny (a : E2) : I2 := fun v c => (a v c).bind fun r => (itV r.1).map fun ds => (ds, r.2)
theorem d2_signs {A : Nat → Prop} {m : Mem} : ∀ cs : List Nat, D2L T A m (cs.map fun c => DV.str ⟨#[c]⟩) (cs.map fun c => PV.str ⟨#[c]⟩)
  | [] => .nil
  | c :: cs => .cons (by rw [D2]) (d2_signs cs)
theorem itV_dt {A : Nat → Prop} {m : Mem} {d : DV} {p : PV} {ds : List DV} (h : Dt T A m d p) (e : itV d = some ds) : ∃ sq, anyQ p m = some sq ∧ D2L T A m ds sq.items ∧ okG sq.guard m = true ∧ ∀ g ∈ sq.guard, g.1 ≠ T.c ∧ g.1 < m.length := by
  cases d with
  | lst es =>
    cases e
    obtain ⟨k, ps, rfl, n, l, g, h⟩ := h
    refine ⟨⟨ps, [(k, .lst ps)]⟩, ?_, h, ?_, fun q hq => ?_⟩
    · show sqOf (.ref k) m = _
      unfold sqOf
      simp only [g]
    · rw [okG_1]; exact decide_eq_true g
    · rw [List.mem_singleton] at hq
      subst hq
      exact ⟨n, l⟩
  | tup es =>
    cases e
    obtain ⟨ps, rfl, h'⟩ := d2_tup.mp (show D2 T A m (.tup ds) p from h)
    exact ⟨⟨ps, []⟩, rfl, h', rfl, nofun⟩
  | str z =>
    cases e
    rw [show p = .str z from h]
    exact ⟨⟨signsP z, []⟩, rfl, d2_signs _, rfl, nofun⟩
  | _ => cases e
theorem itV_d2 {A : Nat → Prop} {m : Mem} {d : DV} {p : PV} {ds : List DV} (h : D2 T A m d p) (e : itV d = some ds) : ∃ sq, anyQ p m = some sq ∧ D2L T A m ds sq.items ∧ okG sq.guard m = true ∧ ∀ g ∈ sq.guard, A g.1 := by
  cases d with
  | lst es =>
    cases e
    rw [D2] at h
    obtain ⟨k, ps, rfl, a, g, h⟩ := h
    refine ⟨⟨ps, [(k, .lst ps)]⟩, ?_, h, ?_, fun q hq => ?_⟩
    · show sqOf (.ref k) m = _
      unfold sqOf
      simp only [g]
    · rw [okG_1]; exact decide_eq_true g
    · rw [List.mem_singleton] at hq
      subst hq
      exact a
  | tup es =>
    cases e
    obtain ⟨ps, rfl, h'⟩ := d2_tup.mp h
    exact ⟨⟨ps, []⟩, rfl, h', rfl, nofun⟩
  | str z =>
    cases e
    rw [show p = .str z from by rwa [D2] at h]
    exact ⟨⟨signsP z, []⟩, rfl, d2_signs _, rfl, nofun⟩
  | _ => cases e
theorem si_any (h : SX T a2 a) : SI T (jAny a2) (iAny a) := fun A m c B v2 v w E r c' q => by
  obtain ⟨⟨d, c1⟩, q1, q⟩ := Option.bind_eq_some_iff.mp q
  obtain ⟨ds, q2, q⟩ := Option.map_eq_some_iff.mp q
  cases q
  obtain ⟨p, m1, A1, h1, h2, h3, h4⟩ := h A m c B v2 v w E _ _ q1
  obtain ⟨sq, z1, z2⟩ := itV_d2 h4 q2
  exact ⟨sq, m1, A1, by unfold iAny; rw [h1]; simp only [Option.bind_some]; rw [z1]; rfl, h2, h3, z2⟩
theorem sip_any (h : SXp T a2 a) : SIp T (jAny a2) (iAny a) := fun A m c B v2 v w E r c' q => by
  obtain ⟨⟨d, c1⟩, q1, q⟩ := Option.bind_eq_some_iff.mp q
  obtain ⟨ds, q2, q⟩ := Option.map_eq_some_iff.mp q
  cases q
  obtain ⟨p, m1, A1, h1, h2, h3, h4⟩ := h A m c B v2 v w E _ _ q1
  obtain ⟨sq, z1, z2⟩ := itV_dt h4 q2
  exact ⟨sq, m1, A1, by unfold iAny; rw [h1]; simp only [Option.bind_some]; rw [z1]; rfl, h2, h3, z2⟩
def rangeD (lo : Int) (n : Nat) : List DV := (List.range n).map fun (i : Nat) => DV.int (lo + i)
theorem d2_range {A : Nat → Prop} {m : Mem} (lo : Int) (n : Nat) : D2L T A m (rangeD lo n) (rangeP lo n) := by
  unfold rangeD rangeP
  induction List.range n with
  | nil => exact .nil
  | cons i is ih => exact .cons (by rw [D2]) ih
def jRg1 (a : E2) : I2 := fun v c => (a v c).bind fun r => match r.1 with
  | .int j => if -(2 ^ 62) ≤ j ∧ j < 2 ^ 62 then some (rangeD 0 j.toNat, r.2) else none
  | _ => none
def jRg2 (a b : E2) : I2 := fun v c => (a v c).bind fun r => (b v r.2).bind fun s => match r.1, s.1 with
  | .int i, .int j => if -(2 ^ 62) ≤ i ∧ i < 2 ^ 62 ∧ -(2 ^ 62) ≤ j ∧ j < 2 ^ 62 then some (rangeD i (j - i).toNat, s.2) else none
  | _, _ => none
theorem si_rg1 (h : SX T a2 a) : SI T (jRg1 a2) (iRg (aCons a aNil)) := fun A m c B v2 v w E r c' q => by
  obtain ⟨⟨d, c1⟩, q1, q⟩ := Option.bind_eq_some_iff.mp q
  obtain ⟨p, m1, A1, h1, h2, h3, h4⟩ := h A m c B v2 v w E _ _ q1
  cases d with
  | int j =>
    simp only at q
    split at q
    · rename_i hj
      cases q
      rw [d2_int] at h4
      subst h4
      exact ⟨⟨rangeP 0 j.toNat, []⟩, m1, A1, by unfold iRg aCons aNil; rw [h1]; simp only [Option.bind_some, rngG]; rw [if_pos hj]; rfl, h2, h3, d2_range _ _, rfl, nofun⟩
    · cases q
  | _ => cases q
theorem si_rg2 (h : SX T a2 a) (h' : SX T b2 b) : SI T (jRg2 a2 b2) (iRg (aCons a (aCons b aNil))) := fun A m c B v2 v w E r c' q => by
  obtain ⟨⟨d, c1⟩, q1, q⟩ := Option.bind_eq_some_iff.mp q
  obtain ⟨⟨e, c2⟩, q2, q⟩ := Option.bind_eq_some_iff.mp q
  obtain ⟨p, m1, A1, h1, h2, h3, h4⟩ := h A m c B v2 v w E _ _ q1
  obtain ⟨p', m2, A2, h5, h6, h7, h8⟩ := h' A1 m1 _ B v2 v h3 (E.x w h2) _ _ q2
  cases d with
  | int i =>
    cases e with
    | int j =>
      simp only at q
      split at q
      · rename_i hj
        cases q
        rw [d2_int] at h4 h8
        subst h4 h8
        exact ⟨⟨rangeP i (j - i).toNat, []⟩, m2, A2, by unfold iRg; simp only [aCons, aNil]; rw [h1]; simp only [Option.bind_some]; rw [h5]; simp only [Option.bind_some, rngG]; rw [if_pos hj]; rfl, h2.trans h6, h7, d2_range _ _, rfl, nofun⟩
      · cases q
    | _ => cases q
  | _ => cases q
def enD : Nat → List DV → List DV
  | _, [] => []
  | i, d :: ds => .tup [.int i, d] :: enD (i + 1) ds
theorem d2_en {A : Nat → Prop} {m : Mem} : ∀ (i : Nat) {ds : List DV} {ps : List PV}, D2L T A m ds ps → D2L T A m (enD i ds) (enP i ps)
  | i, [], ps, h => by rw [h.inv0]; exact .nil
  | i, d :: ds, ps, h => by
    obtain ⟨p, r, rfl, h1, h2⟩ := h.inv
    exact .cons (d2_tup.mpr ⟨_, rfl, .cons (by rw [D2]) (.one h1)⟩) (d2_en (i + 1) h2)
def itS : DV → Option (List DV)
  | .lst ds => some ds
  | .tup ds => some ds
  | _ => none
def jEn (a : E2) : I2 := fun v c => (a v c).bind fun r => (itS r.1).map fun ds => (enD 0 ds, r.2)
theorem itS_dt {A : Nat → Prop} {m : Mem} {d : DV} {p : PV} {ds : List DV} (h : Dt T A m d p) (e : itS d = some ds) : ∃ sq, seqQ p m = some sq ∧ D2L T A m ds sq.items ∧ okG sq.guard m = true ∧ ∀ g ∈ sq.guard, g.1 ≠ T.c ∧ g.1 < m.length := by
  cases d with
  | lst es =>
    cases e
    obtain ⟨k, ps, rfl, n, l, g, h⟩ := h
    refine ⟨⟨ps, [(k, .lst ps)]⟩, ?_, h, ?_, fun q hq => ?_⟩
    · show sqOf (.ref k) m = _
      unfold sqOf
      simp only [g]
    · rw [okG_1]; exact decide_eq_true g
    · rw [List.mem_singleton] at hq
      subst hq
      exact ⟨n, l⟩
  | tup es =>
    cases e
    obtain ⟨ps, rfl, h'⟩ := d2_tup.mp (show D2 T A m (.tup ds) p from h)
    exact ⟨⟨ps, []⟩, rfl, h', rfl, nofun⟩
  | _ => cases e
theorem itS_d2 {A : Nat → Prop} {m : Mem} {d : DV} {p : PV} {ds : List DV} (h : D2 T A m d p) (e : itS d = some ds) : ∃ sq, seqQ p m = some sq ∧ D2L T A m ds sq.items ∧ okG sq.guard m = true ∧ ∀ g ∈ sq.guard, A g.1 := by
  cases d with
  | lst es =>
    cases e
    rw [D2] at h
    obtain ⟨k, ps, rfl, a, g, h⟩ := h
    refine ⟨⟨ps, [(k, .lst ps)]⟩, ?_, h, ?_, fun q hq => ?_⟩
    · show sqOf (.ref k) m = _
      unfold sqOf
      simp only [g]
    · rw [okG_1]; exact decide_eq_true g
    · rw [List.mem_singleton] at hq
      subst hq
      exact a
  | tup es =>
    cases e
    obtain ⟨ps, rfl, h'⟩ := d2_tup.mp h
    exact ⟨⟨ps, []⟩, rfl, h', rfl, nofun⟩
  | _ => cases e
theorem si_en (h : SX T a2 a) : SI T (jEn a2) (iEnX (aCons a aNil)) := fun A m c B v2 v w E r c' q => by
  obtain ⟨⟨d, c1⟩, q1, q⟩ := Option.bind_eq_some_iff.mp q
  obtain ⟨ds, q2, q⟩ := Option.map_eq_some_iff.mp q
  cases q
  obtain ⟨p, m1, A1, h1, h2, h3, h4⟩ := h A m c B v2 v w E _ _ q1
  obtain ⟨sq, z1, z2, z3, z4⟩ := itS_d2 h4 q2
  exact ⟨⟨enP 0 sq.items, sq.guard⟩, m1, A1, by unfold iEnX aCons aNil; rw [h1]; simp only [Option.bind_some, enX]; rw [z1]; rfl, h2, h3, d2_en 0 z2, z3, z4⟩
theorem sip_en (h : SXp T a2 a) : SIp T (jEn a2) (iEnX (aCons a aNil)) := fun A m c B v2 v w E r c' q => by
  obtain ⟨⟨d, c1⟩, q1, q⟩ := Option.bind_eq_some_iff.mp q
  obtain ⟨ds, q2, q⟩ := Option.map_eq_some_iff.mp q
  cases q
  obtain ⟨p, m1, A1, h1, h2, h3, h4⟩ := h A m c B v2 v w E _ _ q1
  obtain ⟨sq, z1, z2, z3, z4⟩ := itS_dt h4 q2
  exact ⟨⟨enP 0 sq.items, sq.guard⟩, m1, A1, by unfold iEnX aCons aNil; rw [h1]; simp only [Option.bind_some, enX]; rw [z1]; rfl, h2, h3, d2_en 0 z2, z3, z4⟩
def zipD : List DV → List DV → List DV
  | a :: as, b :: bs => .tup [a, b] :: zipD as bs
  | _, _ => []
theorem d2_zip {A : Nat → Prop} {m : Mem} : ∀ {ds es : List DV} {ps qs : List PV}, D2L T A m ds ps → D2L T A m es qs → D2L T A m (zipD ds es) ((ps.zip qs).map fun z => .tup [z.1, z.2])
  | [], es, ps, qs, h, h' => by rw [h.inv0]; exact .nil
  | d :: ds, [], ps, qs, h, h' => by rw [h'.inv0]; simp only [List.zip_nil_right]; exact .nil
  | d :: ds, e :: es, ps, qs, h, h' => by
    obtain ⟨p, r, rfl, h1, h2⟩ := h.inv
    obtain ⟨q, s, rfl, h3, h4⟩ := h'.inv
    exact .cons (d2_tup.mpr ⟨_, rfl, .cons h1 (.one h3)⟩) (d2_zip h2 h4)
def jZp (a b : E2) : I2 := fun v c => (a v c).bind fun r => (b v r.2).bind fun s => (itS r.1).bind fun ds => (itS s.1).map fun es => (zipD ds es, s.2)
theorem si_zp (h : SX T a2 a) (h' : SX T b2 b) : SI T (jZp a2 b2) (iZx' (aCons a (aCons b aNil))) := fun A m c B v2 v w E r c' q => by
  obtain ⟨⟨d, c1⟩, q1, q⟩ := Option.bind_eq_some_iff.mp q
  obtain ⟨⟨e, c2⟩, q2, q⟩ := Option.bind_eq_some_iff.mp q
  obtain ⟨ds, q3, q⟩ := Option.bind_eq_some_iff.mp q
  obtain ⟨es, q4, q⟩ := Option.map_eq_some_iff.mp q
  cases q
  obtain ⟨p, m1, A1, h1, h2, h3, h4⟩ := h A m c B v2 v w E _ _ q1
  obtain ⟨p', m2, A2, h5, h6, h7, h8⟩ := h' A1 m1 _ B v2 v h3 (E.x w h2) _ _ q2
  obtain ⟨sq, z1, z2, z3, z4⟩ := itS_d2 (h4.x h3 h6) q3
  obtain ⟨sq', y1, y2, y3, y4⟩ := itS_d2 h8 q4
  refine ⟨⟨(sq.items.zip sq'.items).map fun z => .tup [z.1, z.2], sq.guard ++ sq'.guard⟩, m2, A2, ?_, h2.trans h6, h7, d2_zip z2 y2, okG_append.mpr ⟨z3, y3⟩, fun g hg => (List.mem_append.mp hg).elim (z4 g) (y4 g)⟩
  unfold iZx'
  simp only [aCons, aNil]
  rw [h1]
  simp only [Option.bind_some]
  rw [h5]
  simp only [Option.bind_some, zipX]
  rw [z1]
  simp only [Option.bind_some]
  rw [y1]
  rfl
theorem sip_zp (h : SXp T a2 a) (h' : SXp T b2 b) : SIp T (jZp a2 b2) (iZx' (aCons a (aCons b aNil))) := fun A m c B v2 v w E r c' q => by
  obtain ⟨⟨d, c1⟩, q1, q⟩ := Option.bind_eq_some_iff.mp q
  obtain ⟨⟨e, c2⟩, q2, q⟩ := Option.bind_eq_some_iff.mp q
  obtain ⟨ds, q3, q⟩ := Option.bind_eq_some_iff.mp q
  obtain ⟨es, q4, q⟩ := Option.map_eq_some_iff.mp q
  cases q
  obtain ⟨p, m1, A1, h1, h2, h3, h4⟩ := h A m c B v2 v w E _ _ q1
  obtain ⟨p', m2, A2, h5, h6, h7, h8⟩ := h' A1 m1 _ B v2 v h3 (E.x w h2) _ _ q2
  obtain ⟨sq, z1, z2, z3, z4⟩ := itS_dt (h4.x h3 h6) q3
  obtain ⟨sq', y1, y2, y3, y4⟩ := itS_dt h8 q4
  refine ⟨⟨(sq.items.zip sq'.items).map fun z => .tup [z.1, z.2], sq.guard ++ sq'.guard⟩, m2, A2, ?_, h2.trans h6, h7, d2_zip z2 y2, okG_append.mpr ⟨z3, y3⟩, fun g hg => (List.mem_append.mp hg).elim (z4 g) (y4 g)⟩
  unfold iZx'
  simp only [aCons, aNil]
  rw [h1]
  simp only [Option.bind_some]
  rw [h5]
  simp only [Option.bind_some, zipX]
  rw [z1]
  simp only [Option.bind_some]
  rw [y1]
  rfl

/-! ### patterns -/
def SP (T : Tk) (g2 : P2) (g : Px) : Prop := ∀ A m B v2 v d p, EnvR T A m B v2 v → D2 T A m d p → ∀ v2', g2 d v2 = some v2' → ∃ v', g p v = some v' ∧ EnvR T A m B v2' v'
def SPs (T : Tk) (g2 : Ps2) (g : Pxs) : Prop := ∀ A m B v2 v ds ps, EnvR T A m B v2 v → D2L T A m ds ps → ∀ v2', g2 ds v2 = some v2' → ∃ v', g ps v = some v' ∧ EnvR T A m B v2' v'
def qNm (i : Nat) : P2 := fun d v => some (v.set i (some (.v d)))
def qTp (n : Nat) (g : Ps2) : P2 := fun d v => match d with
  | .tup ds => if ds.length = n then g ds v else none
  | _ => none
def qNil : Ps2 := fun ds v => match ds with
  | [] => some v
  | _ => none
def qCons (g : P2) (r : Ps2) : Ps2 := fun ds v => match ds with
  | d :: es => (g d v).bind fun e => r es e
  | [] => none
theorem sp_nm {i : Nat} : SP T (qNm i) (pNm i) := fun A m B v2 v d p E D v2' q => by
  cases q
  exact ⟨_, rfl, E.set i D⟩
theorem sp_tp {n : Nat} {g2 : Ps2} {g : Pxs} (h : SPs T g2 g) : SP T (qTp n g2) (pTp n g) := fun A m B v2 v d p E D v2' q => by
  cases d with
  | tup ds =>
    obtain ⟨ps, rfl, D'⟩ := d2_tup.mp D
    simp only [qTp] at q
    split at q
    · rename_i hl
      obtain ⟨v', h1, h2⟩ := h A m B v2 v ds ps E D' v2' q
      exact ⟨v', by simp only [pTp]; rw [if_pos (by rw [D'.length]; exact hl)]; exact h1, h2⟩
    · cases q
  | _ => cases q
theorem sps_nil : SPs T qNil pNil := fun A m B v2 v ds ps E D v2' q => by
  cases ds with
  | nil =>
    cases q
    rw [D.inv0]
    exact ⟨_, rfl, E⟩
  | cons _ _ => cases q
theorem sps_cons {g2 : P2} {g : Px} {r2 : Ps2} {r : Pxs} (h : SP T g2 g) (h' : SPs T r2 r) : SPs T (qCons g2 r2) (pCons g r) := fun A m B v2 v ds ps E D v2' q => by
  cases ds with
  | nil => cases q
  | cons d ds =>
    obtain ⟨p, rs, rfl, D1, D2'⟩ := D.inv
    obtain ⟨e, q1, q2⟩ := Option.bind_eq_some_iff.mp (show (g2 d v2).bind (fun e => r2 ds e) = some v2' from q)
    obtain ⟨v1, h1, h2⟩ := h A m B v2 v d p E D1 e q1
    obtain ⟨v3, h3, h4⟩ := h' A m B e v1 ds rs h2 D2' v2' q2
    exact ⟨v3, by simp only [pCons]; rw [h1]; exact h3, h4⟩

/-! ### comprehensions -/
def lcW (g : P2) (tt : T2) (te : E2) (v : Env2) : List DV → Cs → Option (List DV × Cs)
  | [], c => some ([], c)
  | d :: ds, c => (g d v).bind fun v' => (tt v' c).bind fun r => if r.1 = true then (te v' r.2).bind fun s => (lcW g tt te v ds s.2).map fun o => (s.1 :: o.1, o.2) else lcW g tt te v ds r.2
def yLc (vs : List Nat) (it : I2) (g : P2) (tt : T2) (te : E2) : E2 := fun v c => (it v c).bind fun r => if r.1.length ≤ sizeLine then (lcW g tt te (wipe2 v vs) r.1 r.2).map fun o => (.lst o.1, o.2) else none
theorem EnvR.put {A : Nat → Prop} {m : Mem} {B D : Nat} {ob : Ob} {v2 : Env2} {v : Rf.Env} (h : EnvR T A m B v2 v) (nD : ¬ A D) (own : ∀ (j : Nat) (es : List DV), v2[j]? = some (some (.o es)) → v[j]? ≠ some (some (.ref D))) : EnvR T A (m.set D ob) B v2 v := by
  have fixA : ∀ j, A j → (m.set D ob)[j]? = m[j]? := fun j a => List.getElem?_set_ne fun (z : D = j) => nD (z ▸ a)
  refine ⟨h.len, fun i s q => ?_, h.inj⟩
  obtain ⟨p, a, b⟩ := h.ok i s q
  refine ⟨p, a, ?_⟩
  cases s with
  | v d => exact D2.mono (fun _ h => h) fixA _ _ b
  | o es =>
    obtain ⟨k, qs, rfl, hk, a', n, g, r⟩ := b
    refine ⟨k, qs, rfl, hk, a', n, ?_, D2L.mono (fun _ h => h) fixA _ _ r⟩
    rw [List.getElem?_set_ne fun z => own i es q (by rw [z]; exact a)]
    exact g
theorem WF.put {A : Nat → Prop} {m : Mem} {c : Cs} {D : Nat} {ob : Ob} (w : WF T A m c) (nD : ¬ A D) (hD : D ≠ T.c) : WF T A (m.set D ob) c :=
  ⟨by rw [List.getElem?_set_ne hD]; exact w.at_, by rw [List.getElem?_set_ne fun (z : D = T.j) => nD (z ▸ w.jA)]; exact w.cells, w.nA, w.jA, fun j a => by rw [List.length_set]; exact w.lt j a⟩
theorem lc_sim {g2 : P2} {g : Px} {t2 : T2} {t : Tx} {e2 : E2} {e : Ex} (hg : SP T g2 g) (ht : ST T t2 t) (he : SX T e2 e) {B : Nat} {gd : List (Nat × Ob)} {D : Nat} {v2 : Env2} {v : Rf.Env} (hD : D ≠ T.c) (hgd : ∀ q ∈ gd, q.1 ≠ T.c ∧ q.1 < D)
    (own : ∀ (j : Nat) (es : List DV), v2[j]? = some (some (.o es)) → v[j]? ≠ some (some (.ref D))) :
    ∀ (ds : List DV) (A : Nat → Prop) (m : Mem) (c : Cs) (items acc : List PV) (as : List DV), WF T A m c → EnvR T A m B v2 v → D2L T A m ds items → D2L T A m as acc → ¬ A D → m[D]? = some (.lst acc) → okG gd m = true → acc.length + ds.length ≤ sizeLine → ∀ out c', lcW g2 t2 e2 v2 ds c = some (out, c') →
    ∃ ps m' A', lcLP g t e gd D v items m acc = some (ps, m') ∧ m.length ≤ m'.length ∧ (∀ k, k < m.length → k ≠ T.c → k ≠ D → m'[k]? = m[k]?) ∧ (∀ k, A k → A' k) ∧ (∀ k, k < m.length → A' k → A k) ∧ WF T A' m' c' ∧ m'[D]? = some (.lst ps) ∧ D2L T A' m' (as ++ out) ps
  | [], A, m, c, items, acc, as, w, E, Di, Da, nD, gD, kg, hl, out, c', q => by
    cases q
    rw [Di.inv0, List.append_nil]
    exact ⟨acc, m, A, rfl, Nat.le_refl _, fun _ _ _ _ => rfl, fun _ h => h, fun _ _ h => h, w, gD, Da⟩
  | d :: ds, A, m, c, items, acc, as, w, E, Di, Da, nD, gD, kg, hl, out, c', q => by
    obtain ⟨p, ps, rfl, D1, Dr⟩ := Di.inv
    unfold lcW at q
    obtain ⟨v2', q1, q⟩ := Option.bind_eq_some_iff.mp q
    obtain ⟨⟨k, c1⟩, q2, q⟩ := Option.bind_eq_some_iff.mp q
    obtain ⟨v', g1, E1⟩ := hg A m B v2 v d p E D1 v2' q1
    obtain ⟨m1, A1, h1, h2, h3⟩ := ht A m c B v2' v' w E1 _ _ q2
    have lD : D < m.length := lt_of gD
    have keepG : ∀ {A0 A1 : Nat → Prop} {m0 m1 : Mem}, Xt T A0 m0 A1 m1 → D < m0.length → okG gd m0 = true → okG gd m1 = true := fun x l k => by
      unfold okG at k ⊢
      rw [List.all_eq_true] at k ⊢
      intro q hq
      obtain ⟨n1, n2⟩ := hgd q hq
      have := of_decide_eq_true (k q hq)
      exact decide_eq_true ((x.old q.1 (Nat.lt_trans n2 l) n1).trans this)
    rw [List.length_cons] at hl
    have gD1 : m1[D]? = some (.lst acc) := (h2.old D lD hD).trans gD
    have kg1 := keepG h2 lD kg
    split at q
    · rename_i hk
      obtain ⟨⟨s, c2⟩, q3, q⟩ := Option.bind_eq_some_iff.mp q
      obtain ⟨⟨o, c3⟩, q4, q⟩ := Option.map_eq_some_iff.mp q
      cases q
      obtain ⟨pe, m2, A2, h4, h5, h6, h7⟩ := he A1 m1 c1 B v2' v' h3 (E1.x w h2) _ _ q3
      have x := h2.trans h5
      have gD2 : m2[D]? = some (.lst acc) := (x.old D lD hD).trans gD
      have nD2 : ¬ A2 D := fun z => nD (x.dn D lD z)
      have lD2 : D < m2.length := lt_of gD2
      have kg2 := keepG x lD kg
      have fixA : ∀ j, A2 j → (m2.set D (.lst (acc ++ [pe])))[j]? = m2[j]? := fun j a => List.getElem?_set_ne fun (z : D = j) => nD2 (z ▸ a)
      have monoL : ∀ (d : List DV) (p : List PV), D2L T A2 m2 d p → D2L T A2 (m2.set D (.lst (acc ++ [pe]))) d p := D2L.mono (fun _ h => h) fixA
      have hal : acc.length < sizeLine := by omega
      obtain ⟨ps', m3, A3, r1, r2, r3, r4, r5, r6, r7, r8⟩ := lc_sim hg ht he hD hgd own ds A2 (m2.set D (.lst (acc ++ [pe]))) c2 ps (acc ++ [pe]) (as ++ [s]) (h6.put nD2 hD) ((E.x w x).put nD2 own) (monoL _ _ (Dr.x w x)) (monoL _ _ ((Da.x w x).append (.one h7))) nD2
        (by rw [List.getElem?_set_self lD2]) (okG_set kg2 fun q hq => (hgd q hq).2) (by simp; omega) o _ q4
      rw [List.length_set] at r2 r3 r5
      refine ⟨ps', m3, A3, ?_, Nat.le_trans x.le r2, fun j l n n' => ?_, fun j a => r4 j (x.up j a), fun j l a => x.dn j l (r5 j (Nat.lt_of_lt_of_le l x.le) a), r6, r7, by rw [List.append_assoc] at r8; exact r8⟩
      · unfold lcLP
        rw [g1]
        simp only [Option.bind_some]
        rw [h1]
        simp only [Option.bind_some]
        rw [if_pos hk, h4]
        simp only [Option.bind_some]
        rw [if_pos ⟨kg2, gD2, hal⟩]
        exact r1
      · rw [r3 j (Nat.lt_of_lt_of_le l x.le) n n', List.getElem?_set_ne (Ne.symm n')]
        exact x.old j l n
    · rename_i hk
      obtain ⟨ps', m3, A3, r1, r2, r3, r4, r5, r6, r7, r8⟩ := lc_sim hg ht he hD hgd own ds A1 m1 c1 ps acc as h3 (E.x w h2) (Dr.x w h2) (Da.x w h2) (fun z => nD (h2.dn D lD z)) gD1 kg1 (by omega) out _ q
      refine ⟨ps', m3, A3, ?_, Nat.le_trans h2.le r2, fun j l n n' => (r3 j (Nat.lt_of_lt_of_le l h2.le) n n').trans (h2.old j l n), fun j a => r4 j (h2.up j a), fun j l a => h2.dn j l (r5 j (Nat.lt_of_lt_of_le l h2.le) a), r6, r7, r8⟩
      unfold lcLP
      rw [g1]
      simp only [Option.bind_some]
      rw [h1]
      simp only [Option.bind_some]
      rw [if_neg hk, if_pos ⟨kg1, gD1⟩]
      exact r1
theorem wipe2_own (v2 : Env2) : ∀ (vs : List Nat) (j : Nat) (s : Sl), (wipe2 v2 vs)[j]? = some (some s) → v2[j]? = some (some s)
  | [], j, s, h => h
  | i :: is, j, s, h => by
    unfold wipe2 at h
    by_cases e : i = j
    · subst e
      have hl : i < (wipe2 v2 is).length := by
        have := (List.getElem?_eq_some_iff.mp h).1
        simpa using this
      rw [List.getElem?_set_self hl] at h
      cases h
    · rw [List.getElem?_set_ne e] at h
      exact wipe2_own v2 is j s h
theorem sf_lc {vs : List Nat} {i2 : I2} {i : Ix} {g2 : P2} {g : Px} {t2 : T2} {t : Tx} {e2 : E2} {e : Ex} (hi : SIp T i2 i) (hg : SP T g2 g) (ht : ST T t2 t) (he : SX T e2 e) : SXf T (yLc vs i2 g2 t2 e2) (xLcP vs i g t e) := fun A m c B v2 v w E r c' q => by
  obtain ⟨⟨ds, c1⟩, q1, q⟩ := Option.bind_eq_some_iff.mp q
  split at q
  · rename_i hl
    obtain ⟨⟨o, c2⟩, q2, q⟩ := Option.map_eq_some_iff.mp q
    cases q
    obtain ⟨sq, m1, A1, h1, h2, h3, h4, h5, h6⟩ := hi A m c B v2 v w E _ _ q1
    have E1 := (E.x w h2).wipe vs
    have x0 : Xt T A1 m1 A1 (m1 ++ [.lst []]) := .app h3.lt
    have w0 := h3.app (.lst [])
    have hD : m1.length ≠ T.c := fun z => absurd (lt_of h3.at_) (by rw [← z]; exact Nat.lt_irrefl _)
    have own : ∀ (j : Nat) (es : List DV), (wipe2 v2 vs)[j]? = some (some (.o es)) → (wipeE v vs)[j]? ≠ some (some (.ref m1.length)) := fun j es q z => by
      obtain ⟨p, a, k, qs, rfl, _, _, _, g', _⟩ := E1.ok j _ q
      rw [a] at z
      cases z
      exact absurd (lt_of g') (Nat.lt_irrefl _)
    obtain ⟨ps, m2, A2, r1, r2, r3, r4, r5, r6, r7, r8⟩ := lc_sim hg ht he (gd := sq.guard) (D := m1.length) hD h6 own ds A1 (m1 ++ [.lst []]) c1 sq.items [] [] w0 (E1.x h3 x0) (h4.x h3 x0) .nil (fun a => absurd (h3.lt _ a) (Nat.lt_irrefl _)) (by simp) (okG_app h5) (by simpa using hl) o _ q2
    simp only [List.length_append, List.length_cons, List.length_nil] at r2 r3 r5
    have nD : ¬ A2 m1.length := fun a => absurd (h3.lt _ (r5 _ (by omega) a)) (Nat.lt_irrefl _)
    refine ⟨.ref m1.length, m2, A2, ?_, h2.trans ⟨by omega, fun k l n => ?_, r4, fun k l a => r5 k (by omega) a⟩, r6, o, m1.length, ps, rfl, rfl, h2.le, nD, hD, r7, by simpa using r8⟩
    · unfold xLcP
      rw [h1]
      simp only [Option.bind_some]
      rw [if_pos ⟨h5, fun q hq => (h6 q hq).2⟩, r1]
      rfl
    · rw [r3 k (by omega) n (by omega), List.getElem?_append_left l]
  · cases q
end
end V2
end

section
set_option Elab.async false
set_option linter.all false
set_option maxRecDepth 100000
set_option autoImplicit false
namespace V2
open PySem Rf L2
/-! ### statements -/
def rNx : S2 := fun v c => some (.nx, v, c)
def rBk : S2 := fun v c => some (.bk, v, c)
def rCt : S2 := fun v c => some (.ct, v, c)
def rNo : S2 := fun _ _ => none
def rSq (a b : S2) : S2 := fun v c => (a v c).bind fun r => match r.1 with
  | .nx => b r.2.1 r.2.2
  | _ => some r
def rEx (a : E2) : S2 := fun v c => (a v c).bind fun r => some (.nx, v, r.2)
def rRt (a : E2) : S2 := fun v c => (a v c).bind fun r => some (.rt r.1, v, r.2)
def rRn : S2 := fun v c => some (.rt .non, v, c)
/-- return x, x an own list -/
def rRo (i : Nat) : S2 := fun v c => match v[i]? with
  | some (some (.o ds)) => some (.rt (.lst ds), v, c)
  | _ => none
def rIf (t : T2) (a b : S2) : S2 := fun v c => (t v c).bind fun r => if r.1 = true then a v r.2 else b v r.2
/-- x = e -/
def rAs (i : Nat) (a : E2) : S2 := fun v c => (a v c).bind fun r => some (.nx, v.set i (some (.v r.1)), r.2)
/-- x = e, from then on x's own list -/
def rAo (i : Nat) (a : E2) : S2 := fun v c => (a v c).bind fun r => match r.1 with
  | .lst ds => some (.nx, v.set i (some (.o ds)), r.2)
  | _ => none
/-- a, b = e -/
def rAp (g : P2) (a : E2) : S2 := fun v c => (a v c).bind fun r => (g r.1 v).map fun v' => (.nx, v', r.2)
/-- x is changed no more -/
def rFz (i : Nat) : S2 := fun v c => match v[i]? with
  | some (some (.o ds)) => some (.nx, v.set i (some (.v (.lst ds))), c)
  | _ => some (.nx, v, c)
/-- x[k] = e, x.append(e) -/
def rSi (i : Nat) (k a : E2) : S2 := fun v c => (a v c).bind fun r => (k v r.2).bind fun s => match v[i]?, s.1 with
  | some (some (.o ds)), .int z => (ixN ds.length z).map fun j => (.nx, v.set i (some (.o (ds.set j r.1))), s.2)
  | _, _ => none
def rAe (i : Nat) (a : E2) : S2 := fun v c => (a v c).bind fun r => match v[i]? with
  | some (some (.o ds)) => if ds.length < sizeLine then some (.nx, v.set i (some (.o (ds ++ [r.1]))), r.2) else none
  | _ => none
/-- x += e, ints -/
def rAu (i : Nat) (a : E2) : S2 := fun v c => match v[i]? with
  | some (some (.v (.int x))) => (a v c).bind fun r => match r.1 with
    | .int y => some (.nx, v.set i (some (.v (.int (x + y)))), r.2)
    | _ => none
  | _ => none
def forW (g : P2) (b : S2) : List DV → Env2 → Cs → Option (Fl2 × Env2 × Cs)
  | [], v, c => some (.nx, v, c)
  | d :: ds, v, c => (g d v).bind fun v' => (b v' c).bind fun s => match s.1 with
    | .nx => forW g b ds s.2.1 s.2.2
    | .ct => forW g b ds s.2.1 s.2.2
    | .bk => some (.nx, s.2)
    | .rt _ => some s
def rFor (it : I2) (g : P2) (b : S2) : S2 := fun v c => (it v c).bind fun r => forW g b r.1 v r.2
def whW (t : T2) (b : S2) : Nat → Env2 → Cs → Option (Fl2 × Env2 × Cs)
  | 0, _, _ => none
  | n + 1, v, c => (t v c).bind fun r => if r.1 = true then (b v r.2).bind fun s => match s.1 with
    | .nx => whW t b n s.2.1 s.2.2
    | .ct => whW t b n s.2.1 s.2.2
    | .bk => some (.nx, s.2)
    | .rt _ => some s
    else some (.nx, v, r.2)
def rWh (n : Nat) (t : T2) (b : S2) : S2 := fun v c => whW t b n v c
section
variable {T : Tk} {φ : Bool} {a2 b2 e2 : E2} {a b e : Ex} {t2 : T2} {t : Tx} {sa2 sb2 : S2} {sa sb : Sx}
theorem EnvR.of_x {A A' : Nat → Prop} {m m' : Mem} {c : Cs} {B : Nat} {v2 : Env2} {v : Rf.Env} (E : EnvR T A m B v2 v) (w : WF T A m c) (x : Xt T A m A' m') : EnvR T A' m' B v2 v := E.x w x
theorem ss_nx : SS T φ rNx sNx := fun A m c B v2 v w E hB f2 v2' c' q => by
  cases q
  exact ⟨.nx, v, m, A, rfl, .refl, w, E, rfl⟩
theorem ss_bk : SS T φ rBk sBk := fun A m c B v2 v w E hB f2 v2' c' q => by
  cases q
  exact ⟨.bk, v, m, A, rfl, .refl, w, E, rfl⟩
theorem ss_ct : SS T φ rCt sCt := fun A m c B v2 v w E hB f2 v2' c' q => by
  cases q
  exact ⟨.ct, v, m, A, rfl, .refl, w, E, rfl⟩
theorem ss_no {s : Sx} : SS T φ rNo s := fun A m c B v2 v w E hB f2 v2' c' q => by cases q
theorem ss_sq (h : SS T φ sa2 sa) (h' : SS T φ sb2 sb) : SS T φ (rSq sa2 sb2) (sSq sa sb) := fun A m c B v2 v w E hB f2 v2' c' q => by
  obtain ⟨⟨f, v1, c1⟩, q1, q⟩ := Option.bind_eq_some_iff.mp q
  obtain ⟨g, u, m1, A1, h1, h2, h3, h4, h5⟩ := h A m c B v2 v w E hB _ _ _ q1
  cases f with
  | nx =>
    obtain rfl : g = .nx := h5
    obtain ⟨g', u', m2, A2, h6, h7, h8, h9, h10⟩ := h' A1 m1 c1 B v1 u h3 h4 (Nat.le_trans hB h2.le) _ _ _ q
    exact ⟨g', u', m2, A2, by unfold sSq; rw [h1]; exact h6, h2.trans h7, h8, h9, h10⟩
  | bk =>
    obtain rfl : g = .bk := h5
    cases q
    exact ⟨.bk, u, m1, A1, by unfold sSq; rw [h1]; rfl, h2, h3, h4, rfl⟩
  | ct =>
    obtain rfl : g = .ct := h5
    cases q
    exact ⟨.ct, u, m1, A1, by unfold sSq; rw [h1]; rfl, h2, h3, h4, rfl⟩
  | rt d =>
    cases q
    obtain ⟨p, rfl, k⟩ := h5
    exact ⟨.rt p, u, m1, A1, by unfold sSq; rw [h1]; rfl, h2, h3, h4, p, rfl, k⟩
theorem ss_ex (h : SXp T a2 a) : SS T φ (rEx a2) (sEx a) := fun A m c B v2 v w E hB f2 v2' c' q => by
  obtain ⟨⟨d, c1⟩, q1, q⟩ := Option.bind_eq_some_iff.mp q
  cases q
  obtain ⟨p, m1, A1, h1, h2, h3, h4⟩ := h A m c B v2 v w E _ _ q1
  exact ⟨.nx, v, m1, A1, by unfold sEx; rw [h1]; rfl, h2.s w hB, h3, E.x w h2, rfl⟩
theorem ss_rt (h : SX T a2 a) : SS T false (rRt a2) (sRt a) := fun A m c B v2 v w E hB f2 v2' c' q => by
  obtain ⟨⟨d, c1⟩, q1, q⟩ := Option.bind_eq_some_iff.mp q
  cases q
  obtain ⟨p, m1, A1, h1, h2, h3, h4⟩ := h A m c B v2 v w E _ _ q1
  exact ⟨.rt p, v, m1, A1, by unfold sRt; rw [h1]; rfl, h2.s w hB, h3, E.x w h2, p, rfl, by rw [if_neg Bool.false_ne_true]; exact h4⟩
theorem ss_rtf (h : SXf T a2 a) : SS T true (rRt a2) (sRt a) := fun A m c B v2 v w E hB f2 v2' c' q => by
  obtain ⟨⟨d, c1⟩, q1, q⟩ := Option.bind_eq_some_iff.mp q
  cases q
  obtain ⟨p, m1, A1, h1, h2, h3, ds, k, ps, e1, e2, hk, h4⟩ := h A m c B v2 v w E _ _ q1
  exact ⟨.rt p, v, m1, A1, by unfold sRt; rw [h1]; rfl, h2.s w hB, h3, E.x w h2, p, rfl, by rw [if_pos rfl]; exact ⟨ds, k, ps, e1, e2, Nat.le_trans hB hk, h4⟩⟩
theorem ss_rn : SS T false rRn sRn := fun A m c B v2 v w E hB f2 v2' c' q => by
  cases q
  exact ⟨.rt .non, v, m, A, rfl, .refl, w, E, .non, rfl, by rw [if_neg Bool.false_ne_true, D2]⟩
theorem ss_ro {i : Nat} : SS T true (rRo i) (sRt (xVar i)) := fun A m c B v2 v w E hB f2 v2' c' q => by
  unfold rRo at q
  split at q
  · rename_i ds hd
    cases q
    obtain ⟨p, h1, k, ps, rfl, hk, a, n, g, r⟩ := E.ok i _ hd
    have er : sRt (xVar i) v m = some (.rt (.ref k), v, m) := by unfold sRt xVar; rw [h1]; rfl
    exact ⟨_, v, m, A, er, .refl, w, E, _, rfl, by rw [if_pos rfl]; exact ⟨ds, k, ps, rfl, rfl, hk, a, n, g, r⟩⟩
  · cases q
theorem ss_fz {i : Nat} {s2 : S2} {s : Sx} (h : SS T φ s2 s) : SS T φ (rSq (rFz i) s2) s := fun A m c B v2 v w E hB f2 v2' c' q => by
  obtain ⟨⟨f, v1, c1⟩, q1, q⟩ := Option.bind_eq_some_iff.mp q
  unfold rFz at q1
  split at q1
  · rename_i ds hd
    cases q1
    obtain ⟨p, h1, k, ps, rfl, hk, a, n, g, r⟩ := E.ok i _ hd
    obtain ⟨f', v', m', A', r1, r2, r3⟩ := h (fun j => A j ∨ j = k) m c B (v2.set i (some (.v (.lst ds)))) v (w.fz n (lt_of g)) (E.fz hd h1) hB _ _ _ q
    exact ⟨f', v', m', A', r1, (Xs.fz hk).trans r2, r3⟩
  · cases q1
    exact h A m c B v2 v w E hB _ _ _ q
theorem ss_if (ht : ST T t2 t) (ha : SS T φ sa2 sa) (hb : SS T φ sb2 sb) : SS T φ (rIf t2 sa2 sb2) (sIf t sa sb) := fun A m c B v2 v w E hB f2 v2' c' q => by
  obtain ⟨⟨d, c1⟩, q1, q⟩ := Option.bind_eq_some_iff.mp q
  obtain ⟨m1, A1, h1, h2, h3⟩ := ht A m c B v2 v w E _ _ q1
  have hB1 := Nat.le_trans hB h2.le
  split at q
  · rename_i z
    obtain ⟨f, v', m2, A2, h4, h5, h6⟩ := ha A1 m1 c1 B v2 v h3 (E.x w h2) hB1 _ _ _ q
    exact ⟨f, v', m2, A2, by unfold sIf; rw [h1]; simp only [Option.bind_some]; rw [if_pos z]; exact h4, (h2.s w hB).trans h5, h6⟩
  · rename_i z
    obtain ⟨f, v', m2, A2, h4, h5, h6⟩ := hb A1 m1 c1 B v2 v h3 (E.x w h2) hB1 _ _ _ q
    exact ⟨f, v', m2, A2, by unfold sIf; rw [h1]; simp only [Option.bind_some]; rw [if_neg z]; exact h4, (h2.s w hB).trans h5, h6⟩
theorem ss_as {i : Nat} (h : SX T a2 a) : SS T φ (rAs i a2) (sAs a (gNm i)) := fun A m c B v2 v w E hB f2 v2' c' q => by
  obtain ⟨⟨d, c1⟩, q1, q⟩ := Option.bind_eq_some_iff.mp q
  cases q
  obtain ⟨p, m1, A1, h1, h2, h3, h4⟩ := h A m c B v2 v w E _ _ q1
  exact ⟨.nx, v.set i (some p), m1, A1, by unfold sAs; rw [h1]; rfl, h2.s w hB, h3, (E.x w h2).set i h4, rfl⟩
theorem ss_ao {i : Nat} (h : SXf T a2 a) : SS T φ (rAo i a2) (sAs a (gNm i)) := fun A m c B v2 v w E hB f2 v2' c' q => by
  obtain ⟨⟨d, c1⟩, q1, q⟩ := Option.bind_eq_some_iff.mp q
  obtain ⟨p, m1, A1, h1, h2, h3, ds, k, ps, e1, rfl, hk, a, n, g, r⟩ := h A m c B v2 v w E _ _ q1
  subst e1
  cases q
  refine ⟨.nx, v.set i (some (.ref k)), m1, A1, by unfold sAs; rw [h1]; rfl, h2.s w hB, h3, (E.x w h2).setO i (Nat.le_trans hB hk) a n g r fun j es _ q z => ?_, rfl⟩
  obtain ⟨p, z1, k', qs, e', _, _, _, g', _⟩ := E.ok j _ q
  rw [z1] at z
  cases z
  cases e'
  exact absurd (lt_of g') (by omega)
/-- a, b = e: for a tuple -/
def SG (T : Tk) (g2 : P2) (g : Gx) : Prop := ∀ A m B v2 v d p, EnvR T A m B v2 v → D2 T A m d p → ∀ v2', g2 d v2 = some v2' → ∃ v', g p v m = some (v', m) ∧ EnvR T A m B v2' v'
def SGs (T : Tk) (g2 : Ps2) (g : Gxs) : Prop := ∀ A m B v2 v ds ps, EnvR T A m B v2 v → D2L T A m ds ps → ∀ v2', g2 ds v2 = some v2' → ∃ v', g ps v m = some (v', m) ∧ EnvR T A m B v2' v'
theorem sg_nm {i : Nat} : SG T (qNm i) (gNm i) := fun A m B v2 v d p E D v2' q => by
  cases q
  exact ⟨_, rfl, E.set i D⟩
theorem sg_sq {n : Nat} {g2 : Ps2} {g : Gxs} (h : SGs T g2 g) : SG T (qTp n g2) (gSq n g) := fun A m B v2 v d p E D v2' q => by
  cases d with
  | tup ds =>
    obtain ⟨ps, rfl, D'⟩ := d2_tup.mp D
    simp only [qTp] at q
    split at q
    · rename_i hl
      obtain ⟨v', h1, h2⟩ := h A m B v2 v ds ps E D' v2' q
      exact ⟨v', by simp only [gSq]; rw [if_pos (by rw [D'.length]; exact hl)]; exact h1, h2⟩
    · cases q
  | _ => cases q
theorem sgs_nil : SGs T qNil gsNil := fun A m B v2 v ds ps E D v2' q => by
  cases ds with
  | nil =>
    cases q
    rw [D.inv0]
    exact ⟨_, rfl, E⟩
  | cons _ _ => cases q
theorem sgs_cons {g2 : P2} {g : Gx} {r2 : Ps2} {r : Gxs} (h : SG T g2 g) (h' : SGs T r2 r) : SGs T (qCons g2 r2) (gsCons g r) := fun A m B v2 v ds ps E D v2' q => by
  cases ds with
  | nil => cases q
  | cons d ds =>
    obtain ⟨p, rs, rfl, D1, D2'⟩ := D.inv
    obtain ⟨e, q1, q2⟩ := Option.bind_eq_some_iff.mp (show (g2 d v2).bind (fun e => r2 ds e) = some v2' from q)
    obtain ⟨v1, h1, h2⟩ := h A m B v2 v d p E D1 e q1
    obtain ⟨v3, h3, h4⟩ := h' A m B e v1 ds rs h2 D2' v2' q2
    exact ⟨v3, by simp only [gsCons]; rw [h1]; exact h3, h4⟩
theorem ss_ap {g2 : P2} {g : Gx} (hg : SG T g2 g) (h : SX T a2 a) : SS T φ (rAp g2 a2) (sAs a g) := fun A m c B v2 v w E hB f2 v2' c' q => by
  obtain ⟨⟨d, c1⟩, q1, q⟩ := Option.bind_eq_some_iff.mp q
  obtain ⟨v3, q2, q⟩ := Option.map_eq_some_iff.mp q
  cases q
  obtain ⟨p, m1, A1, h1, h2, h3, h4⟩ := h A m c B v2 v w E _ _ q1
  obtain ⟨v', g1, g3⟩ := hg A1 m1 B v2 v d p (E.x w h2) h4 _ q2
  exact ⟨.nx, v', m1, A1, by unfold sAs; rw [h1]; simp only [Option.bind_some]; rw [g1]; rfl, h2.s w hB, h3, g3, rfl⟩
/-- a change of an own list -/
theorem own_set {A : Nat → Prop} {m : Mem} {c : Cs} {B i k : Nat} {v2 : Env2} {v : Rf.Env} {ds es : List DV} {qs : List PV} (w : WF T A m c) (E : EnvR T A m B v2 v) (hd : v2[i]? = some (some (.o ds))) (hv : v[i]? = some (some (.ref k))) (r : D2L T A m es qs) :
    Xs T B A m A (m.set k (.lst qs)) ∧ WF T A (m.set k (.lst qs)) c ∧ EnvR T A (m.set k (.lst qs)) B (v2.set i (some (.o es))) v := by
  obtain ⟨p, h1, k', ps, rfl, hk, a, n, g, _⟩ := E.ok i _ hd
  rw [hv] at h1
  cases h1
  have fixA : ∀ j, A j → (m.set k (.lst qs))[j]? = m[j]? := fun j a' => List.getElem?_set_ne fun (z : k = j) => a (z ▸ a')
  have x : Xs T B A m A (m.set k (.lst qs)) := ⟨by simp, fun j l _ => List.getElem?_set_ne (by omega), fixA, fun _ h => h, fun _ _ h => h⟩
  refine ⟨x, w.put a n, ?_⟩
  have hl : i < v2.length := (List.getElem?_eq_some_iff.mp hd).1
  have lk := lt_of g
  refine ⟨by simp [E.len], fun j s q => ?_, fun j j' ds' es' k' e1 e2 e3 e4 => ?_⟩
  · by_cases hj : j = i
    · subst hj
      rw [List.getElem?_set_self hl] at q
      cases q
      exact ⟨_, hv, k, qs, rfl, hk, a, n, by rw [List.getElem?_set_self lk], D2L.mono (fun _ h => h) fixA _ _ r⟩
    · rw [List.getElem?_set_ne (Ne.symm hj)] at q
      obtain ⟨p, z1, z2⟩ := E.ok j s q
      refine ⟨p, z1, ?_⟩
      cases s with
      | v d => exact D2.mono (fun _ h => h) fixA _ _ z2
      | o fs =>
        obtain ⟨k2, rs, rfl, hk2, a2, n2, g2, r2⟩ := z2
        refine ⟨k2, rs, rfl, hk2, a2, n2, ?_, D2L.mono (fun _ h => h) fixA _ _ r2⟩
        rw [List.getElem?_set_ne fun z => hj (E.inj j i fs ds k q hd (by rw [z]; exact z1) hv)]
        exact g2
  · have at_ : ∀ (j : Nat) (fs : List DV), (v2.set i (some (.o es)))[j]? = some (some (.o fs)) → ∃ gs, v2[j]? = some (some (.o gs)) := fun j fs q => by
      by_cases hj : j = i
      · exact ⟨ds, by rw [hj]; exact hd⟩
      · rw [List.getElem?_set_ne (Ne.symm hj)] at q
        exact ⟨fs, q⟩
    obtain ⟨g1, q1⟩ := at_ j _ e1
    obtain ⟨g2, q2⟩ := at_ j' _ e2
    exact E.inj j j' g1 g2 k' q1 q2 e3 e4
theorem ss_ae {i : Nat} (h : SX T a2 a) : SS T φ (rAe i a2) (sEx (xM chkL appG (xVar i) (aCons a aNil))) := fun A m c B v2 v w E hB f2 v2' c' q => by
  obtain ⟨⟨d, c1⟩, q1, q⟩ := Option.bind_eq_some_iff.mp q
  obtain ⟨p, m1, A1, h1, h2, h3, h4⟩ := h A m c B v2 v w E _ _ q1
  split at q
  · rename_i ds hd
    split at q
    · rename_i hl
      cases q
      obtain ⟨p0, z1, k, ps, rfl, hk, a', n, g, r⟩ := E.ok i _ hd
      have g1 : m1[k]? = some (.lst ps) := (h2.old k (lt_of g) n).trans g
      obtain ⟨x1, x2, x3⟩ := own_set h3 (E.x w h2) hd z1 ((r.x w h2).append (.one h4))
      refine ⟨.nx, v, _, A1, ?_, (h2.s w hB).trans x1, x2, x3, rfl⟩
      unfold sEx xM xVar
      rw [z1]
      simp only [Option.bind_some]
      have hc : chkL (.ref k) m = true := by unfold chkL lstB; simp only [g]; rfl
      rw [if_pos hc]
      simp only [aCons, aNil]
      rw [h1]
      simp only [Option.bind_some, appG, g1]
      rw [if_pos (by rw [r.length]; exact hl)]
      rfl
    · cases q
  · cases q
theorem ss_si {i : Nat} {k2 : E2} {k : Ex} (hk : SX T k2 k) (h : SX T a2 a) : SS T φ (rSi i k2 a2) (sAs a (gIx (xVar i) k)) := fun A m c B v2 v w E hB f2 v2' c' q => by
  obtain ⟨⟨d, c1⟩, q1, q⟩ := Option.bind_eq_some_iff.mp q
  obtain ⟨⟨d2, c2⟩, q2, q⟩ := Option.bind_eq_some_iff.mp q
  obtain ⟨p, m1, A1, h1, h2, h3, h4⟩ := h A m c B v2 v w E _ _ q1
  obtain ⟨p', m2, A2, h5, h6, h7, h8⟩ := hk A1 m1 c1 B v2 v h3 (E.x w h2) _ _ q2
  have x := h2.trans h6
  split at q
  · rename_i ds z hd hz
    obtain ⟨j, q3, q⟩ := Option.map_eq_some_iff.mp q
    cases q
    simp only at hz
    subst hz
    rw [d2_int] at h8
    subst h8
    obtain ⟨p0, z1, k0, ps, rfl, hk0, a', n, g, r⟩ := E.ok i _ hd
    have g1 : m2[k0]? = some (.lst ps) := (x.old k0 (lt_of g) n).trans g
    obtain ⟨x1, x2, x3⟩ := own_set h7 (E.x w x) hd z1 ((r.x w x).set j (h4.x h3 h6))
    refine ⟨.nx, v, _, A2, ?_, (x.s w hB).trans x1, x2, x3, rfl⟩
    unfold sAs gIx xVar
    rw [h1]
    simp only [Option.bind_some, z1]
    rw [h5]
    simp only [Option.bind_some, setG, g1]
    rw [r.length, q3]
    rfl
  · cases q
theorem ss_au {i : Nat} (h : SX T a2 a) : SS T φ (rAu i a2) (sAu i incG a) := fun A m c B v2 v w E hB f2 v2' c' q => by
  unfold rAu at q
  split at q
  · rename_i x hx
    obtain ⟨⟨d, c1⟩, q1, q⟩ := Option.bind_eq_some_iff.mp q
    obtain ⟨p, m1, A1, h1, h2, h3, h4⟩ := h A m c B v2 v w E _ _ q1
    obtain ⟨p0, z1, z2⟩ := E.ok i _ hx
    cases d with
    | int y =>
      cases q
      rw [show p0 = .int x from by have : D2 T A m (.int x) p0 := z2; rwa [d2_int] at this] at z1
      rw [d2_int] at h4
      subst h4
      exact ⟨.nx, v.set i (some (.int (x + y))), m1, A1, by unfold sAu; simp only [z1]; rw [h1]; rfl, h2.s w hB, h3, (E.x w h2).set i (by rw [D2]), rfl⟩
    | _ => cases q
  · cases q
theorem okG_xs {B : Nat} {A A' : Nat → Prop} {m m' : Mem} {gd : List (Nat × Ob)} (x : Xs T B A m A' m') (h : ∀ g ∈ gd, A g.1) (k : okG gd m = true) : okG gd m' = true := by
  unfold okG at k ⊢
  rw [List.all_eq_true] at k ⊢
  intro q hq
  have := of_decide_eq_true (k q hq)
  exact decide_eq_true ((x.fix q.1 (h q hq)).trans this)
theorem for_sim {g2 : P2} {g : Gx} (hg : SG T g2 g) (hb : SS T φ sb2 sb) {B : Nat} {gd : List (Nat × Ob)} : ∀ (ds : List DV) (A : Nat → Prop) (m : Mem) (c : Cs) (items : List PV) (v2 : Env2) (v : Rf.Env), WF T A m c → EnvR T A m B v2 v → B ≤ m.length → D2L T A m ds items → okG gd m = true → (∀ q ∈ gd, A q.1) →
    ∀ f2 v2' c', forW g2 sb2 ds v2 c = some (f2, v2', c') → ∃ f v' m' A', forL g sb gd items v m = some (f, v', m') ∧ Xs T B A m A' m' ∧ WF T A' m' c' ∧ EnvR T A' m' B v2' v' ∧ FlR T φ A' m' B f2 f
  | [], A, m, c, items, v2, v, w, E, hB, D, kg, hgd, f2, v2', c', q => by
    cases q
    rw [D.inv0]
    exact ⟨.nx, v, m, A, rfl, .refl, w, E, rfl⟩
  | d :: ds, A, m, c, items, v2, v, w, E, hB, D, kg, hgd, f2, v2', c', q => by
    obtain ⟨p, ps, rfl, D1, Dr⟩ := D.inv
    unfold forW at q
    obtain ⟨u2, q1, q⟩ := Option.bind_eq_some_iff.mp q
    obtain ⟨⟨f, v3, c3⟩, q2, q⟩ := Option.bind_eq_some_iff.mp q
    obtain ⟨u, g1, E1⟩ := hg A m B v2 v d p E D1 _ q1
    obtain ⟨f', v', m1, A1, h1, h2, h3, h4, h5⟩ := hb A m c B u2 u w E1 hB _ _ _ q2
    have kg1 := okG_xs h2 hgd kg
    have hB1 := Nat.le_trans hB h2.le
    have go : forW g2 sb2 ds v3 c3 = some (f2, v2', c') → (f' = .nx ∨ f' = .ct) → ∃ f v' m' A', forL g sb gd (p :: ps) v m = some (f, v', m') ∧ Xs T B A m A' m' ∧ WF T A' m' c' ∧ EnvR T A' m' B v2' v' ∧ FlR T φ A' m' B f2 f := fun q e => by
      obtain ⟨f3, v4, m2, A2, r1, r2, r3⟩ := for_sim hg hb ds A1 m1 c3 ps v3 v' h3 h4 hB1 (Dr.xs h2) kg1 (fun q hq => h2.up _ (hgd q hq)) _ _ _ q
      refine ⟨f3, v4, m2, A2, ?_, h2.trans r2, r3⟩
      unfold forL
      rw [g1]
      simp only [Option.bind_some]
      rw [h1]
      rcases e with rfl | rfl <;> (simp only [Option.bind_some]; rw [if_pos kg1]; exact r1)
    cases f with
    | nx => exact go q (.inl h5)
    | ct => exact go q (.inr h5)
    | bk =>
      cases q
      obtain rfl : f' = .bk := h5
      exact ⟨.nx, v', m1, A1, by unfold forL; rw [g1]; simp only [Option.bind_some]; rw [h1]; rfl, h2, h3, h4, rfl⟩
    | rt d =>
      cases q
      obtain ⟨p', rfl, k⟩ := h5
      exact ⟨.rt p', v', m1, A1, by unfold forL; rw [g1]; simp only [Option.bind_some]; rw [h1]; rfl, h2, h3, h4, p', rfl, k⟩
theorem ss_for {i2 : I2} {i : Ix} {g2 : P2} {g : Gx} (hi : SI T i2 i) (hg : SG T g2 g) (hb : SS T φ sb2 sb) : SS T φ (rFor i2 g2 sb2) (sFor i g sb) := fun A m c B v2 v w E hB f2 v2' c' q => by
  obtain ⟨⟨ds, c1⟩, q1, q⟩ := Option.bind_eq_some_iff.mp q
  obtain ⟨sq, m1, A1, h1, h2, h3, h4, h5, h6⟩ := hi A m c B v2 v w E _ _ q1
  obtain ⟨f, v', m2, A2, r1, r2, r3⟩ := for_sim hg hb ds A1 m1 c1 sq.items v2 v h3 (E.x w h2) (Nat.le_trans hB h2.le) h4 h5 h6 _ _ _ q
  exact ⟨f, v', m2, A2, by unfold sFor; rw [h1]; simp only [Option.bind_some]; rw [if_pos h5]; exact r1, (h2.s w hB).trans r2, r3⟩
theorem wh_sim (ht : ST T t2 t) (hb : SS T φ sb2 sb) {B : Nat} : ∀ (n : Nat) (A : Nat → Prop) (m : Mem) (c : Cs) (v2 : Env2) (v : Rf.Env), WF T A m c → EnvR T A m B v2 v → B ≤ m.length →
    ∀ f2 v2' c', whW t2 sb2 n v2 c = some (f2, v2', c') → ∃ f v' m' A', whl t sb n v m = some (f, v', m') ∧ Xs T B A m A' m' ∧ WF T A' m' c' ∧ EnvR T A' m' B v2' v' ∧ FlR T φ A' m' B f2 f
  | 0, A, m, c, v2, v, w, E, hB, f2, v2', c', q => by cases q
  | n + 1, A, m, c, v2, v, w, E, hB, f2, v2', c', q => by
    unfold whW at q
    obtain ⟨⟨k, c1⟩, q1, q⟩ := Option.bind_eq_some_iff.mp q
    obtain ⟨m1, A1, h1, h2, h3⟩ := ht A m c B v2 v w E _ _ q1
    have x1 := h2.s w hB
    have E1 := E.x w h2
    have hB1 := Nat.le_trans hB h2.le
    split at q
    · rename_i hk
      obtain ⟨⟨f, v3, c3⟩, q2, q⟩ := Option.bind_eq_some_iff.mp q
      obtain ⟨f', v', m2, A2, r1, r2, r3, r4, r5⟩ := hb A1 m1 c1 B v2 v h3 E1 hB1 _ _ _ q2
      have go : whW t2 sb2 n v3 c3 = some (f2, v2', c') → (f' = .nx ∨ f' = .ct) → ∃ f v' m' A', whl t sb (n + 1) v m = some (f, v', m') ∧ Xs T B A m A' m' ∧ WF T A' m' c' ∧ EnvR T A' m' B v2' v' ∧ FlR T φ A' m' B f2 f := fun q e => by
        obtain ⟨f3, v4, m3, A3, z1, z2, z3⟩ := wh_sim ht hb n A2 m2 c3 v3 v' r3 r4 (Nat.le_trans hB1 r2.le) _ _ _ q
        refine ⟨f3, v4, m3, A3, ?_, (x1.trans r2).trans z2, z3⟩
        unfold whl
        rw [h1]
        simp only [Option.bind_some]
        rw [if_pos hk, r1]
        rcases e with rfl | rfl <;> exact z1
      cases f with
      | nx => exact go q (.inl r5)
      | ct => exact go q (.inr r5)
      | bk =>
        cases q
        obtain rfl : f' = .bk := r5
        exact ⟨.nx, v', m2, A2, by unfold whl; rw [h1]; simp only [Option.bind_some]; rw [if_pos hk, r1]; rfl, x1.trans r2, r3, r4, rfl⟩
      | rt d =>
        cases q
        obtain ⟨p', rfl, k⟩ := r5
        exact ⟨.rt p', v', m2, A2, by unfold whl; rw [h1]; simp only [Option.bind_some]; rw [if_pos hk, r1]; rfl, x1.trans r2, r3, r4, p', rfl, k⟩
    · rename_i hk
      cases q
      exact ⟨.nx, v, m1, A1, by unfold whl; rw [h1]; simp only [Option.bind_some]; rw [if_neg hk], x1, h3, E1, rfl⟩
theorem ss_wh {n : Nat} (ht : ST T t2 t) (hb : SS T φ sb2 sb) : SS T φ (rWh n t2 sb2) (sWh n t sb) := fun A m c B v2 v w E hB f2 v2' c' q => wh_sim ht hb n A m c v2 v w E hB f2 v2' c' q

/-! ### defs -/
def start2 (N : Nat) (ds : List DV) : Env2 := ds.map (fun d => some (.v d)) ++ List.replicate (N - ds.length) none
def fn2 (N : Nat) (b : S2) : F2 := fun ds c => (b (start2 N ds) c).bind fun r => match r.1 with
  | .nx => some (.non, r.2.2)
  | .rt d => some (d, r.2.2)
  | _ => none
def fn2f (N : Nat) (b : S2) : F2 := fun ds c => (b (start2 N ds) c).bind fun r => match r.1 with
  | .rt d => some (d, r.2.2)
  | _ => none
theorem start_env {A : Nat → Prop} {m : Mem} {B N : Nat} {ds : List DV} {ps : List PV} (h : D2L T A m ds ps) : EnvR T A m B (start2 N ds) (startE N ps) := by
  have no : ∀ (j : Nat) (es : List DV), (start2 N ds)[j]? ≠ some (some (.o es)) := fun j es q => by
    unfold start2 at q
    by_cases hj : j < ds.length
    · rw [List.getElem?_append_left (by simpa using hj)] at q
      simp at q
    · rw [List.getElem?_append_right (by simpa using Nat.not_lt.mp hj)] at q
      obtain ⟨_, e⟩ := List.getElem?_eq_some_iff.mp q
      simp at e
  refine ⟨by unfold start2 startE; simp [h.length], fun i s q => ?_, fun j j' es fs k e1 => absurd e1 (no j es)⟩
  unfold start2 at q
  by_cases hi : i < ds.length
  · rw [List.getElem?_append_left (by simpa using hi)] at q
    simp only [List.getElem?_map, Option.map_eq_some_iff] at q
    obtain ⟨d, h1, h2⟩ := q
    cases h2
    obtain ⟨p, h3, h4⟩ := h.get h1
    refine ⟨p, ?_, h4⟩
    unfold startE
    rw [List.getElem?_append_left (by simp [h.length]; exact hi)]
    simp [h3]
  · rw [List.getElem?_append_right (by simpa using Nat.not_lt.mp hi)] at q
    obtain ⟨_, e⟩ := List.getElem?_eq_some_iff.mp q
    simp at e
theorem sf_fn {N : Nat} {s2 : S2} {s : Sx} (h : SS T false s2 s) : SF T (fn2 N s2) (fnF N s) := fun A m c ds ps w D r c' q => by
  obtain ⟨⟨f, v, c1⟩, q1, q⟩ := Option.bind_eq_some_iff.mp q
  obtain ⟨f', v', m1, A1, h1, h2, h3, h4, h5⟩ := h A m c m.length _ _ w (start_env D) (Nat.le_refl _) _ _ _ q1
  cases f with
  | nx =>
    cases q
    obtain rfl : f' = .nx := h5
    exact ⟨.non, m1, A1, by unfold fnF; rw [h1]; rfl, h2.t, h3, by rw [D2]⟩
  | rt d =>
    cases q
    obtain ⟨p, rfl, k⟩ := h5
    rw [if_neg Bool.false_ne_true] at k
    exact ⟨p, m1, A1, by unfold fnF; rw [h1]; rfl, h2.t, h3, k⟩
  | _ => cases q
theorem sff_fn {N : Nat} {s2 : S2} {s : Sx} (h : SS T true s2 s) : SFf T (fn2f N s2) (fnF N s) := fun A m c ds ps w D r c' q => by
  obtain ⟨⟨f, v, c1⟩, q1, q⟩ := Option.bind_eq_some_iff.mp q
  obtain ⟨f', v', m1, A1, h1, h2, h3, h4, h5⟩ := h A m c m.length _ _ w (start_env D) (Nat.le_refl _) _ _ _ q1
  cases f with
  | rt d =>
    cases q
    obtain ⟨p, rfl, k⟩ := h5
    rw [if_pos rfl] at k
    exact ⟨p, m1, A1, by unfold fnF; rw [h1]; rfl, h2.t, h3, k⟩
  | _ => cases q
end
end V2
end

section
set_option Elab.async false
set_option linter.all false
set_option maxRecDepth 100000
set_option autoImplicit false
namespace V2
open PySem Rf L2
/-! ### operations -/
section
variable {T : Tk} {g : PV → Mem → Option (PV × Mem)} {h : PV → PV → Mem → Option (PV × Mem)}
theorem opx_pure {g2 : DV → Option DV} (k : ∀ A m d p r, Dt T A m d p → g2 d = some r → ∃ p', g p m = some (p', m) ∧ D2 T A m r p') : OpX g2 g T := fun A m c d p w D r e => by
  obtain ⟨p', h1, h2⟩ := k A m d p r D e
  exact ⟨p', m, A, h1, .refl, w, h2⟩
theorem op2_pure {g2 : DV → DV → Option DV} (k : ∀ A m d p e q r, Dt T A m d p → Dt T A m e q → g2 d e = some r → ∃ p', h p q m = some (p', m) ∧ D2 T A m r p') : Op2 g2 h T := fun A m c d p e q w D E r z => by
  obtain ⟨p', h1, h2⟩ := k A m d p e q r D E z
  exact ⟨p', m, A, h1, .refl, w, h2⟩
end
section
variable {T : Tk}
theorem dt_int {A : Nat → Prop} {m : Mem} {i : Int} {p : PV} (h : Dt T A m (.int i) p) : p = .int i := by have h' : D2 T A m (.int i) p := h; rwa [d2_int] at h'
theorem dt_bl {A : Nat → Prop} {m : Mem} {i : Bool} {p : PV} (h : Dt T A m (.bl i) p) : p = .bl i := by have h' : D2 T A m (.bl i) p := h; rwa [d2_bl] at h'
theorem dt_str {A : Nat → Prop} {m : Mem} {i : Str} {p : PV} (h : Dt T A m (.str i) p) : p = .str i := by have h' : D2 T A m (.str i) p := h; rwa [d2_str] at h'
theorem dt_non {A : Nat → Prop} {m : Mem} {p : PV} (h : Dt T A m .non p) : p = .non := by have h' : D2 T A m .non p := h; rwa [d2_non] at h'
theorem dt_tup {A : Nat → Prop} {m : Mem} {ds : List DV} {p : PV} (h : Dt T A m (.tup ds) p) : ∃ ps, p = .tup ps ∧ D2L T A m ds ps := d2_tup.mp h
theorem dt_lst {A : Nat → Prop} {m : Mem} {ds : List DV} {p : PV} (h : Dt T A m (.lst ds) p) : ∃ k ps, p = .ref k ∧ k ≠ T.c ∧ k < m.length ∧ m[k]? = some (.lst ps) ∧ D2L T A m ds ps := h
def subV : DV → DV → Option DV
  | .int i, .int j => some (.int (i - j))
  | _, _ => none
def mulV : DV → DV → Option DV
  | .int i, .int j => if (-(2 ^ 64) < i ∧ i < 2 ^ 64) ∨ (-(2 ^ 64) < j ∧ j < 2 ^ 64) then some (.int (i * j)) else none
  | _, _ => none
def divV : DV → DV → Option DV
  | .int i, .int j => if 0 < j ∧ j < 18446744073709551616 then some (.int (i / j)) else none
  | _, _ => none
def modV : DV → DV → Option DV
  | .int i, .int j => if 0 < j then some (.int (i % j)) else none
  | _, _ => none
def powV : DV → DV → Option DV
  | .int i, .int j => if 0 ≤ j ∧ j ≤ 1000 ∧ i.natAbs < 2 ^ 64 then some (.int (i ^ j.toNat)) else none
  | _, _ => none
def andV : DV → DV → Option DV
  | .int i, .int j => some (.int (Builtin.bitAnd i j))
  | _, _ => none
def negV : DV → Option DV
  | .int i => some (.int (-i))
  | _ => none
def cmpV (f : Int → Int → Bool) : DV → DV → Option DV
  | .int i, .int j => some (.bl (f i j))
  | _, _ => none
abbrev ltV := cmpV fun i j => decide (i < j)
abbrev leV := cmpV fun i j => decide (i ≤ j)
abbrev gtV := cmpV fun i j => decide (j < i)
abbrev geV := cmpV fun i j => decide (j ≤ i)
/-- ints, texts, tuples -/
def addV : DV → DV → Option DV
  | .int i, .int j => some (.int (i + j))
  | .str s, .str t => if s.length + t.length ≤ sizeLine then some (.str (s ++ t)) else none
  | .tup s, .tup t => if s.length + t.length ≤ sizeLine then some (.tup (s ++ t)) else none
  | _, _ => none
/-- lists -/
def catV : DV → DV → Option DV
  | .lst s, .lst t => if s.length + t.length ≤ sizeLine then some (.lst (s ++ t)) else none
  | _, _ => none
theorem o_sub : Op2 subV subG T := op2_pure fun A m d p e q r D E z => by
  cases d with
  | int i => cases e with
    | int j => cases z; rw [dt_int D, dt_int E]; exact ⟨_, rfl, by rw [D2]⟩
    | _ => cases z
  | _ => cases z
theorem o_mul : Op2 mulV mulG T := op2_pure fun A m d p e q r D E z => by
  cases d with
  | int i => cases e with
    | int j =>
      simp only [mulV] at z
      split at z
      · rename_i hb
        cases z
        rw [dt_int D, dt_int E]
        exact ⟨_, by simp only [mulG]; rw [if_pos hb], by rw [D2]⟩
      · cases z
    | _ => cases z
  | _ => cases z
theorem o_div : Op2 divV divG T := op2_pure fun A m d p e q r D E z => by
  cases d with
  | int i => cases e with
    | int j =>
      simp only [divV] at z
      split at z
      · rename_i hb
        cases z
        rw [dt_int D, dt_int E]
        exact ⟨_, by simp only [divG]; rw [if_pos hb], by rw [D2]⟩
      · cases z
    | _ => cases z
  | _ => cases z
theorem o_mod : Op2 modV modG T := op2_pure fun A m d p e q r D E z => by
  cases d with
  | int i => cases e with
    | int j =>
      simp only [modV] at z
      split at z
      · rename_i hb
        cases z
        rw [dt_int D, dt_int E]
        exact ⟨_, by simp only [modG]; rw [if_pos hb], by rw [D2]⟩
      · cases z
    | _ => cases z
  | _ => cases z
theorem o_pow : Op2 powV powG T := op2_pure fun A m d p e q r D E z => by
  cases d with
  | int i => cases e with
    | int j =>
      simp only [powV] at z
      split at z
      · rename_i hb
        cases z
        rw [dt_int D, dt_int E]
        exact ⟨_, by simp only [powG]; rw [if_pos hb], by rw [D2]⟩
      · cases z
    | _ => cases z
  | _ => cases z
theorem o_and : Op2 andV andG T := op2_pure fun A m d p e q r D E z => by
  cases d with
  | int i => cases e with
    | int j => cases z; rw [dt_int D, dt_int E]; exact ⟨_, rfl, by rw [D2]⟩
    | _ => cases z
  | _ => cases z
theorem o_neg : OpX negV negG T := opx_pure fun A m d p r D z => by
  cases d with
  | int i => cases z; rw [dt_int D]; exact ⟨_, rfl, by rw [D2]⟩
  | _ => cases z
theorem o_cmp {f : Int → Int → Bool} : Op2 (cmpV f) (cmpG f) T := op2_pure fun A m d p e q r D E z => by
  cases d with
  | int i => cases e with
    | int j => cases z; rw [dt_int D, dt_int E]; exact ⟨_, rfl, by rw [D2]⟩
    | _ => cases z
  | _ => cases z
theorem o_add : Op2 addV addG T := op2_pure fun A m d p e q r D E z => by
  cases d with
  | int i => cases e with
    | int j => cases z; rw [dt_int D, dt_int E]; exact ⟨_, rfl, by rw [D2]⟩
    | _ => cases z
  | str i => cases e with
    | str j =>
      simp only [addV] at z
      split at z
      · rename_i hb
        cases z
        rw [dt_str D, dt_str E]
        exact ⟨_, by simp only [addG]; rw [if_pos hb], by rw [D2]⟩
      · cases z
    | _ => cases z
  | tup i => cases e with
    | tup j =>
      simp only [addV] at z
      split at z
      · rename_i hb
        cases z
        obtain ⟨ps, rfl, h1⟩ := dt_tup D
        obtain ⟨qs, rfl, h2⟩ := dt_tup E
        exact ⟨_, by simp only [addG]; rw [if_pos (by rw [h1.length, h2.length]; exact hb)], d2_tup.mpr ⟨_, rfl, h1.append h2⟩⟩
      · cases z
    | _ => cases z
  | _ => cases z
theorem o_cat : Op2f catV addG T := fun A m c d p e q w D E r z => by
  cases d with
  | lst i => cases e with
    | lst j =>
      simp only [catV] at z
      split at z
      · rename_i hb
        cases z
        obtain ⟨k, ps, rfl, n1, l1, g1, h1⟩ := dt_lst D
        obtain ⟨k', qs, rfl, n2, l2, g2, h2⟩ := dt_lst E
        obtain ⟨z1, z2, z3⟩ := fs_new w (h1.append h2)
        exact ⟨_, _, A, by simp only [addG, g1, g2]; rw [if_pos (by rw [h1.length, h2.length]; exact hb)], z1, z2, z3⟩
      · cases z
    | _ => cases z
  | _ => cases z

/-! equality -/
mutual
def toDV : DV → Option PyData
  | .non => some .none
  | .bl b => some (.bool b)
  | .int i => some (.int i)
  | .str s => some (.str s)
  | .tup ds => (toDVs ds).map PyData.tuple
  | _ => none
def toDVs : List DV → Option (List PyData)
  | [] => some []
  | d :: ds => (toDV d).bind fun x => (toDVs ds).map fun xs => x :: xs
end
def toDVm : DV → Option PyData
  | .lst ds => (toDVs ds).map PyData.list
  | d => toDV d
mutual
theorem toDV_rep {A : Nat → Prop} {m : Mem} : ∀ (d : DV) (p : PV) (x : PyData), D2 T A m d p → toDV d = some x → toD p = some x
  | .non, p, x, h, e => by rw [d2_non] at h; rw [h]; exact e
  | .bl b, p, x, h, e => by rw [d2_bl] at h; rw [h]; exact e
  | .int b, p, x, h, e => by rw [d2_int] at h; rw [h]; exact e
  | .str b, p, x, h, e => by rw [d2_str] at h; rw [h]; exact e
  | .tup ds, p, x, h, e => by
    obtain ⟨ps, rfl, h'⟩ := d2_tup.mp h
    rw [toDV] at e
    obtain ⟨xs, e1, rfl⟩ := Option.map_eq_some_iff.mp e
    rw [toD, toDVs_rep ds ps xs h' e1]; rfl
  | .lst _, _, _, _, e => by cases e
  | .dic _, _, _, _, e => by cases e
  | .tok, _, _, _, e => by cases e
theorem toDVs_rep {A : Nat → Prop} {m : Mem} : ∀ (ds : List DV) (ps : List PV) (xs : List PyData), D2L T A m ds ps → toDVs ds = some xs → toDs ps = some xs
  | [], ps, xs, h, e => by rw [h.inv0]; exact e
  | d :: ds, ps, xs, h, e => by
    obtain ⟨p, r, rfl, h1, h2⟩ := h.inv
    rw [toDVs] at e
    obtain ⟨x, e1, e⟩ := Option.bind_eq_some_iff.mp e
    obtain ⟨ys, e2, rfl⟩ := Option.map_eq_some_iff.mp e
    rw [toDs, toDV_rep d p x h1 e1, toDVs_rep ds r ys h2 e2]; rfl
end
theorem toDVm_rep {A : Nat → Prop} {m : Mem} {d : DV} {p : PV} {x : PyData} (h : Dt T A m d p) (e : toDVm d = some x) : toDm p m = some x := by
  cases d with
  | lst ds =>
    obtain ⟨k, ps, rfl, _, _, g, h⟩ := dt_lst h
    obtain ⟨xs, e1, rfl⟩ := Option.map_eq_some_iff.mp (show (toDVs ds).map PyData.list = some x from e)
    simp only [toDm, g]
    rw [toDVs_rep ds ps xs h e1]; rfl
  | tup ds =>
    have := toDV_rep _ p x (show D2 T A m (.tup ds) p from h) e
    obtain ⟨ps, rfl, _⟩ := dt_tup h
    exact this
  | non => rw [dt_non h]; exact e
  | bl b => rw [dt_bl h]; exact e
  | int b => rw [dt_int h]; exact e
  | str b => rw [dt_str h]; exact e
  | _ => cases e
def eqVBg (d e : DV) : Option Bool := (toDVm d).bind fun x => (toDVm e).bind fun y => if SeqAt.shaped x = true ∧ SeqAt.shaped y = true then some (PyData.eqv x y) else none
def eqVB : DV → DV → Option Bool
  | .str i, .str j => some (decide (i = j))
  | d, e => eqVBg d e
theorem eqB_of {m : Mem} {p q : PV} {x y : PyData} (h1 : toDm p m = some x) (h2 : toDm q m = some y) (s1 : SeqAt.shaped x = true) (s2 : SeqAt.shaped y = true) : eqB p q m = some (PyData.eqv x y) := by
  unfold eqB
  split
  · cases h1; cases h2
    simp only [PyData.eqv, Option.some.injEq]
    first | rfl | (rw [Bool.eq_iff_iff]; simp)
  · cases h1; cases h2
    simp only [PyData.eqv, Option.some.injEq]
    first | rfl | (rw [Bool.eq_iff_iff]; simp)
  · cases h1; cases h2
    simp only [PyData.eqv, Option.some.injEq]
    first | rfl | (rw [Bool.eq_iff_iff]; simp)
  · rw [h1, h2]
    simp only [Option.bind_some]
    rw [if_pos ⟨s1, s2⟩]
def eqV (d e : DV) : Option DV := (eqVB d e).map .bl
def neV (d e : DV) : Option DV := (eqVB d e).map fun k => .bl (!k)
theorem eqVB_rep {A : Nat → Prop} {m : Mem} {d e : DV} {p q : PV} {k : Bool} (D : Dt T A m d p) (E : Dt T A m e q) (z : eqVB d e = some k) : eqB p q m = some k := by
  unfold eqVB at z
  split at z
  · rw [dt_str D, dt_str E]
    exact z
  unfold eqVBg at z
  obtain ⟨x, e1, z⟩ := Option.bind_eq_some_iff.mp z
  obtain ⟨y, e2, z⟩ := Option.bind_eq_some_iff.mp z
  split at z
  · rename_i hs
    cases z
    exact eqB_of (toDVm_rep D e1) (toDVm_rep E e2) hs.1 hs.2
  · cases z
theorem o_eq : Op2 eqV eqG T := op2_pure fun A m d p e q r D E z => by
  obtain ⟨k, z1, rfl⟩ := Option.map_eq_some_iff.mp z
  exact ⟨.bl k, by unfold eqG; rw [eqVB_rep D E z1]; rfl, by rw [D2]⟩
theorem o_ne : Op2 neV neG T := op2_pure fun A m d p e q r D E z => by
  obtain ⟨k, z1, rfl⟩ := Option.map_eq_some_iff.mp z
  exact ⟨.bl (!k), by unfold neG; rw [eqVB_rep D E z1]; rfl, by rw [D2]⟩
def nonB : DV → Bool
  | .non => true
  | _ => false
def isNV (d e : DV) : Option DV := match e with
  | .non => some (.bl (nonB d))
  | _ => none
def notNV (d e : DV) : Option DV := match e with
  | .non => some (.bl (!nonB d))
  | _ => none
theorem nonB_rep {A : Nat → Prop} {m : Mem} {d : DV} {p : PV} (D : Dt T A m d p) : decide (p = .non) = nonB d := by
  cases d with
  | non => rw [dt_non D]; rfl
  | bl b => rw [dt_bl D]; rfl
  | int b => rw [dt_int D]; rfl
  | str b => rw [dt_str D]; rfl
  | tup ds => obtain ⟨ps, rfl, _⟩ := dt_tup D; rfl
  | lst ds => obtain ⟨k, ps, rfl, _⟩ := dt_lst D; rfl
  | dic kvs =>
    have D : D2 T A m (.dic kvs) p := D
    rw [D2] at D
    obtain ⟨k, rfl, _⟩ := D; rfl
  | tok => rw [show p = .ref T.c from by have D : D2 T A m .tok p := D; rwa [D2] at D]; rfl
theorem o_isN : Op2 isNV isNG T := op2_pure fun A m d p e q r D E z => by
  cases e with
  | non => cases z; rw [dt_non E]; exact ⟨_, rfl, by rw [D2, nonB_rep D]⟩
  | _ => cases z
theorem o_notN : Op2 notNV notNG T := op2_pure fun A m d p e q r D E z => by
  cases e with
  | non => cases z; rw [dt_non E]; exact ⟨_, rfl, by rw [D2, nonB_rep D]⟩
  | _ => cases z

/-! in, of flat values -/
def flD : DV → Option V
  | .non => some .non
  | .bl b => some (.bl b)
  | .int i => some (.int i)
  | .str s => some (.str s)
  | _ => none
def flDs : List DV → Option (List V)
  | [] => some []
  | d :: ds => (flD d).bind fun v => (flDs ds).map fun vs => v :: vs
theorem flD_rep {A : Nat → Prop} {m : Mem} {d : DV} {p : PV} {v : V} (D : Dt T A m d p) (e : flD d = some v) : flP p = some v := by
  cases d with
  | non => rw [dt_non D]; exact e
  | bl b => rw [dt_bl D]; exact e
  | int b => rw [dt_int D]; exact e
  | str b => rw [dt_str D]; exact e
  | _ => cases e
theorem flDs_rep {A : Nat → Prop} {m : Mem} : ∀ {ds : List DV} {ps : List PV} {vs : List V}, D2L T A m ds ps → flDs ds = some vs → flPs ps = some vs
  | [], ps, vs, D, e => by rw [D.inv0]; exact e
  | d :: ds, ps, vs, D, e => by
    obtain ⟨p, r, rfl, h1, h2⟩ := D.inv
    rw [flDs] at e
    obtain ⟨v, e1, e⟩ := Option.bind_eq_some_iff.mp e
    obtain ⟨ws, e2, rfl⟩ := Option.map_eq_some_iff.mp e
    have fl : flP p = some v := by
      cases d with
      | non => rw [d2_non] at h1; rw [h1]; exact e1
      | bl b => rw [d2_bl] at h1; rw [h1]; exact e1
      | int b => rw [d2_int] at h1; rw [h1]; exact e1
      | str b => rw [d2_str] at h1; rw [h1]; exact e1
      | _ => cases e1
    rw [flPs, fl, flDs_rep h2 e2]; rfl
def inVB (d e : DV) : Option Bool := match e with
  | .tup ds => (flD d).bind fun v => (flDs ds).map fun vs => inV v vs
  | .lst ds => (flD d).bind fun v => (flDs ds).map fun vs => inV v vs
  | _ => none
theorem inVB_rep {A : Nat → Prop} {m : Mem} {d e : DV} {p q : PV} {k : Bool} (D : Dt T A m d p) (E : Dt T A m e q) (z : inVB d e = some k) : inB p q m = some k := by
  cases e with
  | tup ds =>
    obtain ⟨v, e1, z⟩ := Option.bind_eq_some_iff.mp z
    obtain ⟨vs, e2, rfl⟩ := Option.map_eq_some_iff.mp z
    obtain ⟨ps, rfl, h⟩ := dt_tup E
    unfold inB
    simp only
    rw [flD_rep D e1, flDs_rep h e2]; rfl
  | lst ds =>
    obtain ⟨v, e1, z⟩ := Option.bind_eq_some_iff.mp z
    obtain ⟨vs, e2, rfl⟩ := Option.map_eq_some_iff.mp z
    obtain ⟨k, ps, rfl, _, _, g, h⟩ := dt_lst E
    unfold inB
    simp only [g]
    rw [flD_rep D e1, flDs_rep h e2]; rfl
  | _ => cases z
def inV2 (d e : DV) : Option DV := (inVB d e).map .bl
def ninV2 (d e : DV) : Option DV := (inVB d e).map fun k => .bl (!k)
theorem o_in : Op2 inV2 inG T := op2_pure fun A m d p e q r D E z => by
  obtain ⟨k, z1, rfl⟩ := Option.map_eq_some_iff.mp z
  exact ⟨.bl k, by unfold inG; rw [inVB_rep D E z1]; rfl, by rw [D2]⟩
theorem o_nin : Op2 ninV2 ninG T := op2_pure fun A m d p e q r D E z => by
  obtain ⟨k, z1, rfl⟩ := Option.map_eq_some_iff.mp z
  exact ⟨.bl (!k), by unfold ninG; rw [inVB_rep D E z1]; rfl, by rw [D2]⟩

/-! subscripts, slices -/
def atD (ds : List DV) (e : DV) : Option DV := match e with
  | .int i => L2.atI ds i
  | _ => none
def kyD : DV → Option Key
  | .int i => some (.inl i)
  | .str s => some (.inr s)
  | _ => none
def valD (kvs : List (Key × Int)) (k : Key) : Option Int := (kvs.find? fun q => decide (q.1 = k)).map (·.2)
def strAt (z : Str) : DV → Option DV
  | .int i => if z.length ≤ sizeLine then (atI z.cps.toList i).map fun c => .str ⟨#[c]⟩ else none
  | _ => none
def ixV : DV → DV → Option DV
  | .tup ds, e => atD ds e
  | .lst ds, e => atD ds e
  | .dic kvs, e => (kyD e).bind fun k => (valD kvs k).map .int
  | .str z, e => strAt z e
  | _, _ => none
theorem D2L.atI {A : Nat → Prop} {m : Mem} {ds : List DV} {ps : List PV} {i : Int} {d : DV} (h : D2L T A m ds ps) (e : L2.atI ds i = some d) : ∃ p, L2.atI ps i = some p ∧ D2 T A m d p := by
  unfold L2.atI at e ⊢
  rw [h.length]
  cases z : ixN ds.length i with
  | none => rw [z] at e; cases e
  | some j =>
    rw [z] at e
    exact h.get e
theorem atD_rep {A : Nat → Prop} {m : Mem} {ds : List DV} {ps : List PV} {e d : DV} {q : PV} (h : D2L T A m ds ps) (E : Dt T A m e q) (z : atD ds e = some d) : ∃ p, seqAt ps q m = some (p, m) ∧ D2 T A m d p := by
  cases e with
  | int i =>
    rw [dt_int E]
    obtain ⟨p, h1, h2⟩ := h.atI z
    exact ⟨p, by simp only [seqAt]; rw [h1]; rfl, h2⟩
  | _ => cases z
theorem valD_rep (k : Key) : ∀ (kvs : List (Key × Int)), valP (kvs.map fun q => (q.1, PV.int q.2)) k = (valD kvs k).map PV.int
  | [] => rfl
  | q :: kvs => by
    have ih := valD_rep k kvs
    unfold valP valD at ih ⊢
    rw [List.map_cons, List.find?_cons, List.find?_cons]
    by_cases e : q.1 = k
    · simp [e]
    · simp only [e, decide_false]
      exact ih
theorem kyD_rep {A : Nat → Prop} {m : Mem} {e : DV} {q : PV} {k : Key} (E : Dt T A m e q) (z : kyD e = some k) : keyOf q = some k := by
  cases e with
  | int i => rw [dt_int E]; exact z
  | str i => rw [dt_str E]; exact z
  | _ => cases z
theorem o_ix : Op2 ixV ixG T := op2_pure fun A m d p e q r D E z => by
  cases d with
  | tup ds =>
    obtain ⟨ps, rfl, h⟩ := dt_tup D
    obtain ⟨p', h1, h2⟩ := atD_rep h E z
    exact ⟨p', by simp only [ixG]; exact h1, h2⟩
  | lst ds =>
    obtain ⟨k, ps, rfl, _, _, g, h⟩ := dt_lst D
    obtain ⟨p', h1, h2⟩ := atD_rep h E z
    exact ⟨p', by simp only [ixG, g]; exact h1, h2⟩
  | dic kvs =>
    have D : D2 T A m (.dic kvs) p := D
    rw [D2] at D
    obtain ⟨k, rfl, _, g⟩ := D
    obtain ⟨kk, z1, z⟩ := Option.bind_eq_some_iff.mp (show (kyD e).bind (fun k => (valD kvs k).map DV.int) = some r from z)
    obtain ⟨i, z2, rfl⟩ := Option.map_eq_some_iff.mp z
    exact ⟨.int i, by simp only [ixG, g]; rw [kyD_rep E z1]; simp only [Option.bind_some]; rw [valD_rep, z2]; rfl, by rw [D2]⟩
  | str s =>
    cases e with
    | int i =>
      replace z : (if s.length ≤ sizeLine then (atI s.cps.toList i).map fun c => DV.str ⟨#[c]⟩ else none) = some r := z
      split at z
      · rename_i hl
        obtain ⟨x, z1, rfl⟩ := Option.map_eq_some_iff.mp z
        rw [dt_str D, dt_int E]
        exact ⟨.str ⟨#[x]⟩, by simp only [ixG]; rw [if_pos hl, z1]; rfl, by rw [D2]⟩
      · cases z
    | _ => cases z
  | _ => cases z
/-- bounds of a slice -/
abbrev O2 := Env2 → Cs → Option (Option Int × Cs)
def SO (T : Tk) (o2 : O2) (o : Ox) : Prop := ∀ A m c B v2 v, WF T A m c → EnvR T A m B v2 v → ∀ r c', o2 v2 c = some (r, c') → ∃ m' A', o v m = some (r, m') ∧ Xt T A m A' m' ∧ WF T A' m' c'
def oN2 : O2 := fun _ c => some (none, c)
def oS2 (a : E2) : O2 := fun v c => (a v c).bind fun r => match r.1 with
  | .int i => some (some i, r.2)
  | _ => none
theorem so_none : SO T oN2 oNone := fun A m c B v2 v w E r c' q => by
  cases q
  exact ⟨m, A, rfl, .refl, w⟩
theorem so_some {a2 : E2} {a : Ex} (h : SX T a2 a) : SO T (oS2 a2) (oSome a) := fun A m c B v2 v w E r c' q => by
  obtain ⟨⟨d, c1⟩, q1, q⟩ := Option.bind_eq_some_iff.mp q
  obtain ⟨p, m1, A1, h1, h2, h3, h4⟩ := h A m c B v2 v w E _ _ q1
  cases d with
  | int i =>
    cases q
    rw [d2_int] at h4
    subst h4
    exact ⟨m1, A1, by unfold oSome; rw [h1]; rfl, h2, h3⟩
  | _ => cases q
def cutD (xs : List DV) (lo hi : Option Int) : List DV := (xs.drop (HT.sIx xs.length 0 lo)).take (HT.sIx xs.length xs.length hi - HT.sIx xs.length 0 lo)
theorem cutD_rep {A : Nat → Prop} {m : Mem} {ds : List DV} {ps : List PV} (h : D2L T A m ds ps) (lo hi : Option Int) : D2L T A m (cutD ds lo hi) (cutP ps lo hi) := by
  unfold cutD cutP
  rw [h.length]
  exact (h.drop _).take _
/-- of tuples, texts -/
def ySl (a : E2) (lo hi : O2) : E2 := fun v c => (a v c).bind fun r => (lo v r.2).bind fun s => (hi v s.2).bind fun t => match r.1 with
  | .tup ds => some (.tup (cutD ds s.1 t.1), t.2)
  | .str z => if z.length ≤ sizeLine then some (.str (cutS z s.1 t.1), t.2) else none
  | _ => none
/-- of lists -/
def ySf (a : E2) (lo hi : O2) : E2 := fun v c => (a v c).bind fun r => (lo v r.2).bind fun s => (hi v s.2).bind fun t => match r.1 with
  | .lst ds => some (.lst (cutD ds s.1 t.1), t.2)
  | _ => none
variable {a2 b2 : E2} {a b : Ex} {lo2 hi2 : O2} {lo hi : Ox}
theorem sx_sl (h : SXp T a2 a) (hl : SO T lo2 lo) (hh : SO T hi2 hi) : SX T (ySl a2 lo2 hi2) (xSl a lo hi) := fun A m c B v2 v w E r c' q => by
  obtain ⟨⟨d, c1⟩, q1, q⟩ := Option.bind_eq_some_iff.mp q
  obtain ⟨⟨i, c2⟩, q2, q⟩ := Option.bind_eq_some_iff.mp q
  obtain ⟨⟨j, c3⟩, q3, q⟩ := Option.bind_eq_some_iff.mp q
  obtain ⟨p, m1, A1, h1, h2, h3, h4⟩ := h A m c B v2 v w E _ _ q1
  obtain ⟨m2, A2, h5, h6, h7⟩ := hl A1 m1 c1 B v2 v h3 (E.x w h2) _ _ q2
  obtain ⟨m3, A3, h8, h9, h10⟩ := hh A2 m2 c2 B v2 v h7 ((E.x w h2).x h3 h6) _ _ q3
  have D := (h4.x h3 h6).x h7 h9
  have er : xSl a lo hi v m = slG p i j m3 := by
    unfold xSl
    rw [h1]; simp only [Option.bind_some]
    rw [h5]; simp only [Option.bind_some]
    rw [h8]; rfl
  rw [er]
  cases d with
  | tup ds =>
    cases q
    obtain ⟨ps, rfl, h⟩ := dt_tup D
    exact ⟨_, m3, A3, rfl, h2.trans (h6.trans h9), h10, d2_tup.mpr ⟨_, rfl, cutD_rep h _ _⟩⟩
  | str z =>
    simp only at q
    split at q
    · rename_i hz
      cases q
      rw [dt_str D]
      exact ⟨_, m3, A3, by simp only [slG]; rw [if_pos hz], h2.trans (h6.trans h9), h10, by rw [D2]⟩
    · cases q
  | _ => cases q
theorem sf_sl (h : SXp T a2 a) (hl : SO T lo2 lo) (hh : SO T hi2 hi) : SXf T (ySf a2 lo2 hi2) (xSl a lo hi) := fun A m c B v2 v w E r c' q => by
  obtain ⟨⟨d, c1⟩, q1, q⟩ := Option.bind_eq_some_iff.mp q
  obtain ⟨⟨i, c2⟩, q2, q⟩ := Option.bind_eq_some_iff.mp q
  obtain ⟨⟨j, c3⟩, q3, q⟩ := Option.bind_eq_some_iff.mp q
  obtain ⟨p, m1, A1, h1, h2, h3, h4⟩ := h A m c B v2 v w E _ _ q1
  obtain ⟨m2, A2, h5, h6, h7⟩ := hl A1 m1 c1 B v2 v h3 (E.x w h2) _ _ q2
  obtain ⟨m3, A3, h8, h9, h10⟩ := hh A2 m2 c2 B v2 v h7 ((E.x w h2).x h3 h6) _ _ q3
  have D := (h4.x h3 h6).x h7 h9
  have er : xSl a lo hi v m = slG p i j m3 := by
    unfold xSl
    rw [h1]; simp only [Option.bind_some]
    rw [h5]; simp only [Option.bind_some]
    rw [h8]; rfl
  rw [er]
  cases d with
  | lst ds =>
    cases q
    obtain ⟨k, ps, rfl, _, _, g, h⟩ := dt_lst D
    obtain ⟨z1, z2, es, k', qs, e1, e2, hk, z3⟩ := fs_new h10 (cutD_rep h i j)
    have x := h2.trans (h6.trans h9)
    exact ⟨_, _, A3, by simp only [slG, g], x.trans z1, z2, es, k', qs, e1, e2, Nat.le_trans x.le hk, z3⟩
  | _ => cases q

/-! built-ins -/
def lenV : DV → Option DV
  | .tup ds => some (.int ds.length)
  | .lst ds => some (.int ds.length)
  | .str s => if s.length ≤ sizeLine then some (.int s.length) else none
  | _ => none
def intV : DV → Option DV
  | .int i => some (.int i)
  | .bl k => some (.int (if k = true then 1 else 0))
  | .str s => (PySem.intText? s).bind fun n => if s.length ≤ 640 then some (.int n) else none
  | _ => none
def tupleV : DV → Option DV
  | .tup ds => some (.tup ds)
  | .lst ds => some (.tup ds)
  | _ => none
def listV : DV → Option DV
  | .tup ds => some (.lst ds)
  | .lst ds => some (.lst ds)
  | _ => none
def blsD : List DV → Option (List Bool)
  | [] => some []
  | .bl b :: ds => (blsD ds).map fun bs => b :: bs
  | _ => none
def anyV : DV → Option DV
  | .lst ds => (blsD ds).map fun bs => .bl (bs.any id)
  | _ => none
def allV : DV → Option DV
  | .lst ds => (blsD ds).map fun bs => .bl (bs.all id)
  | _ => none
def intsD : List DV → Option (List Int)
  | [] => some []
  | .int i :: ds => (intsD ds).map fun is => i :: is
  | _ => none
def maxV : DV → Option DV
  | .lst ds => (intsD ds).bind fun is => is.max?.map .int
  | _ => none
def sumV : DV → Option DV
  | .lst ds => (intsD ds).map fun is => .int is.sum
  | _ => none
def rowD : DV → Option (List Int)
  | .tup ds => intsD ds
  | _ => none
def rowsD : List DV → Option (List (List Int))
  | [] => some []
  | d :: ds => (rowD d).bind fun r => if r = [] then none else (rowsD ds).map fun rs => r :: rs
def rowE (r : List Int) : DV := .tup (r.map .int)
def srtV : DV → Option DV
  | .lst ds => (rowsD ds).map fun rs => .lst ((sortR rs).map rowE)
  | _ => none
theorem blsD_rep {A : Nat → Prop} {m : Mem} : ∀ {ds : List DV} {ps : List PV} {bs : List Bool}, D2L T A m ds ps → blsD ds = some bs → blsP ps = some bs
  | [], ps, bs, h, e => by rw [h.inv0]; exact e
  | d :: ds, ps, bs, h, e => by
    obtain ⟨p, r, rfl, h1, h2⟩ := h.inv
    cases d with
    | bl b =>
      obtain ⟨cs, e1, rfl⟩ := Option.map_eq_some_iff.mp (show (blsD ds).map (fun bs => b :: bs) = some bs from e)
      rw [d2_bl] at h1
      rw [h1, blsP, blsD_rep h2 e1]; rfl
    | _ => cases e
theorem intsD_rep {A : Nat → Prop} {m : Mem} : ∀ {ds : List DV} {ps : List PV} {bs : List Int}, D2L T A m ds ps → intsD ds = some bs → intsP ps = some bs
  | [], ps, bs, h, e => by rw [h.inv0]; exact e
  | d :: ds, ps, bs, h, e => by
    obtain ⟨p, r, rfl, h1, h2⟩ := h.inv
    cases d with
    | int b =>
      obtain ⟨cs, e1, rfl⟩ := Option.map_eq_some_iff.mp (show (intsD ds).map (fun bs => b :: bs) = some bs from e)
      rw [d2_int] at h1
      rw [h1, intsP, intsD_rep h2 e1]; rfl
    | _ => cases e
theorem rowsD_rep {A : Nat → Prop} {m : Mem} : ∀ {ds : List DV} {ps : List PV} {rs : List (List Int)}, D2L T A m ds ps → rowsD ds = some rs → rowsP ps = some rs
  | [], ps, bs, h, e => by rw [h.inv0]; exact e
  | d :: ds, ps, rs, h, e => by
    obtain ⟨p, r, rfl, h1, h2⟩ := h.inv
    rw [rowsD] at e
    obtain ⟨row, e1, e⟩ := Option.bind_eq_some_iff.mp e
    have hr : rowP p = some row := by
      cases d with
      | tup es =>
        obtain ⟨ps, rfl, h1'⟩ := d2_tup.mp h1
        exact intsD_rep h1' e1
      | _ => cases e1
    rw [rowsP, hr]
    simp only [Option.bind_some]
    split at e
    · cases e
    · rename_i hne
      obtain ⟨rs', e2, rfl⟩ := Option.map_eq_some_iff.mp e
      rw [if_neg hne, rowsD_rep h2 e2]; rfl
theorem rowE_rep {A : Nat → Prop} {m : Mem} : ∀ rs : List (List Int), D2L T A m (rs.map rowE) (rs.map rowV)
  | [] => .nil
  | r :: rs => .cons (d2_tup.mpr ⟨_, rfl, D2L.ints r⟩) (rowE_rep rs)
theorem lstB_of {A : Nat → Prop} {m : Mem} {ds : List DV} {p : PV} (D : Dt T A m (.lst ds) p) : ∃ ps, lstB p m = some ps ∧ D2L T A m ds ps ∧ itemsB p m = some ps := by
  obtain ⟨k, ps, rfl, _, _, g, h⟩ := dt_lst D
  exact ⟨ps, by simp only [lstB, g], h, by simp only [itemsB, g]⟩
theorem o_len : OpX lenV (un1 lenG) T := opx_pure fun A m d p r D z => by
  cases d with
  | tup ds =>
    cases z
    obtain ⟨ps, rfl, h⟩ := dt_tup D
    exact ⟨.int ds.length, by simp only [un1, lenG, lenB]; rw [h.length]; rfl, by rw [D2]⟩
  | lst ds =>
    cases z
    obtain ⟨k, ps, rfl, _, _, g, h⟩ := dt_lst D
    exact ⟨.int ds.length, by simp only [un1, lenG, lenB, g]; rw [h.length]; rfl, by rw [D2]⟩
  | str s =>
    simp only [lenV] at z
    split at z
    · rename_i hs
      cases z
      rw [dt_str D]
      exact ⟨_, by simp only [un1, lenG, lenB]; rw [if_pos hs]; rfl, by rw [D2]⟩
    · cases z
  | _ => cases z
theorem o_int : OpX intV (un1 intG) T := opx_pure fun A m d p r D z => by
  cases d with
  | int i => cases z; rw [dt_int D]; exact ⟨_, rfl, by rw [D2]⟩
  | bl i => cases z; rw [dt_bl D]; exact ⟨_, rfl, by rw [D2]⟩
  | str s =>
    obtain ⟨n, h1, h2⟩ := Option.bind_eq_some_iff.mp (show ((PySem.intText? s).bind fun n => if s.length ≤ 640 then some (.int n) else none) = some r from z)
    split at h2
    · rename_i hl
      cases h2
      rw [dt_str D]
      refine ⟨.int n, ?_, by rw [D2]⟩
      show intG [.str s] m = _
      simp only [intG, h1]
      rw [if_pos hl]
    · cases h2
  | _ => cases z
theorem o_tuple : OpX tupleV (un1 tupleG) T := opx_pure fun A m d p r D z => by
  cases d with
  | tup ds =>
    cases z
    obtain ⟨ps, rfl, h⟩ := dt_tup D
    exact ⟨.tup ps, rfl, d2_tup.mpr ⟨ps, rfl, h⟩⟩
  | lst ds =>
    cases z
    obtain ⟨ps, _, h, e⟩ := lstB_of D
    exact ⟨.tup ps, by simp only [un1, tupleG]; rw [e]; rfl, d2_tup.mpr ⟨ps, rfl, h⟩⟩
  | _ => cases z
theorem o_list : OpF listV (un1 listG) T := fun A m c d p w D r z => by
  cases d with
  | tup ds =>
    cases z
    obtain ⟨ps, rfl, h⟩ := dt_tup D
    obtain ⟨z1, z2, z3⟩ := fs_new w h
    exact ⟨_, _, A, rfl, z1, z2, z3⟩
  | lst ds =>
    cases z
    obtain ⟨ps, _, h, e⟩ := lstB_of D
    obtain ⟨z1, z2, z3⟩ := fs_new w h
    exact ⟨_, _, A, by simp only [un1, listG]; rw [e]; rfl, z1, z2, z3⟩
  | _ => cases z
theorem o_any : OpX anyV (un1 anyG) T := opx_pure fun A m d p r D z => by
  cases d with
  | lst ds =>
    obtain ⟨bs, e1, rfl⟩ := Option.map_eq_some_iff.mp (show (blsD ds).map (fun bs => DV.bl (bs.any id)) = some r from z)
    obtain ⟨ps, e, h, _⟩ := lstB_of D
    exact ⟨_, by simp only [un1, anyG]; rw [e]; simp only [Option.bind_some]; rw [blsD_rep h e1]; rfl, by rw [D2]⟩
  | _ => cases z
theorem o_all : OpX allV (un1 allG) T := opx_pure fun A m d p r D z => by
  cases d with
  | lst ds =>
    obtain ⟨bs, e1, rfl⟩ := Option.map_eq_some_iff.mp (show (blsD ds).map (fun bs => DV.bl (bs.all id)) = some r from z)
    obtain ⟨ps, e, h, _⟩ := lstB_of D
    exact ⟨_, by simp only [un1, allG]; rw [e]; simp only [Option.bind_some]; rw [blsD_rep h e1]; rfl, by rw [D2]⟩
  | _ => cases z
theorem o_max : OpX maxV (un1 maxL) T := opx_pure fun A m d p r D z => by
  cases d with
  | lst ds =>
    obtain ⟨is, e1, z⟩ := Option.bind_eq_some_iff.mp (show (intsD ds).bind (fun is => is.max?.map DV.int) = some r from z)
    obtain ⟨k, e2, rfl⟩ := Option.map_eq_some_iff.mp z
    obtain ⟨ps, e, h, _⟩ := lstB_of D
    exact ⟨_, by simp only [un1, maxL]; rw [e]; simp only [Option.bind_some]; rw [intsD_rep h e1]; simp only [Option.bind_some]; rw [e2]; rfl, by rw [D2]⟩
  | _ => cases z
theorem o_sum : OpX sumV (un1 sumG) T := opx_pure fun A m d p r D z => by
  cases d with
  | lst ds =>
    obtain ⟨is, e1, rfl⟩ := Option.map_eq_some_iff.mp (show (intsD ds).map (fun is => DV.int is.sum) = some r from z)
    obtain ⟨ps, e, h, _⟩ := lstB_of D
    exact ⟨_, by simp only [un1, sumG]; rw [e]; simp only [Option.bind_some]; rw [intsD_rep h e1]; rfl, by rw [D2]⟩
  | _ => cases z
theorem o_srt : OpF srtV (un1 srtG) T := fun A m c d p w D r z => by
  cases d with
  | lst ds =>
    obtain ⟨rs, e1, rfl⟩ := Option.map_eq_some_iff.mp (show (rowsD ds).map (fun rs => DV.lst ((sortR rs).map rowE)) = some r from z)
    obtain ⟨ps, e, h, _⟩ := lstB_of D
    obtain ⟨z1, z2, z3⟩ := fs_new w (rowE_rep (T := T) (A := A) (m := m) (sortR rs))
    exact ⟨_, _, A, by simp only [un1, srtG]; rw [e]; simp only [Option.bind_some]; rw [rowsD_rep h e1]; rfl, z1, z2, z3⟩
  | _ => cases z
/-- max(a, default=d) -/
def yMxD (a d : E2) : E2 := fun v c => (a v c).bind fun r => (d v r.2).bind fun s => match r.1 with
  | .lst ds => (intsD ds).map fun is => ((is.max?.map .int).getD s.1, s.2)
  | _ => none
theorem sx_mxD (h : SXp T a2 a) (h' : SX T b2 b) : SX T (yMxD a2 b2) (xMxD a b) := fun A m c B v2 v w E r c' q => by
  obtain ⟨⟨d, c1⟩, q1, q⟩ := Option.bind_eq_some_iff.mp q
  obtain ⟨⟨d', c2⟩, q2, q⟩ := Option.bind_eq_some_iff.mp q
  obtain ⟨p, m1, A1, h1, h2, h3, h4⟩ := h A m c B v2 v w E _ _ q1
  obtain ⟨p', m2, A2, h5, h6, h7, h8⟩ := h' A1 m1 _ B v2 v h3 (E.x w h2) _ _ q2
  cases d with
  | lst ds =>
    obtain ⟨is, e1, q⟩ := Option.map_eq_some_iff.mp q
    cases q
    obtain ⟨ps, e, hh, _⟩ := lstB_of (h4.x h3 h6)
    refine ⟨((is.max?).map PV.int).getD p', m2, A2, ?_, h2.trans h6, h7, ?_⟩
    · unfold xMxD
      rw [h1]; simp only [Option.bind_some]
      rw [h5]; simp only [Option.bind_some]
      rw [e]; simp only [Option.bind_some]
      rw [intsD_rep hh e1]; rfl
    · cases is.max? with
      | none => exact h8
      | some k => show D2 T A2 m2 (.int k) (.int k); rw [D2]
  | _ => cases q
/-- dict(t) -/
def kvsD : List DV → Option (List (Key × Int))
  | [] => some []
  | .tup [k, .int v] :: ds => (kyD k).bind fun kk => (kvsD ds).map fun kvs => (kk, v) :: kvs
  | _ => none
def putD (kvs : List (Key × Int)) (k : Key) (v : Int) : List (Key × Int) := if (kvs.any fun kv => decide (kv.1 = k)) = true then kvs.map (fun kv => if kv.1 = k then (kv.1, v) else kv) else kvs ++ [(k, v)]
def mergeD (acc more : List (Key × Int)) : List (Key × Int) := more.foldl (fun acc kv => putD acc kv.1 kv.2) acc
def dctV : DV → Option DV
  | .tup ds => (kvsD ds).map fun kvs => .dic (mergeD [] kvs)
  | _ => none
abbrev mpI (kvs : List (Key × Int)) : List (Key × PV) := kvs.map fun q => (q.1, PV.int q.2)
theorem putD_map (kvs : List (Key × Int)) (k : Key) (v : Int) : putP (mpI kvs) k (.int v) = mpI (putD kvs k v) := by
  unfold putP putD
  have ea : ((mpI kvs).any fun kv => decide (kv.1 = k)) = (kvs.any fun kv => decide (kv.1 = k)) := by
    unfold mpI
    rw [List.any_map]; rfl
  rw [ea]
  split
  · unfold mpI
    rw [List.map_map, List.map_map]
    refine List.map_congr_left fun q _ => ?_
    simp only [Function.comp]
    split <;> rfl
  · unfold mpI
    rw [List.map_append]; rfl
theorem mergeD_map : ∀ (more acc : List (Key × Int)), mergeP (mpI acc) (mpI more) = mpI (mergeD acc more)
  | [], acc => rfl
  | q :: more, acc => by
    show mergeP (putP (mpI acc) q.1 (.int q.2)) (mpI more) = _
    rw [putD_map, mergeD_map more]; rfl
theorem kvsD_rep {A : Nat → Prop} {m : Mem} : ∀ {ds : List DV} {ps : List PV} {kvs : List (Key × Int)}, D2L T A m ds ps → kvsD ds = some kvs → kvsP ps = some (mpI kvs)
  | [], ps, kvs, h, e => by cases e; rw [h.inv0]; rfl
  | d :: ds, ps, kvs, h, e => by
    obtain ⟨p, r, rfl, h1, h2⟩ := h.inv
    unfold kvsD at e
    split at e
    · cases ‹d :: ds = []›
    · rename_i k v es heq
      obtain ⟨rfl, rfl⟩ := List.cons.inj heq
      obtain ⟨kk, e1, e⟩ := Option.bind_eq_some_iff.mp e
      obtain ⟨kvs', e2, rfl⟩ := Option.map_eq_some_iff.mp e
      obtain ⟨qs, rfl, h1'⟩ := d2_tup.mp h1
      obtain ⟨pk, r1, rfl, w1, w2⟩ := h1'.inv
      obtain ⟨pv, r2, rfl, w3, w4⟩ := w2.inv
      obtain rfl := w4.inv0
      rw [d2_int] at w3
      subst w3
      have hk : keyOf pk = some kk := by
        cases k with
        | int i => rw [d2_int] at w1; rw [w1]; exact e1
        | str i => rw [d2_str] at w1; rw [w1]; exact e1
        | _ => cases e1
      rw [kvsP, hk]
      simp only [Option.bind_some]
      rw [kvsD_rep h2 e2]; rfl
    · cases e
theorem o_dct : OpX dctV (un1 dctG) T := fun A m c d p w D r z => by
  cases d with
  | tup ds =>
    obtain ⟨kvs, e1, rfl⟩ := Option.map_eq_some_iff.mp (show (kvsD ds).map (fun kvs => DV.dic (mergeD [] kvs)) = some r from z)
    obtain ⟨ps, rfl, h⟩ := dt_tup D
    have n : m.length ≠ T.c := fun e => absurd (lt_of w.at_) (by rw [← e]; exact Nat.lt_irrefl _)
    refine ⟨.ref m.length, m ++ [.dic (mpI (mergeD [] kvs))], fun j => A j ∨ j = m.length, ?_, ⟨by simp, fun k l _ => List.getElem?_append_left l, fun _ => .inl, fun j l q => q.elim id fun z => absurd l (by omega)⟩, (w.app _).fz n (by simp), ?_⟩
    · simp only [un1, dctG]
      rw [kvsD_rep h e1]
      simp only [Option.map_some]
      rw [show mergeP [] (mpI kvs) = mpI (mergeD [] kvs) from mergeD_map kvs []]
    · rw [D2]
      exact ⟨m.length, rfl, .inr rfl, by simp⟩
  | _ => cases z
def tyD : DV → Option String
  | .non => some "NoneType"
  | .bl _ => some "bool"
  | .int _ => some "int"
  | .str _ => some "str"
  | .tup _ => some "tuple"
  | .lst _ => some "list"
  | .dic _ => some "dict"
  | .tok => none
def isV (ty : String) (d : DV) : Option DV := (tyD d).bind fun n => (kitB n ty).map fun b => .bl b
theorem o_is {ty : String} : OpX (isV ty) (isG ty) T := opx_pure fun A m d p r D z => by
  obtain ⟨n, e1, z⟩ := Option.bind_eq_some_iff.mp z
  obtain ⟨b, e2, rfl⟩ := Option.map_eq_some_iff.mp z
  have ht : tyN p m = some n := by
    cases d with
    | non => rw [dt_non D]; exact e1
    | bl b => rw [dt_bl D]; exact e1
    | int b => rw [dt_int D]; exact e1
    | str b => rw [dt_str D]; exact e1
    | tup ds => obtain ⟨ps, rfl, _⟩ := dt_tup D; exact e1
    | lst ds => obtain ⟨k, ps, rfl, _, _, g, _⟩ := dt_lst D; simp only [tyN, g]; exact e1
    | dic kvs =>
      have D : D2 T A m (.dic kvs) p := D
      rw [D2] at D
      obtain ⟨k, rfl, _, g⟩ := D
      simp only [tyN, g]; exact e1
    | tok => cases e1
  exact ⟨.bl b, by unfold isG; rw [ht]; simp only [Option.bind_some]; rw [e2]; rfl, by rw [D2]⟩
def kdV (tb : Tab) : DV → Option DV
  | .str z => (tb.lookup z).map fun ws => .tup (ws.map .str)
  | _ => none
theorem d2_strs {A : Nat → Prop} {m : Mem} : ∀ ws : List Str, D2L T A m (ws.map DV.str) (ws.map PV.str)
  | [] => .nil
  | w :: ws => .cons (by rw [D2]) (d2_strs ws)
theorem o_kd {tb : Tab} : OpX (kdV tb) (kdG tb) T := opx_pure fun A m d p r D z => by
  cases d with
  | str s =>
    obtain ⟨ws, e1, rfl⟩ := Option.map_eq_some_iff.mp (show (tb.lookup s).map (fun ws => DV.tup (ws.map .str)) = some r from z)
    rw [dt_str D]
    exact ⟨_, by simp only [kdG]; rw [e1]; rfl, d2_tup.mpr ⟨_, rfl, d2_strs ws⟩⟩
  | _ => cases z
def inKV (tb : Tab) (k : Bool) : DV → Option DV
  | .str z => if (tb.lookup z).isSome = true then some (.bl k) else none
  | _ => none
theorem o_inK {tb : Tab} {k : Bool} : OpX (inKV tb k) (inKd tb k) T := opx_pure fun A m d p r D z => by
  cases d with
  | str s =>
    simp only [inKV] at z
    split at z
    · rename_i hs
      cases z
      rw [dt_str D]
      exact ⟨_, by simp only [inKd]; rw [if_pos hs], by rw [D2]⟩
    · cases z
  | _ => cases z
/-- a op b op' c -/
def yCh (g g' : DV → DV → Option DV) (a b c : E2) : E2 := fun v s => (a v s).bind fun r => (b v r.2).bind fun t => (g r.1 t.1).bind fun k => match k with
  | .bl true => (c v t.2).bind fun u => (g' t.1 u.1).map fun d => (d, u.2)
  | .bl false => some (.bl false, t.2)
  | _ => none
theorem sx_ch {g2 g2' : DV → DV → Option DV} {g g' : PV → PV → Mem → Option (PV × Mem)} {c2 : E2} {c : Ex} (o : Op2 g2 g T) (o' : Op2 g2' g' T) (ha : SXp T a2 a) (hb : SXp T b2 b) (hc : SXp T c2 c) : SX T (yCh g2 g2' a2 b2 c2) (xCh g g' a b c) := fun A m s B v2 v w E r c' q => by
  obtain ⟨⟨d, s1⟩, q1, q⟩ := Option.bind_eq_some_iff.mp q
  obtain ⟨⟨d', s2⟩, q2, q⟩ := Option.bind_eq_some_iff.mp q
  obtain ⟨k, q3, q⟩ := Option.bind_eq_some_iff.mp q
  obtain ⟨p, m1, A1, h1, h2, h3, h4⟩ := ha A m s B v2 v w E _ _ q1
  obtain ⟨p', m2, A2, h5, h6, h7, h8⟩ := hb A1 m1 _ B v2 v h3 (E.x w h2) _ _ q2
  obtain ⟨pk, m3, A3, h9, h10, h11, h12⟩ := o A2 m2 _ _ _ _ _ h7 (h4.x h3 h6) h8 _ q3
  have x := h2.trans (h6.trans h10)
  cases k with
  | bl k =>
    rw [d2_bl] at h12
    subst h12
    have er : ∀ z, ((fun k : PV × Mem => match k.1 with
        | .bl true => (c v k.2).bind fun t => g' p' t.1 t.2
        | .bl false => some (.bl false, k.2)
        | _ => none) (.bl k, m3) = some z) → xCh g g' a b c v m = some z := fun z hz => by
      unfold xCh
      rw [h1]; simp only [Option.bind_some]
      rw [h5]; simp only [Option.bind_some]
      rw [h9]
      exact hz
    cases k with
    | true =>
      obtain ⟨⟨u, s3⟩, q4, q⟩ := Option.bind_eq_some_iff.mp q
      obtain ⟨d4, q5, q⟩ := Option.map_eq_some_iff.mp q
      cases q
      obtain ⟨p4, m4, A4, h13, h14, h15, h16⟩ := hc A3 m3 _ B v2 v h11 (((E.x w h2).x h3 h6).x h7 h10) _ _ q4
      obtain ⟨p5, m5, A5, h17, h18, h19, h20⟩ := o' A4 m4 _ _ _ _ _ h15 ((h8.x h7 h10).x h11 h14) h16 _ q5
      exact ⟨p5, m5, A5, er _ (by simp only; rw [h13]; exact h17), x.trans (h14.trans h18), h19, h20⟩
    | false =>
      cases q
      exact ⟨_, m3, A3, er _ rfl, x, h11, by rw [D2]⟩
  | _ => cases q
/-- two arguments -/
def min2 : DV → DV → Option DV
  | .int i, .int j => some (.int (if j < i then j else i))
  | _, _ => none
def max2 : DV → DV → Option DV
  | .int i, .int j => some (.int (if j > i then j else i))
  | _, _ => none
def bin2 (g : List PV → Mem → Option (PV × Mem)) : PV → PV → Mem → Option (PV × Mem) := fun p q m => g [p, q] m
theorem xA_2 {g : List PV → Mem → Option (PV × Mem)} : xA g (aCons a (aCons b aNil)) = x2 (bin2 g) a b := by
  funext v m
  unfold xA x2 bin2
  simp only [aCons, aNil]
  cases a v m with
  | none => rfl
  | some r =>
    simp only [Option.bind_some]
    cases b v r.2 <;> rfl
theorem sx_A2 {g2 : DV → DV → Option DV} {g : List PV → Mem → Option (PV × Mem)} (o : Op2 g2 (bin2 g) T) (h : SXp T a2 a) (h' : SXp T b2 b) : SX T (y2 g2 a2 b2) (xA g (aCons a (aCons b aNil))) := xA_2 ▸ sx_2 o h h'
theorem o_min2 : Op2 min2 (bin2 minG) T := op2_pure fun A m d p e q r D E z => by
  cases d with
  | int i => cases e with
    | int j => cases z; rw [dt_int D, dt_int E]; exact ⟨_, rfl, by rw [D2]⟩
    | _ => cases z
  | _ => cases z
theorem o_max2 : Op2 max2 (bin2 maxL) T := op2_pure fun A m d p e q r D E z => by
  cases d with
  | int i => cases e with
    | int j => cases z; rw [dt_int D, dt_int E]; exact ⟨_, rfl, by rw [D2]⟩
    | _ => cases z
  | _ => cases z
end
end V2
namespace V2
open PySem Rf L2
theorem sx_gt {T : Tk} (ws : List PySem.Str) : SX T (yC (.tup (ws.map .str))) (xC (.tup (ws.map PV.str))) := sx_c fun _ _ => d2_tup.mpr ⟨_, rfl, d2_strs ws⟩
end V2
end

section
set_option Elab.async false
set_option linter.all false
set_option maxRecDepth 100000
set_option autoImplicit false
namespace V2
open PySem Rf L2
section
variable {T : Tk} {a2 b2 : E2} {a b : Ex} {φ : Bool}
/-! ### methods of texts -/
theorem sx_m1 {g2 : DV → DV → Option DV} {g : Mg} (hc : ∀ d e r, g2 d e = some r → ∃ s, d = .str s) (o : Op2 g2 (fun p q m => g p [q] m) T) (h : SXp T a2 a) (h' : SXp T b2 b) : SX T (y2 g2 a2 b2) (xM chkS g a (aCons b aNil)) := fun A m c B v2 v w E r c' q => by
  obtain ⟨⟨d, c1⟩, q1, q⟩ := Option.bind_eq_some_iff.mp q
  obtain ⟨⟨d', c2⟩, q2, q⟩ := Option.bind_eq_some_iff.mp q
  obtain ⟨d'', q3, q⟩ := Option.map_eq_some_iff.mp q
  cases q
  obtain ⟨p, m1, A1, h1, h2, h3, h4⟩ := h A m c B v2 v w E _ _ q1
  obtain ⟨p', m2, A2, h5, h6, h7, h8⟩ := h' A1 m1 _ B v2 v h3 (E.x w h2) _ _ q2
  obtain ⟨p'', m3, A3, h9, h10, h11, h12⟩ := o A2 m2 _ _ _ _ _ h7 (h4.x h3 h6) h8 _ q3
  obtain ⟨s, hs⟩ := hc _ _ _ q3
  replace hs : d = .str s := hs
  subst hs
  obtain rfl := dt_str h4
  refine ⟨p'', m3, A3, ?_, h2.trans (h6.trans h10), h11, h12⟩
  unfold xM
  rw [h1]
  simp only [Option.bind_some]
  rw [if_pos (show chkS (PV.str s) m1 = true from rfl)]
  simp only [aCons, aNil]
  rw [h5]
  exact h9
theorem sf_m1 {g2 : DV → DV → Option DV} {g : Mg} (hc : ∀ d e r, g2 d e = some r → ∃ s, d = .str s) (o : Op2f g2 (fun p q m => g p [q] m) T) (h : SXp T a2 a) (h' : SXp T b2 b) : SXf T (y2 g2 a2 b2) (xM chkS g a (aCons b aNil)) := fun A m c B v2 v w E r c' q => by
  obtain ⟨⟨d, c1⟩, q1, q⟩ := Option.bind_eq_some_iff.mp q
  obtain ⟨⟨d', c2⟩, q2, q⟩ := Option.bind_eq_some_iff.mp q
  obtain ⟨d'', q3, q⟩ := Option.map_eq_some_iff.mp q
  cases q
  obtain ⟨p, m1, A1, h1, h2, h3, h4⟩ := h A m c B v2 v w E _ _ q1
  obtain ⟨p', m2, A2, h5, h6, h7, h8⟩ := h' A1 m1 _ B v2 v h3 (E.x w h2) _ _ q2
  obtain ⟨p'', m3, A3, h9, h10, h11, ds, k, ps, e1, e2, hk, h12⟩ := o A2 m2 _ _ _ _ _ h7 (h4.x h3 h6) h8 _ q3
  obtain ⟨s, hs⟩ := hc _ _ _ q3
  replace hs : d = .str s := hs
  subst hs
  obtain rfl := dt_str h4
  refine ⟨p'', m3, A3, ?_, h2.trans (h6.trans h10), h11, ds, k, ps, e1, e2, Nat.le_trans h2.le (Nat.le_trans h6.le hk), h12⟩
  unfold xM
  rw [h1]
  simp only [Option.bind_some]
  rw [if_pos (show chkS (PV.str s) m1 = true from rfl)]
  simp only [aCons, aNil]
  rw [h5]
  exact h9
theorem sx_m0 {g2 : DV → Option DV} {g : Mg} (hc : ∀ d r, g2 d = some r → ∃ s, d = .str s) (o : OpX g2 (fun p m => g p [] m) T) (h : SXp T a2 a) : SX T (y1 g2 a2) (xM chkS g a aNil) := fun A m c B v2 v w E r c' q => by
  obtain ⟨⟨d, c1⟩, q1, q⟩ := Option.bind_eq_some_iff.mp q
  obtain ⟨d'', q3, q⟩ := Option.map_eq_some_iff.mp q
  cases q
  obtain ⟨p, m1, A1, h1, h2, h3, h4⟩ := h A m c B v2 v w E _ _ q1
  obtain ⟨p'', m3, A3, h9, h10, h11, h12⟩ := o A1 m1 _ _ _ h3 h4 _ q3
  obtain ⟨s, hs⟩ := hc _ _ q3
  replace hs : d = .str s := hs
  subst hs
  obtain rfl := dt_str h4
  refine ⟨p'', m3, A3, ?_, h2.trans h10, h11, h12⟩
  unfold xM
  rw [h1]
  simp only [Option.bind_some]
  rw [if_pos (show chkS (PV.str s) m1 = true from rfl)]
  exact h9
def splitV : DV → DV → Option DV
  | .str x, .str y => if (y.length == 0) = false ∧ x.length + 2 ≤ sizeLine then some (.lst ((Txt.split x y).map .str)) else none
  | _, _ => none
theorem o_split : Op2f splitV (fun p q m => splitG p [q] m) T := fun A m c d p e q w D E r z => by
  cases d with
  | str x => cases e with
    | str y =>
      replace z : (if (y.length == 0) = false ∧ x.length + 2 ≤ sizeLine then some (DV.lst ((Txt.split x y).map .str)) else none) = some r := z
      split at z
      · rename_i hb
        cases z
        rw [dt_str D, dt_str E]
        obtain ⟨z1, z2, z3⟩ := fs_new w (d2_strs (T := T) (A := A) (m := m) (Txt.split x y))
        refine ⟨_, _, A, ?_, z1, z2, z3⟩
        show splitG (.str x) [.str y] m = _
        unfold splitG
        simp only
        rw [if_pos hb]
      · cases z
    | _ => cases z
  | _ => cases z
theorem c_split (d e r : DV) (h : splitV d e = some r) : ∃ s, d = .str s := by
  cases d with
  | str s => exact ⟨s, rfl⟩
  | _ => cases h
def strsD : List DV → Option (List Str)
  | [] => some []
  | .str y :: ds => (strsD ds).map fun ys => y :: ys
  | _ => none
theorem strsD_rep {A : Nat → Prop} {m : Mem} : ∀ {ds : List DV} {ps : List PV} {ys : List Str}, D2L T A m ds ps → strsD ds = some ys → strsP ps = some ys
  | [], ps, ys, h, e => by rw [h.inv0]; exact e
  | d :: ds, ps, ys, h, e => by
    obtain ⟨p, r, rfl, h1, h2⟩ := h.inv
    cases d with
    | str y =>
      obtain ⟨zs, e1, rfl⟩ := Option.map_eq_some_iff.mp (show (strsD ds).map (fun ys => y :: ys) = some ys from e)
      rw [d2_str] at h1
      subst h1
      unfold strsP
      rw [strsD_rep h2 e1]; rfl
    | _ => cases e
def joinV : DV → DV → Option DV
  | .str x, .lst ds => (strsD ds).bind fun ys => if (ys.map (·.length)).sum + ys.length * x.length ≤ 16777216 then some (.str (Txt.join x ys)) else none
  | _, _ => none
theorem o_join : Op2 joinV (fun p q m => joinG p [q] m) T := op2_pure fun A m d p e q r D E z => by
  cases d with
  | str x => cases e with
    | lst ds =>
      obtain ⟨ys, e1, z⟩ := Option.bind_eq_some_iff.mp (show ((strsD ds).bind fun ys => if (ys.map (·.length)).sum + ys.length * x.length ≤ 16777216 then some (DV.str (Txt.join x ys)) else none) = some r from z)
      split at z
      · rename_i hb
        cases z
        rw [dt_str D]
        obtain ⟨ps, h1, h2, h3⟩ := lstB_of E
        refine ⟨.str (Txt.join x ys), ?_, by rw [D2]⟩
        show joinG (.str x) [q] m = _
        unfold joinG
        simp only
        rw [h3]
        simp only [Option.bind_some]
        rw [strsD_rep h2 e1]
        simp only [Option.bind_some]
        rw [if_pos hb]
      · cases z
    | _ => cases z
  | _ => cases z
theorem c_join (d e r : DV) (h : joinV d e = some r) : ∃ s, d = .str s := by
  cases d with
  | str s => exact ⟨s, rfl⟩
  | _ => cases h
def startsV : DV → DV → Option DV
  | .str x, .str y => some (.bl (Txt.startswith x y))
  | _, _ => none
theorem o_starts : Op2 startsV (fun p q m => startsG p [q] m) T := op2_pure fun A m d p e q r D E z => by
  cases d with
  | str x => cases e with
    | str y => cases z; rw [dt_str D, dt_str E]; exact ⟨_, rfl, by rw [D2]⟩
    | _ => cases z
  | _ => cases z
theorem c_starts (d e r : DV) (h : startsV d e = some r) : ∃ s, d = .str s := by
  cases d with
  | str s => exact ⟨s, rfl⟩
  | _ => cases h
def isasciiV : DV → Option DV
  | .str x => some (.bl (Txt.isascii x))
  | _ => none
theorem o_isascii : OpX isasciiV (fun p m => isasciiG p [] m) T := opx_pure fun A m d p r D z => by
  cases d with
  | str x => cases z; rw [dt_str D]; exact ⟨_, rfl, by rw [D2]⟩
  | _ => cases z
theorem c_isascii (d r : DV) (h : isasciiV d = some r) : ∃ s, d = .str s := by
  cases d with
  | str s => exact ⟨s, rfl⟩
  | _ => cases h
def isdigitV : DV → Option DV
  | .str x => some (.bl (Txt.isdigit x))
  | _ => none
theorem o_isdigit : OpX isdigitV (fun p m => isdigitG p [] m) T := opx_pure fun A m d p r D z => by
  cases d with
  | str x => cases z; rw [dt_str D]; exact ⟨_, rfl, by rw [D2]⟩
  | _ => cases z
theorem c_isdigit (d r : DV) (h : isdigitV d = some r) : ∃ s, d = .str s := by
  cases d with
  | str s => exact ⟨s, rfl⟩
  | _ => cases h
/-! ### str(n), f-strings -/
def strV : DV → Option DV
  | .int i => if i.natAbs < 2 ^ 1900 then some (.str (toString i)) else none
  | _ => none
theorem o_str : OpX strV (un1 strG) T := opx_pure fun A m d p r D z => by
  cases d with
  | int i =>
    replace z : (if i.natAbs < 2 ^ 1900 then some (DV.str (toString i)) else none) = some r := z
    split at z
    · rename_i hb
      cases z
      rw [dt_int D]
      exact ⟨.str (toString i), by show strG [.int i] m = _; unfold strG; simp only; rw [if_pos hb], by rw [D2]⟩
    · cases z
  | _ => cases z
def fmtV : DV → Option DV
  | .str y => if y.length ≤ sizeLine then some (.str y) else none
  | .int i => if i.natAbs < 2 ^ 1900 then some (.str (toString i)) else none
  | _ => none
theorem o_fmt : OpX fmtV fmtG T := opx_pure fun A m d p r D z => by
  cases d with
  | str y =>
    replace z : (if y.length ≤ sizeLine then some (DV.str y) else none) = some r := z
    split at z
    · rename_i hb
      cases z
      rw [dt_str D]
      exact ⟨.str y, by unfold fmtG; simp only; rw [if_pos hb], by rw [D2]⟩
    · cases z
  | int i =>
    replace z : (if i.natAbs < 2 ^ 1900 then some (DV.str (toString i)) else none) = some r := z
    split at z
    · rename_i hb
      cases z
      rw [dt_int D]
      exact ⟨.str (toString i), by unfold fmtG; simp only; rw [if_pos hb], by rw [D2]⟩
    · cases z
  | _ => cases z
def yJs : List E2 → Str → E2
  | [], acc => fun _ c => some (.str acc, c)
  | g :: gs, acc => fun v c => (g v c).bind fun r => match r.1 with
    | .str y => if (acc ++ y).length ≤ sizeLine then yJs gs (acc ++ y) v r.2 else none
    | _ => none
inductive SJ (T : Tk) : List E2 → List Ex → Prop where
  | nil : SJ T [] []
  | cons {e2 : E2} {e : Ex} {es2 : List E2} {es : List Ex} (h : SX T e2 e) (r : SJ T es2 es) : SJ T (e2 :: es2) (e :: es)
theorem sx_js {gs2 : List E2} {gs : List Ex} (h : SJ T gs2 gs) : ∀ acc : Str, SX T (yJs gs2 acc) (xJs gs acc) := by
  induction h with
  | nil => exact fun acc A m c B v2 v w E r c' q => by cases q; exact ⟨.str acc, m, A, rfl, .refl, w, by rw [D2]⟩
  | cons h _ ih =>
    exact fun acc A m c B v2 v w E r c' q => by
      obtain ⟨⟨d, c1⟩, q1, q⟩ := Option.bind_eq_some_iff.mp q
      obtain ⟨p, m1, A1, h1, h2, h3, h4⟩ := h A m c B v2 v w E _ _ q1
      cases d with
      | str y =>
        simp only at q
        split at q
        · rename_i hb
          rw [d2_str] at h4
          subst h4
          obtain ⟨p', m2, A2, h5, h6, h7, h8⟩ := ih (acc ++ y) A1 m1 _ B v2 v h3 (E.x w h2) _ _ q
          refine ⟨p', m2, A2, ?_, h2.trans h6, h7, h8⟩
          unfold xJs
          rw [h1]
          simp only [Option.bind_some]
          rw [if_pos hb]
          exact h5
        · cases q
      | _ => cases q
/-! ### extend -/
def rXe (i : Nat) (a : E2) : S2 := fun v c => (a v c).bind fun r => match v[i]?, r.1 with
  | some (some (.o ds)), .lst es => if ds.length + es.length ≤ sizeLine then some (.nx, v.set i (some (.o (ds ++ es))), r.2) else none
  | _, _ => none
theorem ss_xe {i : Nat} (h : SXp T a2 a) : SS T φ (rXe i a2) (sEx (xM chkL extG (xVar i) (aCons a aNil))) := fun A m c B v2 v w E hB f2 v2' c' q => by
  obtain ⟨⟨d, c1⟩, q1, q⟩ := Option.bind_eq_some_iff.mp q
  obtain ⟨p, m1, A1, h1, h2, h3, h4⟩ := h A m c B v2 v w E _ _ q1
  split at q
  · rename_i ds es hd he
    replace he : d = .lst es := he
    subst he
    split at q
    · rename_i hl
      cases q
      obtain ⟨p0, z1, k, ps, rfl, hk, a', n, g, r⟩ := E.ok i _ hd
      obtain ⟨j, qs, rfl, _, _, gj, rj⟩ := dt_lst h4
      have g1 : m1[k]? = some (.lst ps) := (h2.old k (lt_of g) n).trans g
      obtain ⟨x1, x2, x3⟩ := own_set h3 (E.x w h2) hd z1 ((r.x w h2).append rj)
      refine ⟨.nx, v, _, A1, ?_, (h2.s w hB).trans x1, x2, x3, rfl⟩
      unfold sEx xM xVar
      rw [z1]
      simp only [Option.bind_some]
      have hc : chkL (.ref k) m = true := by unfold chkL lstB; simp only [g]; rfl
      rw [if_pos hc]
      simp only [aCons, aNil]
      rw [h1]
      simp only [Option.bind_some, extG, g1, gj]
      rw [if_pos (by rw [r.length, rj.length]; exact hl)]
      rfl
    · cases q
  · cases q
end
end V2
end

section
set_option Elab.async false
set_option linter.all false
set_option maxRecDepth 100000
set_option autoImplicit false
namespace V2
open PySem Rf L2
section
variable {T : Tk}
/-- len(set(t)), sorted(set(t)) -/
def lenSetV : DV → Option DV
  | .tup ds => (rowsD ds).bind fun rs => if rs.length < 64 then some (.int (RY.uniq rs).length) else none
  | _ => none
theorem o_lenSet : OpX lenSetV lenSetG T := opx_pure fun A m d p r D z => by
  cases d with
  | tup ds =>
    obtain ⟨rs, e1, z⟩ := Option.bind_eq_some_iff.mp (show (rowsD ds).bind (fun rs => if rs.length < 64 then some (DV.int (RY.uniq rs).length) else none) = some r from z)
    split at z
    · rename_i hl
      cases z
      obtain ⟨ps, rfl, h⟩ := dt_tup D
      refine ⟨.int (RY.uniq rs).length, ?_, by rw [D2]⟩
      show (rowsP ps).bind _ = _
      rw [rowsD_rep h e1]
      simp only [Option.bind_some]
      rw [if_pos hl]
    · cases z
  | _ => cases z
def srtSetV : DV → Option DV
  | .tup ds => (strsD ds).bind fun ys => if ys.Nodup ∧ ys.length < 4000 then some (.lst ((RY.srtS ys).map .str)) else none
  | _ => none
theorem o_srtSet : OpF srtSetV srtSetG T := fun A m c d p w D r z => by
  cases d with
  | tup ds =>
    obtain ⟨ys, e1, z⟩ := Option.bind_eq_some_iff.mp (show (strsD ds).bind (fun ys => if ys.Nodup ∧ ys.length < 4000 then some (DV.lst ((RY.srtS ys).map .str)) else none) = some r from z)
    split at z
    · rename_i hl
      cases z
      obtain ⟨ps, rfl, h⟩ := dt_tup D
      obtain ⟨z1, z2, z3⟩ := fs_new w (d2_strs (T := T) (A := A) (m := m) (RY.srtS ys))
      refine ⟨_, _, A, ?_, z1, z2, z3⟩
      show (strsP ps).bind _ = _
      rw [strsD_rep h e1]
      simp only [Option.bind_some]
      rw [if_pos hl]
    · cases z
  | _ => cases z
theorem D2L.rev {A : Nat → Prop} {m : Mem} : ∀ {ds : List DV} {ps : List PV}, D2L T A m ds ps → D2L T A m ds.reverse ps.reverse
  | [], ps, h => by rw [h.inv0]; exact .nil
  | d :: ds, ps, h => by
    obtain ⟨p, r, rfl, h1, h2⟩ := h.inv
    rw [List.reverse_cons, List.reverse_cons]
    exact (D2L.rev h2).append (.one h1)
def revV : DV → Option DV
  | .tup ds => some (.tup ds.reverse)
  | _ => none
theorem o_rev : OpX revV revG T := opx_pure fun A m d p r D z => by
  cases d with
  | tup ds =>
    cases z
    obtain ⟨ps, rfl, h⟩ := dt_tup D
    exact ⟨.tup ps.reverse, rfl, d2_tup.mpr ⟨_, rfl, D2L.rev h⟩⟩
  | _ => cases z
/-- xs.extend(ys), ys a list or a tuple -/
def rXa (i : Nat) (a : E2) : S2 := fun v c => (a v c).bind fun r => match v[i]?, r.1 with
  | some (some (.o ds)), .lst es => if ds.length + es.length ≤ sizeLine then some (.nx, v.set i (some (.o (ds ++ es))), r.2) else none
  | some (some (.o ds)), .tup es => if ds.length + es.length ≤ sizeLine then some (.nx, v.set i (some (.o (ds ++ es))), r.2) else none
  | _, _ => none
variable {a2 : E2} {a : Ex} {φ : Bool}
theorem ss_xa {i : Nat} (h : SXp T a2 a) : SS T φ (rXa i a2) (sEx (xM chkL extAG (xVar i) (aCons a aNil))) := fun A m c B v2 v w E hB f2 v2' c' q => by
  obtain ⟨⟨d, c1⟩, q1, q⟩ := Option.bind_eq_some_iff.mp q
  obtain ⟨p, m1, A1, h1, h2, h3, h4⟩ := h A m c B v2 v w E _ _ q1
  split at q
  · rename_i ds es hd he
    replace he : d = .lst es := he
    subst he
    split at q
    · rename_i hl
      cases q
      obtain ⟨p0, z1, k, ps, rfl, hk, a', n, g, r⟩ := E.ok i _ hd
      obtain ⟨j, qs, rfl, _, _, gj, rj⟩ := dt_lst h4
      have g1 : m1[k]? = some (.lst ps) := (h2.old k (lt_of g) n).trans g
      obtain ⟨x1, x2, x3⟩ := own_set h3 (E.x w h2) hd z1 ((r.x w h2).append rj)
      refine ⟨.nx, v, _, A1, ?_, (h2.s w hB).trans x1, x2, x3, rfl⟩
      unfold sEx xM xVar
      rw [z1]
      simp only [Option.bind_some]
      have hc : chkL (.ref k) m = true := by unfold chkL lstB; simp only [g]; rfl
      rw [if_pos hc]
      simp only [aCons, aNil]
      rw [h1]
      simp only [Option.bind_some, extAG, extG, g1, gj]
      rw [if_pos (by rw [r.length, rj.length]; exact hl)]
      rfl
    · cases q
  · rename_i ds es hd he
    replace he : d = .tup es := he
    subst he
    split at q
    · rename_i hl
      cases q
      obtain ⟨p0, z1, k, ps, rfl, hk, a', n, g, r⟩ := E.ok i _ hd
      obtain ⟨qs, rfl, rj⟩ := dt_tup h4
      have g1 : m1[k]? = some (.lst ps) := (h2.old k (lt_of g) n).trans g
      obtain ⟨x1, x2, x3⟩ := own_set h3 (E.x w h2) hd z1 ((r.x w h2).append rj)
      refine ⟨.nx, v, _, A1, ?_, (h2.s w hB).trans x1, x2, x3, rfl⟩
      unfold sEx xM xVar
      rw [z1]
      simp only [Option.bind_some]
      have hc : chkL (.ref k) m = true := by unfold chkL lstB; simp only [g]; rfl
      rw [if_pos hc]
      simp only [aCons, aNil]
      rw [h1]
      simp only [Option.bind_some, extAG, g1]
      rw [if_pos (by rw [r.length, rj.length]; exact hl)]
      rfl
    · cases q
  · cases q
end
end V2
end

section
set_option Elab.async false
set_option linter.all false
set_option maxRecDepth 100000
namespace V2
open Rf L2 PySem
theorem tne : ¬ ("add" : PySem.Str) = "and" ∧ ¬ ("add" : PySem.Str) = "less" ∧ ¬ ("add" : PySem.Str) = "load" ∧ ¬ ("add" : PySem.Str) = "mul" ∧ ¬ ("add" : PySem.Str) = "out" ∧ ¬ ("add" : PySem.Str) = "store" ∧ ¬ ("add" : PySem.Str) = "sub" ∧ ¬ ("add" : PySem.Str) = "reg" ∧ ¬ ("add" : PySem.Str) = "int" ∧ ¬ ("add" : PySem.Str) = "operand" ∧ ¬ ("add" : PySem.Str) = "target" ∧ ¬ ("add" : PySem.Str) = "memory" ∧ ¬ ("and" : PySem.Str) = "add" ∧ ¬ ("and" : PySem.Str) = "less" ∧ ¬ ("and" : PySem.Str) = "load" ∧ ¬ ("and" : PySem.Str) = "mul" ∧ ¬ ("and" : PySem.Str) = "out" ∧ ¬ ("and" : PySem.Str) = "store" ∧ ¬ ("and" : PySem.Str) = "sub" ∧ ¬ ("and" : PySem.Str) = "reg" ∧ ¬ ("and" : PySem.Str) = "int" ∧ ¬ ("and" : PySem.Str) = "operand" ∧ ¬ ("and" : PySem.Str) = "target" ∧ ¬ ("and" : PySem.Str) = "memory" ∧ ¬ ("less" : PySem.Str) = "add" ∧ ¬ ("less" : PySem.Str) = "and" ∧ ¬ ("less" : PySem.Str) = "load" ∧ ¬ ("less" : PySem.Str) = "mul" ∧ ¬ ("less" : PySem.Str) = "out" ∧ ¬ ("less" : PySem.Str) = "store" ∧ ¬ ("less" : PySem.Str) = "sub" ∧ ¬ ("less" : PySem.Str) = "reg" ∧ ¬ ("less" : PySem.Str) = "int" ∧ ¬ ("less" : PySem.Str) = "operand" ∧ ¬ ("less" : PySem.Str) = "target" ∧ ¬ ("less" : PySem.Str) = "memory" ∧ ¬ ("load" : PySem.Str) = "add" ∧ ¬ ("load" : PySem.Str) = "and" ∧ ¬ ("load" : PySem.Str) = "less" ∧ ¬ ("load" : PySem.Str) = "mul" ∧ ¬ ("load" : PySem.Str) = "out" ∧ ¬ ("load" : PySem.Str) = "store" ∧ ¬ ("load" : PySem.Str) = "sub" ∧ ¬ ("load" : PySem.Str) = "reg" ∧ ¬ ("load" : PySem.Str) = "int" ∧ ¬ ("load" : PySem.Str) = "operand" ∧ ¬ ("load" : PySem.Str) = "target" ∧ ¬ ("load" : PySem.Str) = "memory" ∧ ¬ ("mul" : PySem.Str) = "add" ∧ ¬ ("mul" : PySem.Str) = "and" ∧ ¬ ("mul" : PySem.Str) = "less" ∧ ¬ ("mul" : PySem.Str) = "load" ∧ ¬ ("mul" : PySem.Str) = "out" ∧ ¬ ("mul" : PySem.Str) = "store" ∧ ¬ ("mul" : PySem.Str) = "sub" ∧ ¬ ("mul" : PySem.Str) = "reg" ∧ ¬ ("mul" : PySem.Str) = "int" ∧ ¬ ("mul" : PySem.Str) = "operand" ∧ ¬ ("mul" : PySem.Str) = "target" ∧ ¬ ("mul" : PySem.Str) = "memory" ∧ ¬ ("out" : PySem.Str) = "add" ∧ ¬ ("out" : PySem.Str) = "and" ∧ ¬ ("out" : PySem.Str) = "less" ∧ ¬ ("out" : PySem.Str) = "load" ∧ ¬ ("out" : PySem.Str) = "mul" ∧ ¬ ("out" : PySem.Str) = "store" ∧ ¬ ("out" : PySem.Str) = "sub" ∧ ¬ ("out" : PySem.Str) = "reg" ∧ ¬ ("out" : PySem.Str) = "int" ∧ ¬ ("out" : PySem.Str) = "operand" ∧ ¬ ("out" : PySem.Str) = "target" ∧ ¬ ("out" : PySem.Str) = "memory" ∧ ¬ ("store" : PySem.Str) = "add" ∧ ¬ ("store" : PySem.Str) = "and" ∧ ¬ ("store" : PySem.Str) = "less" ∧ ¬ ("store" : PySem.Str) = "load" ∧ ¬ ("store" : PySem.Str) = "mul" ∧ ¬ ("store" : PySem.Str) = "out" ∧ ¬ ("store" : PySem.Str) = "sub" ∧ ¬ ("store" : PySem.Str) = "reg" ∧ ¬ ("store" : PySem.Str) = "int" ∧ ¬ ("store" : PySem.Str) = "operand" ∧ ¬ ("store" : PySem.Str) = "target" ∧ ¬ ("store" : PySem.Str) = "memory" ∧ ¬ ("sub" : PySem.Str) = "add" ∧ ¬ ("sub" : PySem.Str) = "and" ∧ ¬ ("sub" : PySem.Str) = "less" ∧ ¬ ("sub" : PySem.Str) = "load" ∧ ¬ ("sub" : PySem.Str) = "mul" ∧ ¬ ("sub" : PySem.Str) = "out" ∧ ¬ ("sub" : PySem.Str) = "store" ∧ ¬ ("sub" : PySem.Str) = "reg" ∧ ¬ ("sub" : PySem.Str) = "int" ∧ ¬ ("sub" : PySem.Str) = "operand" ∧ ¬ ("sub" : PySem.Str) = "target" ∧ ¬ ("sub" : PySem.Str) = "memory" ∧ ¬ ("reg" : PySem.Str) = "add" ∧ ¬ ("reg" : PySem.Str) = "and" ∧ ¬ ("reg" : PySem.Str) = "less" ∧ ¬ ("reg" : PySem.Str) = "load" ∧ ¬ ("reg" : PySem.Str) = "mul" ∧ ¬ ("reg" : PySem.Str) = "out" ∧ ¬ ("reg" : PySem.Str) = "store" ∧ ¬ ("reg" : PySem.Str) = "sub" ∧ ¬ ("reg" : PySem.Str) = "int" ∧ ¬ ("reg" : PySem.Str) = "operand" ∧ ¬ ("reg" : PySem.Str) = "target" ∧ ¬ ("reg" : PySem.Str) = "memory" ∧ ¬ ("int" : PySem.Str) = "add" ∧ ¬ ("int" : PySem.Str) = "and" ∧ ¬ ("int" : PySem.Str) = "less" ∧ ¬ ("int" : PySem.Str) = "load" ∧ ¬ ("int" : PySem.Str) = "mul" ∧ ¬ ("int" : PySem.Str) = "out" ∧ ¬ ("int" : PySem.Str) = "store" ∧ ¬ ("int" : PySem.Str) = "sub" ∧ ¬ ("int" : PySem.Str) = "reg" ∧ ¬ ("int" : PySem.Str) = "operand" ∧ ¬ ("int" : PySem.Str) = "target" ∧ ¬ ("int" : PySem.Str) = "memory" ∧ ¬ ("operand" : PySem.Str) = "add" ∧ ¬ ("operand" : PySem.Str) = "and" ∧ ¬ ("operand" : PySem.Str) = "less" ∧ ¬ ("operand" : PySem.Str) = "load" ∧ ¬ ("operand" : PySem.Str) = "mul" ∧ ¬ ("operand" : PySem.Str) = "out" ∧ ¬ ("operand" : PySem.Str) = "store" ∧ ¬ ("operand" : PySem.Str) = "sub" ∧ ¬ ("operand" : PySem.Str) = "reg" ∧ ¬ ("operand" : PySem.Str) = "int" ∧ ¬ ("operand" : PySem.Str) = "target" ∧ ¬ ("operand" : PySem.Str) = "memory" ∧ ¬ ("target" : PySem.Str) = "add" ∧ ¬ ("target" : PySem.Str) = "and" ∧ ¬ ("target" : PySem.Str) = "less" ∧ ¬ ("target" : PySem.Str) = "load" ∧ ¬ ("target" : PySem.Str) = "mul" ∧ ¬ ("target" : PySem.Str) = "out" ∧ ¬ ("target" : PySem.Str) = "store" ∧ ¬ ("target" : PySem.Str) = "sub" ∧ ¬ ("target" : PySem.Str) = "reg" ∧ ¬ ("target" : PySem.Str) = "int" ∧ ¬ ("target" : PySem.Str) = "operand" ∧ ¬ ("target" : PySem.Str) = "memory" ∧ ¬ ("memory" : PySem.Str) = "add" ∧ ¬ ("memory" : PySem.Str) = "and" ∧ ¬ ("memory" : PySem.Str) = "less" ∧ ¬ ("memory" : PySem.Str) = "load" ∧ ¬ ("memory" : PySem.Str) = "mul" ∧ ¬ ("memory" : PySem.Str) = "out" ∧ ¬ ("memory" : PySem.Str) = "store" ∧ ¬ ("memory" : PySem.Str) = "sub" ∧ ¬ ("memory" : PySem.Str) = "reg" ∧ ¬ ("memory" : PySem.Str) = "int" ∧ ¬ ("memory" : PySem.Str) = "operand" ∧ ¬ ("memory" : PySem.Str) = "target" := by
  (repeat' apply And.intro) <;> decide +kernel
theorem tbq : (("add" : PySem.Str) == "add") = true ∧ (("add" : PySem.Str) == "and") = false ∧ (("add" : PySem.Str) == "less") = false ∧ (("add" : PySem.Str) == "load") = false ∧ (("add" : PySem.Str) == "mul") = false ∧ (("add" : PySem.Str) == "out") = false ∧ (("add" : PySem.Str) == "store") = false ∧ (("add" : PySem.Str) == "sub") = false ∧ (("and" : PySem.Str) == "add") = false ∧ (("and" : PySem.Str) == "and") = true ∧ (("and" : PySem.Str) == "less") = false ∧ (("and" : PySem.Str) == "load") = false ∧ (("and" : PySem.Str) == "mul") = false ∧ (("and" : PySem.Str) == "out") = false ∧ (("and" : PySem.Str) == "store") = false ∧ (("and" : PySem.Str) == "sub") = false ∧ (("less" : PySem.Str) == "add") = false ∧ (("less" : PySem.Str) == "and") = false ∧ (("less" : PySem.Str) == "less") = true ∧ (("less" : PySem.Str) == "load") = false ∧ (("less" : PySem.Str) == "mul") = false ∧ (("less" : PySem.Str) == "out") = false ∧ (("less" : PySem.Str) == "store") = false ∧ (("less" : PySem.Str) == "sub") = false ∧ (("load" : PySem.Str) == "add") = false ∧ (("load" : PySem.Str) == "and") = false ∧ (("load" : PySem.Str) == "less") = false ∧ (("load" : PySem.Str) == "load") = true ∧ (("load" : PySem.Str) == "mul") = false ∧ (("load" : PySem.Str) == "out") = false ∧ (("load" : PySem.Str) == "store") = false ∧ (("load" : PySem.Str) == "sub") = false ∧ (("mul" : PySem.Str) == "add") = false ∧ (("mul" : PySem.Str) == "and") = false ∧ (("mul" : PySem.Str) == "less") = false ∧ (("mul" : PySem.Str) == "load") = false ∧ (("mul" : PySem.Str) == "mul") = true ∧ (("mul" : PySem.Str) == "out") = false ∧ (("mul" : PySem.Str) == "store") = false ∧ (("mul" : PySem.Str) == "sub") = false ∧ (("out" : PySem.Str) == "add") = false ∧ (("out" : PySem.Str) == "and") = false ∧ (("out" : PySem.Str) == "less") = false ∧ (("out" : PySem.Str) == "load") = false ∧ (("out" : PySem.Str) == "mul") = false ∧ (("out" : PySem.Str) == "out") = true ∧ (("out" : PySem.Str) == "store") = false ∧ (("out" : PySem.Str) == "sub") = false ∧ (("store" : PySem.Str) == "add") = false ∧ (("store" : PySem.Str) == "and") = false ∧ (("store" : PySem.Str) == "less") = false ∧ (("store" : PySem.Str) == "load") = false ∧ (("store" : PySem.Str) == "mul") = false ∧ (("store" : PySem.Str) == "out") = false ∧ (("store" : PySem.Str) == "store") = true ∧ (("store" : PySem.Str) == "sub") = false ∧ (("sub" : PySem.Str) == "add") = false ∧ (("sub" : PySem.Str) == "and") = false ∧ (("sub" : PySem.Str) == "less") = false ∧ (("sub" : PySem.Str) == "load") = false ∧ (("sub" : PySem.Str) == "mul") = false ∧ (("sub" : PySem.Str) == "out") = false ∧ (("sub" : PySem.Str) == "store") = false ∧ (("sub" : PySem.Str) == "sub") = true := by
  (repeat' apply And.intro) <;> decide +kernel
section
variable {v : Env2} {c : Cs} {a b d : E2} {t u : T2} {r s : S2} {i n : Nat} {as : A2} {F : F2}
theorem q_var : yVar i v c = match v[i]? with
  | some (some (.v d)) => some (d, c)
  | _ => none := rfl
theorem q_pk : yPk i v c = match v[i]? with
  | some (some (.v d)) => some (d, c)
  | some (some (.o ds)) => some (.lst ds, c)
  | _ => none := rfl
theorem q_c {x : DV} : yC x v c = some (x, c) := rfl
theorem q_1 {g : DV → Option DV} : y1 g a v c = (a v c).bind fun r => (g r.1).map fun d => (d, r.2) := rfl
theorem q_2 {g : DV → DV → Option DV} : y2 g a b v c = (a v c).bind fun r => (b v r.2).bind fun s => (g r.1 s.1).map fun d => (d, s.2) := rfl
theorem q_nil : zNil v c = some ([], c) := rfl
theorem q_cons : zCons a as v c = (a v c).bind fun x => (as v x.2).bind fun xs => some (x.1 :: xs.1, xs.2) := rfl
theorem q_call : yCall n F as v c = (as v c).bind fun r => if r.1.length = n then F r.1 r.2 else none := rfl
theorem q_tup : yTup as v c = (as v c).bind fun r => if r.1.length ≤ sizeLine then some (.tup r.1, r.2) else none := rfl
theorem q_lst : yLst as v c = (as v c).bind fun r => if r.1.length ≤ sizeLine then some (.lst r.1, r.2) else none := rfl
theorem q_if : yIf t a b v c = (t v c).bind fun r => if r.1 = true then a v r.2 else b v r.2 := rfl
theorem q_nt : yNt a v c = (a v c).bind fun r => match r.1 with
  | .bl b => some (.bl (!b), r.2)
  | _ => none := rfl
theorem q_an : yAn a b v c = (a v c).bind fun r => match r.1 with
  | .bl k => if k = true then b v r.2 else some (.bl false, r.2)
  | _ => none := rfl
theorem q_or : yOr a b v c = (a v c).bind fun r => match r.1 with
  | .bl k => if k = true then some (.bl true, r.2) else b v r.2
  | _ => none := rfl
theorem q_ubl : uBl a v c = (a v c).bind fun r => match r.1 with
  | .bl b => some (b, r.2)
  | _ => none := rfl
theorem q_unt : uNt t v c = (t v c).map fun r => (!r.1, r.2) := rfl
theorem q_uan : uAn t u v c = (t v c).bind fun r => if r.1 = true then u v r.2 else some (false, r.2) := rfl
theorem q_uor : uOr t u v c = (t v c).bind fun r => if r.1 = true then some (true, r.2) else u v r.2 := rfl
theorem q_uys : uYs v c = some (true, c) := rfl
theorem q_utru : uTru a v c = (a v c).bind fun r => (truV r.1).map fun k => (k, r.2) := rfl
theorem q_nx : rNx v c = some (.nx, v, c) := rfl
theorem q_ct : rCt v c = some (.ct, v, c) := rfl
theorem q_bk : rBk v c = some (.bk, v, c) := rfl
theorem q_sq : rSq r s v c = (r v c).bind fun x => match x.1 with
  | .nx => s x.2.1 x.2.2
  | _ => some x := rfl
theorem q_ex : rEx a v c = (a v c).bind fun r => some (.nx, v, r.2) := rfl
theorem q_rt : rRt a v c = (a v c).bind fun r => some (.rt r.1, v, r.2) := rfl
theorem q_rn : rRn v c = some (.rt .non, v, c) := rfl
theorem q_ro : rRo i v c = match v[i]? with
  | some (some (.o ds)) => some (.rt (.lst ds), v, c)
  | _ => none := rfl
theorem q_rif : rIf t r s v c = (t v c).bind fun x => if x.1 = true then r v x.2 else s v x.2 := rfl
theorem q_as : rAs i a v c = (a v c).bind fun r => some (.nx, v.set i (some (.v r.1)), r.2) := rfl
theorem q_ao : rAo i a v c = (a v c).bind fun r => match r.1 with
  | .lst ds => some (.nx, v.set i (some (.o ds)), r.2)
  | _ => none := rfl
theorem q_ap {g : P2} : rAp g a v c = (a v c).bind fun r => (g r.1 v).map fun v' => (.nx, v', r.2) := rfl
theorem q_fz : rFz i v c = match v[i]? with
  | some (some (.o ds)) => some (.nx, v.set i (some (.v (.lst ds))), c)
  | _ => some (.nx, v, c) := rfl
theorem q_si : rSi i b a v c = (a v c).bind fun r => (b v r.2).bind fun s => match v[i]?, s.1 with
  | some (some (.o ds)), .int z => (ixN ds.length z).map fun j => (.nx, v.set i (some (.o (ds.set j r.1))), s.2)
  | _, _ => none := rfl
theorem q_ae : rAe i a v c = (a v c).bind fun r => match v[i]? with
  | some (some (.o ds)) => if ds.length < sizeLine then some (.nx, v.set i (some (.o (ds ++ [r.1]))), r.2) else none
  | _ => none := rfl
theorem q_for {it : I2} {g : P2} : rFor it g r v c = (it v c).bind fun x => forW g r x.1 v x.2 := rfl
theorem q_jany : jAny a v c = (a v c).bind fun r => (itV r.1).map fun ds => (ds, r.2) := rfl
theorem q_jrg1 : jRg1 a v c = (a v c).bind fun r => match r.1 with
  | .int j => if -(2 ^ 62) ≤ j ∧ j < 2 ^ 62 then some (rangeD 0 j.toNat, r.2) else none
  | _ => none := rfl
theorem q_jrg2 : jRg2 a b v c = (a v c).bind fun r => (b v r.2).bind fun s => match r.1, s.1 with
  | .int i, .int j => if -(2 ^ 62) ≤ i ∧ i < 2 ^ 62 ∧ -(2 ^ 62) ≤ j ∧ j < 2 ^ 62 then some (rangeD i (j - i).toNat, s.2) else none
  | _, _ => none := rfl
theorem q_jen : jEn a v c = (a v c).bind fun r => (itS r.1).map fun ds => (enD 0 ds, r.2) := rfl
theorem q_jzp : jZp a b v c = (a v c).bind fun r => (b v r.2).bind fun s => (itS r.1).bind fun ds => (itS s.1).map fun es => (zipD ds es, s.2) := rfl
theorem q_qnm {x : DV} : qNm i x v = some (v.set i (some (.v x))) := rfl
theorem q_qtp {g : Ps2} {ds : List DV} : qTp n g (.tup ds) v = if ds.length = n then g ds v else none := rfl
theorem q_qnil : qNil [] v = some v := rfl
theorem q_qcons {g : P2} {h : Ps2} {x : DV} {xs : List DV} : qCons g h (x :: xs) v = (g x v).bind fun e => h xs e := rfl
theorem q_lc {vs : List Nat} {it : I2} {g : P2} : yLc vs it g t a v c = (it v c).bind fun r => if r.1.length ≤ sizeLine then (lcW g t a (wipe2 v vs) r.1 r.2).map fun o => (.lst o.1, o.2) else none := rfl
theorem q_lc0 {g : P2} : lcW g t a v [] c = some ([], c) := rfl
theorem q_lc1 {g : P2} {x : DV} {xs : List DV} : lcW g t a v (x :: xs) c = (g x v).bind fun v' => (t v' c).bind fun r => if r.1 = true then (a v' r.2).bind fun s => (lcW g t a v xs s.2).map fun o => (s.1 :: o.1, o.2) else lcW g t a v xs r.2 := rfl
theorem q_for0 {g : P2} : forW g r [] v c = some (.nx, v, c) := rfl
theorem q_for1 {g : P2} {x : DV} {xs : List DV} : forW g r (x :: xs) v c = (g x v).bind fun v' => (r v' c).bind fun s => match s.1 with
    | .nx => forW g r xs s.2.1 s.2.2
    | .ct => forW g r xs s.2.1 s.2.2
    | .bk => some (.nx, s.2)
    | .rt _ => some s := rfl
theorem q_fn {b : S2} {ds : List DV} : fn2 n b ds c = (b (start2 n ds) c).bind fun r => match r.1 with
  | .nx => some (.non, r.2.2)
  | .rt d => some (d, r.2.2)
  | _ => none := rfl
theorem q_fnf {b : S2} {ds : List DV} : fn2f n b ds c = (b (start2 n ds) c).bind fun r => match r.1 with
  | .rt d => some (d, r.2.2)
  | _ => none := rfl
theorem q_start {ds : List DV} : start2 n ds = ds.map (fun d => some (.v d)) ++ List.replicate (n - ds.length) none := rfl
theorem q_on : oN2 v c = some (none, c) := rfl
theorem q_os : oS2 a v c = (a v c).bind fun r => match r.1 with
  | .int i => some (some i, r.2)
  | _ => none := rfl
theorem q_sl {lo hi : O2} : ySl a lo hi v c = (a v c).bind fun r => (lo v r.2).bind fun s => (hi v s.2).bind fun t => match r.1 with
  | .tup ds => some (.tup (cutD ds s.1 t.1), t.2)
  | .str z => if z.length ≤ sizeLine then some (.str (cutS z s.1 t.1), t.2) else none
  | _ => none := rfl
theorem q_mxD : yMxD a b v c = (a v c).bind fun r => (b v r.2).bind fun s => match r.1 with
  | .lst ds => (intsD ds).map fun is => ((is.max?.map .int).getD s.1, s.2)
  | _ => none := rfl
theorem q_wipe1 : wipe2 v [i] = v.set i none := rfl
theorem q_wipe2 {j : Nat} : wipe2 v [i, j] = (v.set j none).set i none := rfl
theorem q_wipe3 {j k : Nat} : wipe2 v [i, j, k] = ((v.set k none).set j none).set i none := rfl
end
/-! comparisons -/
theorem sh_int (i : Int) : SeqAt.shaped (.int i) = true := rfl
theorem sh_bl (i : Bool) : SeqAt.shaped (.bool i) = true := rfl
theorem sh_non : SeqAt.shaped .none = true := rfl
theorem eqVB_int (i j : Int) : eqVB (.int i) (.int j) = some (decide (i = j)) := by
  show eqVBg _ _ = _
  unfold eqVBg; simp only [toDVm, toDV, Option.bind_some, sh_int, and_self, if_true, PyData.eqv]
  first | rfl | (congr 1; rw [Bool.eq_iff_iff]; simp)
theorem eqVB_str (i j : PySem.Str) : eqVB (.str i) (.str j) = some (decide (i = j)) := rfl
theorem eqV_int (i j : Int) : eqV (.int i) (.int j) = some (.bl (decide (i = j))) := by unfold eqV; rw [eqVB_int]; rfl
theorem eqV_str (i j : PySem.Str) : eqV (.str i) (.str j) = some (.bl (decide (i = j))) := by unfold eqV; rw [eqVB_str]; rfl
theorem neV_int (i j : Int) : neV (.int i) (.int j) = some (.bl (!decide (i = j))) := by unfold neV; rw [eqVB_int]; rfl
theorem neV_str (i j : PySem.Str) : neV (.str i) (.str j) = some (.bl (!decide (i = j))) := by unfold neV; rw [eqVB_str]; rfl
/-! in -/
theorem flDs_strs : ∀ ss : List PySem.Str, flDs (ss.map .str) = some (ss.map V.str)
  | [] => rfl
  | s :: ss => by rw [List.map_cons, flDs, flDs_strs ss]; rfl
theorem flDs_ints : ∀ ss : List Int, flDs (ss.map .int) = some (ss.map V.int)
  | [] => rfl
  | s :: ss => by rw [List.map_cons, flDs, flDs_ints ss]; rfl
theorem inVs_str (s : PySem.Str) (ss : List PySem.Str) : L2.inV (.str s) (ss.map V.str) = decide (s ∈ ss) := by
  unfold L2.inV
  rw [List.any_map, Bool.eq_iff_iff]
  simp only [List.any_eq_true, Function.comp, decide_eq_true_eq]
  constructor
  · rintro ⟨x, h1, h2⟩
    have : x = s := by simpa [L2.eqV] using h2
    rw [← this]; exact h1
  · intro h
    exact ⟨s, h, by simp [L2.eqV]⟩
theorem inVs_int (s : Int) (ss : List Int) : L2.inV (.int s) (ss.map V.int) = decide (s ∈ ss) := by
  unfold L2.inV
  rw [List.any_map, Bool.eq_iff_iff]
  simp only [List.any_eq_true, Function.comp, decide_eq_true_eq]
  constructor
  · rintro ⟨x, h1, h2⟩
    have : x = s := by simpa [L2.eqV] using h2
    rw [← this]; exact h1
  · intro h
    exact ⟨s, h, by simp [L2.eqV]⟩
theorem inV2_strs (s : PySem.Str) (ss : List PySem.Str) : inV2 (.str s) (.lst (ss.map .str)) = some (.bl (decide (s ∈ ss))) := by
  unfold inV2 inVB; simp only [flD, Option.bind_some, flDs_strs, Option.map_some, inVs_str]
theorem inV2_strsT (s : PySem.Str) (ss : List PySem.Str) : inV2 (.str s) (.tup (ss.map .str)) = some (.bl (decide (s ∈ ss))) := by
  unfold inV2 inVB; simp only [flD, Option.bind_some, flDs_strs, Option.map_some, inVs_str]
theorem inV2_ints (s : Int) (ss : List Int) : inV2 (.int s) (.lst (ss.map .int)) = some (.bl (decide (s ∈ ss))) := by
  unfold inV2 inVB; simp only [flD, Option.bind_some, flDs_ints, Option.map_some, inVs_int]
theorem inV2_intsT (s : Int) (ss : List Int) : inV2 (.int s) (.tup (ss.map .int)) = some (.bl (decide (s ∈ ss))) := by
  unfold inV2 inVB; simp only [flD, Option.bind_some, flDs_ints, Option.map_some, inVs_int]
theorem blsD_map (bs : List Bool) : blsD (bs.map .bl) = some bs := by
  induction bs with
  | nil => rfl
  | cons b bs ih => rw [List.map_cons, blsD, ih]; rfl
theorem intsD_map (is : List Int) : intsD (is.map .int) = some is := by
  induction is with
  | nil => rfl
  | cons b bs ih => rw [List.map_cons, intsD, ih]; rfl
theorem rowsD_map : ∀ (rs : List (List Int)), (∀ r ∈ rs, r ≠ []) → rowsD (rs.map rowE) = some rs
  | [], _ => rfl
  | r :: rs, h => by
    rw [List.map_cons, rowsD]
    show (intsD (r.map .int)).bind _ = _
    rw [intsD_map]
    simp only [Option.bind_some]
    rw [if_neg (h r List.mem_cons_self), rowsD_map rs fun q m => h q (List.mem_cons_of_mem _ m)]
    rfl
/-! comprehensions and walks whose turns are known -/
theorem lc_map {α : Type} {g : P2} {t : T2} {a : E2} {v : Env2} {c : Cs} (e : α → DV) (f : α → Option DV) : ∀ xs : List α, (∀ x ∈ xs, ∃ v', g (e x) v = some v' ∧ ((f x = none ∧ t v' c = some (false, c)) ∨ ∃ d, f x = some d ∧ t v' c = some (true, c) ∧ a v' c = some (d, c))) →
    lcW g t a v (xs.map e) c = some (xs.filterMap f, c)
  | [], _ => rfl
  | x :: xs, h => by
    have ih := lc_map e f xs fun y m => h y (List.mem_cons_of_mem _ m)
    obtain ⟨v', h1, h2⟩ := h x List.mem_cons_self
    rw [List.map_cons, q_lc1, h1]
    simp only [Option.bind_some]
    rcases h2 with ⟨h2, h3⟩ | ⟨d, h2, h3, h4⟩
    · rw [h3, List.filterMap_cons, h2]
      simp only [Option.bind_some, Bool.false_eq_true, if_false]
      exact ih
    · rw [h3, List.filterMap_cons, h2]
      simp only [Option.bind_some, if_true]
      rw [h4]
      simp only [Option.bind_some]
      rw [ih]; rfl
theorem lc_all {α : Type} {g : P2} {a : E2} {v : Env2} {c : Cs} (e : α → DV) (f : α → DV) (xs : List α) (h : ∀ x ∈ xs, ∃ v', g (e x) v = some v' ∧ a v' c = some (f x, c)) : lcW g uYs a v (xs.map e) c = some (xs.map f, c) := by
  rw [lc_map e (fun x => some (f x)) xs fun x m => let ⟨v', h1, h2⟩ := h x m; ⟨v', h1, .inr ⟨_, rfl, rfl, h2⟩⟩]
  congr 2
  induction xs with
  | nil => rfl
  | cons x xs ih => simp [List.filterMap_cons]
end V2
end

section
set_option Elab.async false
set_option linter.all false
set_option maxRecDepth 100000
set_option autoImplicit false
namespace V2
open PySem Rf L2
section
variable {T : Tk}
/-! a tuple of data in a list -/
def inTVB (d e : DV) : Option Bool := match e with
  | .lst es => (toDV d).bind fun x => (toDVs es).bind fun ys => if SeqAt.shaped x = true ∧ SeqAt.shaped (.list ys) = true then some (ys.any fun z => PyData.eqv z x) else none
  | _ => none
theorem inTVB_rep {A : Nat → Prop} {m : Mem} {d e : DV} {p q : PV} {k : Bool} (D : Dt T A m d p) (E : Dt T A m e q) (z : inTVB d e = some k) : inTB p q m = some k := by
  cases e with
  | lst es =>
    obtain ⟨x, e1, z⟩ := Option.bind_eq_some_iff.mp (show (toDV d).bind _ = some k from z)
    obtain ⟨ys, e2, z⟩ := Option.bind_eq_some_iff.mp z
    have D' : D2 T A m d p := by
      cases d with
      | lst ds => cases e1
      | _ => exact D
    obtain ⟨i, ps, rfl, _, _, g, r⟩ := dt_lst E
    unfold inTB
    simp only [g]
    rw [toDV_rep d p x D' e1]
    simp only [Option.bind_some]
    rw [toDVs_rep es ps ys r e2]
    exact z
  | _ => cases z
def inTV (d e : DV) : Option DV := (inTVB d e).map .bl
def ninTV (d e : DV) : Option DV := (inTVB d e).map fun k => .bl (!k)
theorem o_inT : Op2 inTV inTG T := op2_pure fun A m d p e q r D E z => by
  obtain ⟨k, h, rfl⟩ := Option.map_eq_some_iff.mp z
  exact ⟨.bl k, by unfold inTG; rw [inTVB_rep D E h]; rfl, by rw [D2]⟩
theorem o_ninT : Op2 ninTV ninTG T := op2_pure fun A m d p e q r D E z => by
  obtain ⟨k, h, rfl⟩ := Option.map_eq_some_iff.mp z
  exact ⟨.bl (!k), by unfold ninTG; rw [inTVB_rep D E h]; rfl, by rw [D2]⟩
/-! is, is not of bools -/
def isBV : DV → DV → Option DV
  | .bl a, .bl b => some (.bl (decide (a = b)))
  | _, _ => none
def notBV : DV → DV → Option DV
  | .bl a, .bl b => some (.bl (!decide (a = b)))
  | _, _ => none
theorem o_isB : Op2 isBV isBG T := op2_pure fun A m d p e q r D E z => by
  cases d with
  | bl a => cases e with
    | bl b => cases z; rw [dt_bl D, dt_bl E]; exact ⟨_, rfl, by rw [D2]⟩
    | _ => cases z
  | _ => cases z
theorem o_notB : Op2 notBV notBG T := op2_pure fun A m d p e q r D E z => by
  cases d with
  | bl a => cases e with
    | bl b => cases z; rw [dt_bl D, dt_bl E]; exact ⟨_, rfl, by rw [D2]⟩
    | _ => cases z
  | _ => cases z
end
end V2
namespace V2
open PySem Rf L2
/-! plain values: no object in them -/
def isTup : DV → Bool
  | .tup _ => true
  | _ => false
mutual
def pl : DV → Bool
  | .non => true
  | .bl _ => true
  | .int _ => true
  | .str _ => true
  | .tup ds => plL ds
  | _ => false
def plL : List DV → Bool
  | [] => true
  | d :: ds => pl d && plL ds
end
mutual
def pvd : DV → PV
  | .non => .non
  | .bl b => .bl b
  | .int i => .int i
  | .str s => .str s
  | .tup ds => .tup (pvdL ds)
  | _ => .non
def pvdL : List DV → List PV
  | [] => []
  | d :: ds => pvd d :: pvdL ds
end
mutual
/-- how deep -/
def dp : DV → Nat
  | .tup ds => dpL ds + 1
  | _ => 0
def dpL : List DV → Nat
  | [] => 0
  | d :: ds => max (dp d) (dpL ds)
end
mutual
/-- how many parts -/
def sz : DV → Nat
  | .tup ds => szL ds + 1
  | _ => 1
def szL : List DV → Nat
  | [] => 0
  | d :: ds => sz d + szL ds
end
mutual
/-- all parts -/
def fl : DV → List DV
  | .tup ds => .tup ds :: flL ds
  | d => [d]
def flL : List DV → List DV
  | [] => []
  | d :: ds => fl d ++ flL ds
end
mutual
/-- the part at which the count ends becomes another one; what is left of the count -/
def chD : DV → Int → DV → DV × Int
  | .tup ds, k, o => if k - 1 = 0 then (o, k - 1) else (.tup (chL ds (k - 1) o).1, (chL ds (k - 1) o).2)
  | d, k, o => if k - 1 = 0 then (o, k - 1) else (d, k - 1)
def chL : List DV → Int → DV → List DV × Int
  | [], k, _ => ([], k)
  | d :: ds, k, o => ((chD d k o).1 :: (chL ds (chD d k o).2 o).1, (chL ds (chD d k o).2 o).2)
end
section
variable {T : Tk} {A : Nat → Prop} {m : Mem}
mutual
theorem d2_pv : ∀ (d : DV) (p : PV), pl d = true → (D2 T A m d p ↔ p = pvd d)
  | .non, p, _ => by rw [d2_non, pvd]
  | .bl _, p, _ => by rw [d2_bl, pvd]
  | .int _, p, _ => by rw [d2_int, pvd]
  | .str _, p, _ => by rw [d2_str, pvd]
  | .tup ds, p, h => by
    rw [pl] at h
    rw [d2_tup, pvd]
    constructor
    · rintro ⟨ps, rfl, h'⟩; rw [(d2L_pv ds ps h).mp h']
    · rintro rfl; exact ⟨_, rfl, (d2L_pv ds _ h).mpr rfl⟩
  | .lst _, p, h => by cases h
  | .dic _, p, h => by cases h
  | .tok, p, h => by cases h
theorem d2L_pv : ∀ (ds : List DV) (ps : List PV), plL ds = true → (D2L T A m ds ps ↔ ps = pvdL ds)
  | [], ps, _ => by rw [pvdL]; exact ⟨fun h => h.inv0, fun h => h ▸ .nil⟩
  | d :: ds, ps, h => by
    rw [plL, Bool.and_eq_true] at h
    rw [pvdL]
    constructor
    · intro h'
      obtain ⟨p, r, rfl, a, b⟩ := h'.inv
      rw [(d2_pv d p h.1).mp a, (d2L_pv ds r h.2).mp b]
    · rintro rfl
      exact .cons ((d2_pv d _ h.1).mpr rfl) ((d2L_pv ds _ h.2).mpr rfl)
end
end
theorem plL_iff : ∀ ds : List DV, plL ds = true ↔ ∀ d ∈ ds, pl d = true
  | [] => by simp [plL]
  | d :: ds => by rw [plL, Bool.and_eq_true, plL_iff ds]; simp
theorem dpL_le {n : Nat} : ∀ ds : List DV, dpL ds ≤ n ↔ ∀ d ∈ ds, dp d ≤ n
  | [] => by simp [dpL]
  | d :: ds => by rw [dpL, Nat.max_le, dpL_le ds]; simp
theorem pvdL_map : ∀ ds : List DV, pvdL ds = ds.map pvd
  | [] => rfl
  | d :: ds => by rw [pvdL, pvdL_map ds]; rfl
theorem szL_app : ∀ ds es : List DV, szL (ds ++ es) = szL ds + szL es
  | [], es => by simp [szL]
  | d :: ds, es => by rw [List.cons_append, szL, szL, szL_app ds es]; omega
theorem sz_pos (d : DV) : 1 ≤ sz d := by cases d <;> simp [sz]
theorem len_szL : ∀ ds : List DV, ds.length ≤ szL ds
  | [] => by simp [szL]
  | d :: ds => by have := len_szL ds; have := sz_pos d; rw [szL, List.length_cons]; omega
theorem szL_sub {ds es : List DV} (h : ds.Sublist es) : szL ds ≤ szL es := by
  induction h with
  | slnil => exact Nat.le_refl _
  | cons a _ ih => rw [szL]; omega
  | cons_cons a _ ih => rw [szL, szL]; omega
theorem szL_rev : ∀ ds : List DV, szL ds.reverse = szL ds
  | [] => rfl
  | d :: ds => by rw [List.reverse_cons, szL_app, szL_rev ds, szL, szL, szL]; omega
mutual
theorem fl_len : ∀ d : DV, (fl d).length = sz d
  | .non => by simp [fl, sz]
  | .bl _ => by simp [fl, sz]
  | .int _ => by simp [fl, sz]
  | .str _ => by simp [fl, sz]
  | .tup ds => by rw [fl, sz, List.length_cons, flL_len ds]
  | .lst _ => by simp [fl, sz]
  | .dic _ => by simp [fl, sz]
  | .tok => by simp [fl, sz]
theorem flL_len : ∀ ds : List DV, (flL ds).length = szL ds
  | [] => rfl
  | d :: ds => by rw [flL, szL, List.length_append, fl_len d, flL_len ds]
end
mutual
theorem fl_mem : ∀ (d e : DV), e ∈ fl d → (pl d = true → pl e = true) ∧ dp e ≤ dp d ∧ sz e ≤ sz d
  | .non, e, h => by simp only [fl, List.mem_singleton] at h; subst h; exact ⟨id, Nat.le_refl _, Nat.le_refl _⟩
  | .bl _, e, h => by simp only [fl, List.mem_singleton] at h; subst h; exact ⟨id, Nat.le_refl _, Nat.le_refl _⟩
  | .int _, e, h => by simp only [fl, List.mem_singleton] at h; subst h; exact ⟨id, Nat.le_refl _, Nat.le_refl _⟩
  | .str _, e, h => by simp only [fl, List.mem_singleton] at h; subst h; exact ⟨id, Nat.le_refl _, Nat.le_refl _⟩
  | .tup ds, e, h => by
    rw [fl] at h
    rcases List.mem_cons.mp h with rfl | h
    · exact ⟨id, Nat.le_refl _, Nat.le_refl _⟩
    · obtain ⟨h1, h2, h3⟩ := flL_mem ds e h
      exact ⟨fun z => h1 (by rwa [pl] at z), by rw [dp]; omega, by rw [sz]; omega⟩
  | .lst _, e, h => by simp only [fl, List.mem_singleton] at h; subst h; exact ⟨id, Nat.le_refl _, Nat.le_refl _⟩
  | .dic _, e, h => by simp only [fl, List.mem_singleton] at h; subst h; exact ⟨id, Nat.le_refl _, Nat.le_refl _⟩
  | .tok, e, h => by simp only [fl, List.mem_singleton] at h; subst h; exact ⟨id, Nat.le_refl _, Nat.le_refl _⟩
theorem flL_mem : ∀ (ds : List DV) (e : DV), e ∈ flL ds → (plL ds = true → pl e = true) ∧ dp e ≤ dpL ds ∧ sz e ≤ szL ds
  | [], e, h => by cases h
  | d :: ds, e, h => by
    rw [flL] at h
    rcases List.mem_append.mp h with h | h
    · obtain ⟨h1, h2, h3⟩ := fl_mem d e h
      exact ⟨fun z => h1 (by rw [plL, Bool.and_eq_true] at z; exact z.1), by rw [dpL]; omega, by rw [szL]; omega⟩
    · obtain ⟨h1, h2, h3⟩ := flL_mem ds e h
      exact ⟨fun z => h1 (by rw [plL, Bool.and_eq_true] at z; exact z.2), by rw [dpL]; omega, by rw [szL]; omega⟩
end
theorem fl_ne (d : DV) : fl d ≠ [] := fun h => by have := fl_len d; rw [h] at this; have := sz_pos d; simp at *; omega
theorem ch_leaf (d : DV) (k : Int) (o : DV) (ho : pl o = true) (hd : pl d = true) : pl (if k - 1 = 0 then (o, k - 1) else (d, k - 1)).1 = true ∧ dp (if k - 1 = 0 then (o, k - 1) else (d, k - 1)).1 ≤ dp d + dp o ∧ (if k - 1 = 0 then (o, k - 1) else (d, k - 1)).2 ≤ k - 1 ∧ (sz (if k - 1 = 0 then (o, k - 1) else (d, k - 1)).1 ≤ sz d + (if 1 ≤ k ∧ (if k - 1 = 0 then (o, k - 1) else (d, k - 1)).2 ≤ 0 then sz o else 0)) := by
  by_cases h : k - 1 = 0
  · simp only [if_pos h]
    refine ⟨ho, by omega, by omega, ?_⟩
    rw [if_pos ⟨by omega, by omega⟩]; omega
  · simp only [if_neg h]
    exact ⟨hd, by omega, by omega, by omega⟩
mutual
theorem ch_ok : ∀ (d : DV) (k : Int) (o : DV), pl o = true → pl d = true → pl (chD d k o).1 = true ∧ dp (chD d k o).1 ≤ dp d + dp o ∧ (chD d k o).2 ≤ k - 1 ∧ (sz (chD d k o).1 ≤ sz d + (if 1 ≤ k ∧ (chD d k o).2 ≤ 0 then sz o else 0))
  | .tup ds, k, o, ho, hd => by
    rw [pl] at hd
    rw [chD]
    by_cases h : k - 1 = 0
    · rw [if_pos h]
      refine ⟨ho, by show dp o ≤ _; omega, by show k - 1 ≤ _; omega, ?_⟩
      show sz o ≤ _
      rw [if_pos ⟨by omega, by show k - 1 ≤ 0; omega⟩]; omega
    · rw [if_neg h]
      obtain ⟨h1, h2, h3, h4⟩ := chL_ok ds (k - 1) o ho hd
      refine ⟨by show pl (.tup _) = true; rw [pl]; exact h1, by show dp (.tup _) ≤ _; rw [dp, dp]; omega, h3, ?_⟩
      show sz (.tup _) ≤ _
      rw [sz, sz]
      have : (chL ds (k - 1) o).2 = ((.tup (chL ds (k - 1) o).1, (chL ds (k - 1) o).2) : DV × Int).2 := rfl
      rw [← this]
      split at h4 <;> split <;> omega
  | .non, k, o, ho, hd => ch_leaf _ k o ho hd
  | .bl _, k, o, ho, hd => ch_leaf _ k o ho hd
  | .int _, k, o, ho, hd => ch_leaf _ k o ho hd
  | .str _, k, o, ho, hd => ch_leaf _ k o ho hd
  | .lst _, k, o, ho, hd => by cases hd
  | .dic _, k, o, ho, hd => by cases hd
  | .tok, k, o, ho, hd => by cases hd
theorem chL_ok : ∀ (ds : List DV) (k : Int) (o : DV), pl o = true → plL ds = true → plL (chL ds k o).1 = true ∧ dpL (chL ds k o).1 ≤ dpL ds + dp o ∧ (chL ds k o).2 ≤ k ∧ (szL (chL ds k o).1 ≤ szL ds + (if 1 ≤ k ∧ (chL ds k o).2 ≤ 0 then sz o else 0))
  | [], k, o, ho, hd => ⟨rfl, by simp [chL, dpL], by simp [chL], by simp [chL, szL]⟩
  | d :: ds, k, o, ho, hd => by
    rw [plL, Bool.and_eq_true] at hd
    obtain ⟨h1, h2, h3, h4⟩ := ch_ok d k o ho hd.1
    obtain ⟨g1, g2, g3, g4⟩ := chL_ok ds (chD d k o).2 o ho hd.2
    rw [chL]
    refine ⟨by show plL (_ :: _) = true; rw [plL, h1, g1]; rfl, by show dpL (_ :: _) ≤ _; rw [dpL, dpL]; omega, by show (chL ds (chD d k o).2 o).2 ≤ _; omega, ?_⟩
    show szL (_ :: _) ≤ _
    rw [szL, szL]
    have : (chL ds (chD d k o).2 o).2 = (((chD d k o).1 :: (chL ds (chD d k o).2 o).1, (chL ds (chD d k o).2 o).2) : List DV × Int).2 := rfl
    rw [← this]
    split at h4 <;> split at g4 <;> split <;> omega
end
end V2
end

section
set_option Elab.async false
set_option linter.all false
set_option maxRecDepth 100000
set_option autoImplicit false
namespace V2
open PySem Rf L2
section
variable {T : Tk}
/-- len(set(t)), t a tuple or a list of rows of ints -/
def lenSetW : DV → Option DV
  | .tup ds => (rowsD ds).bind fun rs => if rs.length < 64 then some (.int (RY.uniq rs).length) else none
  | .lst ds => (rowsD ds).bind fun rs => if rs.length < 64 then some (.int (RY.uniq rs).length) else none
  | _ => none
theorem o_lenSetW : OpX lenSetW lenSetA T := opx_pure fun A m d p r D z => by
  have go : ∀ (ds : List DV) (ps : List PV), D2L T A m ds ps → ((rowsD ds).bind fun rs => if rs.length < 64 then some (DV.int (RY.uniq rs).length) else none) = some r → ∃ k : Int, r = .int k ∧ ((rowsP ps).bind fun rs => if rs.length < 64 then some (PV.int (RY.uniq rs).length, m) else none) = some (.int k, m) := by
    intro ds ps h z
    obtain ⟨rs, e1, z⟩ := Option.bind_eq_some_iff.mp z
    split at z
    · rename_i hl
      cases z
      refine ⟨_, rfl, ?_⟩
      rw [rowsD_rep h e1]
      simp only [Option.bind_some]
      rw [if_pos hl]
    · cases z
  cases d with
  | tup ds =>
    obtain ⟨ps, rfl, h⟩ := dt_tup D
    obtain ⟨k, rfl, e⟩ := go ds ps h z
    exact ⟨.int k, e, by rw [D2]⟩
  | lst ds =>
    obtain ⟨i, ps, rfl, _, _, g, h⟩ := dt_lst D
    obtain ⟨k, rfl, e⟩ := go ds ps h z
    exact ⟨.int k, by unfold lenSetA; simp only [g]; exact e, by rw [D2]⟩
  | _ => cases z
end
end V2
end

section
set_option Elab.async false
set_option linter.all false
set_option maxRecDepth 100000
set_option autoImplicit false
namespace V2
open PySem Rf L2
section
variable {T : Tk}
/-- sorted(set(t)), t a tuple of texts -/
def srtSetW : DV → Option DV
  | .tup ds => (strsD ds).bind fun ys => if ys.length < 4000 then some (.lst ((RY.srtS (RY.dd ys)).map .str)) else none
  | _ => none
theorem o_srtSetW : OpF srtSetW srtSetD T := fun A m c d p w D r z => by
  cases d with
  | tup ds =>
    obtain ⟨ys, e1, z⟩ := Option.bind_eq_some_iff.mp (show (strsD ds).bind (fun ys => if ys.length < 4000 then some (DV.lst ((RY.srtS (RY.dd ys)).map .str)) else none) = some r from z)
    split at z
    · rename_i hl
      cases z
      obtain ⟨ps, rfl, h⟩ := dt_tup D
      obtain ⟨z1, z2, z3⟩ := fs_new w (d2_strs (T := T) (A := A) (m := m) (RY.srtS (RY.dd ys)))
      refine ⟨_, _, A, ?_, z1, z2, z3⟩
      show (strsP ps).bind _ = _
      rw [strsD_rep h e1]
      simp only [Option.bind_some]
      rw [if_pos hl]
    · cases z
  | _ => cases z
/-! a tuple some times -/
theorem D2L.rep {A : Nat → Prop} {m : Mem} {ds : List DV} {ps : List PV} (h : D2L T A m ds ps) : ∀ k : Nat, D2L T A m (List.replicate k ds).flatten (List.replicate k ps).flatten
  | 0 => .nil
  | k + 1 => by
    rw [List.replicate_succ, List.replicate_succ, List.flatten_cons, List.flatten_cons]
    exact h.append (D2L.rep h k)
def tmulV : DV → DV → Option DV
  | .tup ds, .int k => if ds.isEmpty = false ∧ 2 ≤ k ∧ k ≤ 1000 ∧ ds.length ≤ 1000 then some (.tup (List.replicate k.toNat ds).flatten) else none
  | _, _ => none
theorem o_tmul : Op2 tmulV tmulG T := op2_pure fun A m d p e q r D E z => by
  cases d with
  | tup ds => cases e with
    | int k =>
      obtain ⟨ps, rfl, h⟩ := dt_tup D
      obtain rfl := dt_int E
      simp only [tmulV] at z
      split at z
      · rename_i c
        cases z
        refine ⟨_, ?_, d2_tup.mpr ⟨_, rfl, D2L.rep h k.toNat⟩⟩
        have hne : ps ≠ [] := fun e => by
          have := h.empty
          rw [c.1, e] at this
          cases this
        unfold tmulG
        simp only
        rw [if_pos ⟨hne, c.2.1, c.2.2.1, by rw [h.length]; exact c.2.2.2⟩]
      · cases z
    | _ => cases z
  | _ => cases z
end
open PyData in
mutual
/-- texts that may stand in data -/
def okS : DV → Bool
  | .str s => strOk s
  | .tup ds => okSL ds
  | _ => true
def okSL : List DV → Bool
  | [] => true
  | d :: ds => okS d && okSL ds
end
theorem okSL_iff : ∀ ds : List DV, okSL ds = true ↔ ∀ d ∈ ds, okS d = true
  | [] => by simp [okSL]
  | d :: ds => by rw [okSL, Bool.and_eq_true, okSL_iff ds]; simp
mutual
theorem fl_okS : ∀ (d e : DV), okS d = true → e ∈ fl d → okS e = true
  | .tup ds, e, h, m => by
    rw [fl] at m
    rcases List.mem_cons.mp m with rfl | m
    · exact h
    · exact flL_okS ds e (by rwa [okS] at h) m
  | .non, e, h, m => by simp only [fl, List.mem_singleton] at m; subst m; exact h
  | .bl _, e, h, m => by simp only [fl, List.mem_singleton] at m; subst m; exact h
  | .int _, e, h, m => by simp only [fl, List.mem_singleton] at m; subst m; exact h
  | .str _, e, h, m => by simp only [fl, List.mem_singleton] at m; subst m; exact h
  | .lst _, e, h, m => by simp only [fl, List.mem_singleton] at m; subst m; exact h
  | .dic _, e, h, m => by simp only [fl, List.mem_singleton] at m; subst m; exact h
  | .tok, e, h, m => by simp only [fl, List.mem_singleton] at m; subst m; exact h
theorem flL_okS : ∀ (ds : List DV) (e : DV), okSL ds = true → e ∈ flL ds → okS e = true
  | [], e, h, m => by cases m
  | d :: ds, e, h, m => by
    rw [okSL, Bool.and_eq_true] at h
    rw [flL] at m
    rcases List.mem_append.mp m with m | m
    · exact fl_okS d e h.1 m
    · exact flL_okS ds e h.2 m
end
theorem okS_leaf (d : DV) (k : Int) (o : DV) (ho : okS o = true) (hd : okS d = true) : okS (if k - 1 = 0 then (o, k - 1) else (d, k - 1)).1 = true := by
  by_cases h : k - 1 = 0
  · simp only [if_pos h]; exact ho
  · simp only [if_neg h]; exact hd
mutual
theorem ch_okS : ∀ (d : DV) (k : Int) (o : DV), okS o = true → okS d = true → okS (chD d k o).1 = true
  | .tup ds, k, o, ho, hd => by
    rw [okS] at hd
    rw [chD]
    by_cases h : k - 1 = 0
    · rw [if_pos h]; exact ho
    · rw [if_neg h]
      show okS (.tup _) = true
      rw [okS]
      exact chL_okS ds (k - 1) o ho hd
  | .non, k, o, ho, hd => okS_leaf _ k o ho hd
  | .bl _, k, o, ho, hd => okS_leaf _ k o ho hd
  | .int _, k, o, ho, hd => okS_leaf _ k o ho hd
  | .str _, k, o, ho, hd => okS_leaf _ k o ho hd
  | .lst _, k, o, ho, hd => okS_leaf _ k o ho hd
  | .dic _, k, o, ho, hd => okS_leaf _ k o ho hd
  | .tok, k, o, ho, hd => okS_leaf _ k o ho hd
theorem chL_okS : ∀ (ds : List DV) (k : Int) (o : DV), okS o = true → okSL ds = true → okSL (chL ds k o).1 = true
  | [], k, o, ho, hd => rfl
  | d :: ds, k, o, ho, hd => by
    rw [okSL, Bool.and_eq_true] at hd
    rw [chL]
    show okSL (_ :: _) = true
    rw [okSL, ch_okS d k o ho hd.1, chL_okS ds _ o ho hd.2]
    rfl
end
open PyData in
mutual
theorem lay_of : ∀ (d : DV), pl d = true → okS d = true → ∃ x, toDV d = some x ∧ x.canLay0 = true ∧ x.depth ≤ dp d
  | .non, _, _ => ⟨_, rfl, rfl, by simp [depth]⟩
  | .bl _, _, _ => ⟨_, rfl, rfl, by simp [depth]⟩
  | .int _, _, _ => ⟨_, rfl, rfl, by simp [depth]⟩
  | .str s, _, h => ⟨_, rfl, by rw [okS] at h; simp [canLay0, h], by simp [depth]⟩
  | .tup ds, hp, h => by
    rw [pl] at hp
    rw [okS] at h
    obtain ⟨xs, e, h1, h2⟩ := layL_of ds hp h
    refine ⟨.tuple xs, by rw [toDV, e]; rfl, by simpa [canLay0] using h1, ?_⟩
    simp only [depth, dp]; omega
  | .lst _, hp, _ => by cases hp
  | .dic _, hp, _ => by cases hp
  | .tok, hp, _ => by cases hp
theorem layL_of : ∀ (ds : List DV), plL ds = true → okSL ds = true → ∃ xs, toDVs ds = some xs ∧ canLayAll0 xs = true ∧ depthAll xs ≤ dpL ds
  | [], _, _ => ⟨[], rfl, by simp [canLayAll0], by simp [depthAll]⟩
  | d :: ds, hp, h => by
    rw [plL, Bool.and_eq_true] at hp
    rw [okSL, Bool.and_eq_true] at h
    obtain ⟨x, e1, h1, h2⟩ := lay_of d hp.1 h.1
    obtain ⟨xs, e2, h3, h4⟩ := layL_of ds hp.2 h.2
    refine ⟨x :: xs, by rw [toDVs, e1, e2]; rfl, by simp [canLayAll0, h1, h3], ?_⟩
    simp only [depthAll, dpL]; omega
end
end V2
end

section
set_option Elab.async false
set_option linter.all false
set_option maxRecDepth 100000
namespace Gen
open PySem PySem.Spec L2 Rf
def b_law_start : Sx :=
  (sRt (xA lstG (aCons (xLcP (List.map (·.2) ([("cell", 1)] : List (PySem.Str × Nat))) (iAny (xSl (xVar 0) oNone (oSome (xC (.int (63)))))) (pNm 1) tYs (xA intG (aCons (xVar 1) aNil))) (aCons (xC (.int (0))) (aCons (xC (.int (0))) (aCons (xC (.int (0))) (aCons (xC (.int (20))) aNil)))))))
def f_law_start : Fn := fnF 2 b_law_start
def b_law_kinds : Sx :=
  (sRt (xA lstG (aCons (xC (.str "add")) (aCons (xC (.str "and")) (aCons (xC (.str "less")) (aCons (xC (.str "load")) (aCons (xC (.str "mul")) (aCons (xC (.str "out")) (aCons (xC (.str "store")) (aCons (xC (.str "sub")) aNil))))))))))
def f_law_kinds : Fn := fnF 0 b_law_kinds
def b_law_whole : Sx :=
  (sRt (xAn (x1 (isG "int") (xVar 0)) (xNt (x1 (isG "bool") (xVar 0)))))
def f_law_whole : Fn := fnF 1 b_law_whole
def b_law_good : Sx :=
  (sSq (sIf (tOr' (tNt (tTru (x1 (isG "tuple") (xVar 0)))) (tBl (x2 neG (xA lenG (aCons (xVar 0) aNil)) (xC (.int (3)))))) (sRt (xC (.bl false))) sNx)
    (sSq (sAs (xVar 0) (gSq 3 (gsCons (gNm 3) (gsCons (gNm 4) (gsCons (gNm 5) gsNil)))))
    (sSq (sIf (tOr' (tNt (tTru (xCall 1 f_law_whole (aCons (xVar 3) aNil)))) (tOr' (tBl (x2 ltG (xVar 3) (xC (.int (1))))) (tOr' (tBl (x2 gtG (xVar 3) (xC (.int (16))))) (tOr' (tNt (tTru (x1 (isG "tuple") (xVar 4)))) (tNt (tTru (x1 (isG "tuple") (xVar 5)))))))) (sRt (xC (.bl false))) sNx)
    (sSq (sIf (tOr' (tBl (x2 ltG (xA lenG (aCons (xVar 4) aNil)) (xC (.int (1))))) (tOr' (tBl (x2 gtG (xA lenG (aCons (xVar 4) aNil)) (xC (.int (6))))) (tBl (x2 neG (xA lenG (aCons (xVar 5) aNil)) (xC (.int (8))))))) (sRt (xC (.bl false))) sNx)
    (sSq (sFor (iAny (xVar 4)) (gNm 1) (sIf (tOr' (tNt (tTru (x1 (isG "tuple") (xVar 1)))) (tOr' (tNt (tTru (xA allG (aCons (xLcP (List.map (·.2) ([("kind", 7)] : List (PySem.Str × Nat))) (iAny (xVar 1)) (pNm 7) tYs (x2 inTG (xVar 7) (xCall 0 f_law_kinds aNil))) aNil)))) (tBl (x2 neG (xA listG (aCons (xVar 1) aNil)) (x1 srtSetD (xVar 1)))))) (sRt (xC (.bl false))) sNx))
    (sSq (sFor (iRg (aCons (xC (.int (8))) aNil)) (gNm 2) (sSq (sAs (x2 ixG (xVar 5) (xVar 2)) (gNm 6))
    (sSq (sIf (tOr' (tNt (tTru (x1 (isG "tuple") (xVar 6)))) (tOr' (tBl (x2 neG (xA lenG (aCons (xVar 6) aNil)) (xC (.int (2))))) (tBl (x2 neG (x2 ixG (xVar 6) (xC (.int (0)))) (x2 ixG (xCall 0 f_law_kinds aNil) (xVar 2)))))) (sRt (xC (.bl false))) sNx)
    (sIf (tOr' (tNt (tTru (xCall 1 f_law_whole (aCons (x2 ixG (xVar 6) (xC (.int (1)))) aNil)))) (tOr' (tBl (x2 ltG (x2 ixG (xVar 6) (xC (.int (1)))) (xC (.int (1))))) (tBl (x2 gtG (x2 ixG (xVar 6) (xC (.int (1)))) (xC (.int (9))))))) (sRt (xC (.bl false))) sNx))))
    (sRt (xA allG (aCons (xLcP (List.map (·.2) ([("kind", 7)] : List (PySem.Str × Nat))) (iAny (xCall 0 f_law_kinds aNil)) (pNm 7) tYs (xA anyG (aCons (xLcP (List.map (·.2) ([("slot", 1)] : List (PySem.Str × Nat))) (iAny (xVar 4)) (pNm 1) tYs (x2 inG (xVar 7) (xVar 1))) aNil))) aNil)))))))))
def f_law_good : Fn := fnF 8 b_law_good
def b_is_number : Sx :=
  (sRt (xAn (x1 (isG "int") (xVar 0)) (xNt (x1 (isG "bool") (xVar 0)))))
def f_is_number : Fn := fnF 1 b_is_number
def b_is_kind : Sx :=
  (sRt (xAn (x1 (isG "str") (xVar 0)) (x2 inG (xVar 0) (xC (.tup ((["add", "and", "less", "load", "mul", "out", "store", "sub"] : List PySem.Str).map PV.str))))))
def f_is_kind : Fn := fnF 1 b_is_kind
def b_are_kinds : Sx :=
  (sSq (sIf (tOr' (tNt (tTru (x1 (isG "tuple") (xVar 0)))) (tNt (tTru (xA allG (aCons (xLcP (List.map (·.2) ([("kind", 1)] : List (PySem.Str × Nat))) (iAny (xVar 0)) (pNm 1) tYs (xCall 1 f_is_kind (aCons (xVar 1) aNil))) aNil))))) (sRt (xC (.bl false))) sNx)
    (sRt (x2 eqG (xA listG (aCons (xVar 0) aNil)) (x1 srtSetD (xVar 0)))))
def f_are_kinds : Fn := fnF 2 b_are_kinds
def b_are_slots : Sx :=
  (sSq (sIf (tOr' (tNt (tTru (x1 (isG "tuple") (xVar 0)))) (tNt (tTru (xA allG (aCons (xLcP (List.map (·.2) ([("slot", 2)] : List (PySem.Str × Nat))) (iAny (xVar 0)) (pNm 2) tYs (xCall 1 f_are_kinds (aCons (xVar 2) aNil))) aNil))))) (sRt (xC (.bl false))) sNx)
    (sRt (xA allG (aCons (xLcP (List.map (·.2) ([("kind", 1)] : List (PySem.Str × Nat))) (iAny (xC (.tup ((["add", "and", "less", "load", "mul", "out", "store", "sub"] : List PySem.Str).map PV.str)))) (pNm 1) tYs (xA anyG (aCons (xLcP (List.map (·.2) ([("slot", 2)] : List (PySem.Str × Nat))) (iAny (xVar 0)) (pNm 2) tYs (x2 inG (xVar 1) (xVar 2))) aNil))) aNil))))
def f_are_slots : Fn := fnF 3 b_are_slots
def b_is_tuple : Sx :=
  (sRt (xAn (x1 (isG "tuple") (xVar 0)) (x2 eqG (xA lenG (aCons (xVar 0) aNil)) (xVar 1))))
def f_is_tuple : Fn := fnF 2 b_is_tuple
def b_is_word : Sx :=
  (sRt (xAn (x1 (isG "str") (xVar 0)) (x2 eqG (xVar 0) (xVar 1))))
def f_is_word : Fn := fnF 2 b_is_word
def b_is_latency : Sx :=
  (sRt (xAn (xCall 2 f_is_tuple (aCons (xVar 0) (aCons (xC (.int (2))) aNil))) (xAn (xCall 2 f_is_word (aCons (x2 ixG (xVar 0) (xC (.int (0)))) (aCons (xVar 1) aNil))) (xCall 1 f_is_number (aCons (x2 ixG (xVar 0) (xC (.int (1)))) aNil)))))
def f_is_latency : Fn := fnF 2 b_is_latency
def b_are_latencies : Sx :=
  (sSq (sIf (tNt (tTru (xCall 2 f_is_tuple (aCons (xVar 0) (aCons (xA lenG (aCons (xC (.tup ((["add", "and", "less", "load", "mul", "out", "store", "sub"] : List PySem.Str).map PV.str))) aNil)) aNil))))) (sRt (xC (.bl false))) sNx)
    (sRt (xA allG (aCons (xLcP (List.map (·.2) ([("pair", 1), ("kind", 2)] : List (PySem.Str × Nat))) (iZx' (aCons (xVar 0) (aCons (xC (.tup ((["add", "and", "less", "load", "mul", "out", "store", "sub"] : List PySem.Str).map PV.str))) aNil))) (pTp 2 (pCons (pNm 1) (pCons (pNm 2) pNil))) tYs (xCall 2 f_is_latency (aCons (xVar 1) (aCons (xVar 2) aNil)))) aNil))))
def f_are_latencies : Fn := fnF 3 b_are_latencies
def b_has_machine_form : Sx :=
  (sSq (sIf (tNt (tTru (xCall 2 f_is_tuple (aCons (xVar 0) (aCons (xC (.int (3))) aNil))))) (sRt (xC (.bl false))) sNx)
    (sSq (sAs (xVar 0) (gSq 3 (gsCons (gNm 1) (gsCons (gNm 2) (gsCons (gNm 3) gsNil)))))
    (sRt (xAn (xCall 1 f_is_number (aCons (xVar 1) aNil)) (xAn (xCall 1 f_are_slots (aCons (xVar 2) aNil)) (xCall 1 f_are_latencies (aCons (xVar 3) aNil)))))))
def f_has_machine_form : Fn := fnF 4 b_has_machine_form
def b_is_within_limits : Sx :=
  (sSq (sAs (xVar 0) (gSq 3 (gsCons (gNm 1) (gsCons (gNm 2) (gsCons (gNm 3) gsNil)))))
    (sSq (sIf (tOr' (tBl (x2 ltG (xVar 1) (xC (.int (1))))) (tOr' (tBl (x2 gtG (xVar 1) (xC (.int (16))))) (tBl (x2 gtG (xA lenG (aCons (xVar 2) aNil)) (xC (.int (6))))))) (sRt (xC (.bl false))) sNx)
    (sRt (xA allG (aCons (xLcP (List.map (·.2) ([("kind", 4), ("latency", 5)] : List (PySem.Str × Nat))) (iAny (xVar 3)) (pTp 2 (pCons (pNm 4) (pCons (pNm 5) pNil))) tYs (xCh leG leG (xC (.int (1))) (xVar 5) (xC (.int (9))))) aNil)))))
def f_is_within_limits : Fn := fnF 6 b_is_within_limits
def b_is_machine : Sx :=
  (sRt (xAn (xCall 1 f_has_machine_form (aCons (xVar 0) aNil)) (xCall 1 f_is_within_limits (aCons (xVar 0) aNil))))
def f_is_machine : Fn := fnF 1 b_is_machine
def b_law_fill : Sx :=
  (sSq (sAs (x2 addG (x2 ixG (xVar 0) (xC (.int (3)))) (xC (.int (1)))) (gIx (xVar 0) (xC (.int (3)))))
    (sSq (sAs (x2 addG (x2 mulG (x2 ixG (xVar 0) (xC (.int (3)))) (xC (.int (69621)))) (xC (.int (12345)))) (gNm 1))
    (sSq (sIf (tBl (x2 ltG (x2 ixG (xVar 0) (xC (.int (1)))) (xA lenG (aCons (x2 ixG (xVar 0) (xC (.int (0)))) aNil)))) (sSq (sAs (x2 ixG (x2 ixG (xVar 0) (xC (.int (0)))) (x2 ixG (xVar 0) (xC (.int (1))))) (gNm 1))
    (sSq (sAs (x2 addG (x2 ixG (xVar 0) (xC (.int (1)))) (xC (.int (1)))) (gIx (xVar 0) (xC (.int (1)))))
    (sSq (sIf (tBl (x2 ltG (xVar 1) (xC (.int (0))))) (sAs (x2 subG (x2 subG (xC (.int (0))) (xC (.int (1)))) (xVar 1)) (gNm 1)) sNx)
    (sIf (tBl (x2 geG (xVar 1) (x2 powG (xC (.int (10))) (xC (.int (18)))))) (sRt (xVar 1)) sNx)))) sNx)
    (sSq (sIf (tAn (tTru (x2 ixG (xVar 0) (xC (.int (0))))) (tBl (x2 geG (x2 ixG (xVar 0) (xC (.int (1)))) (xA lenG (aCons (x2 ixG (xVar 0) (xC (.int (0)))) aNil))))) (sAs (x2 addG (xVar 1) (x2 modG (xA intG (aCons (x2 ixG (x2 ixG (xVar 0) (xC (.int (0)))) (x1 negG (xC (.int (1))))) aNil)) (xC (.int (1000003))))) (gNm 1)) sNx)
    (sSq (sAs (x2 modG (xA intG (aCons (x2 addG (x2 mulG (xVar 1) (xC (.int (48271)))) (x2 mulG (x2 ixG (xVar 0) (xC (.int (3)))) (xC (.int (69621))))) aNil)) (xC (.int (2147483647)))) (gNm 1))
    (sRt (x2 addG (x2 modG (xA intG (aCons (x2 addG (x2 addG (x2 mulG (xVar 1) (xVar 1)) (x2 mulG (x2 ixG (xVar 0) (xC (.int (3)))) (xC (.int (7919))))) (xC (.int (11)))) aNil)) (xC (.int (2305843009213693951)))) (xC (.int (2305843009213693951))))))))))
def f_law_fill : Fn := fnF 2 b_law_fill
def b_law_take : Sx :=
  (sSq (sIf (tBl (x2 ltG (x2 ixG (xVar 0) (xC (.int (2)))) (xVar 1))) (sAs (xCall 1 f_law_fill (aCons (xVar 0) aNil)) (gIx (xVar 0) (xC (.int (2))))) sNx)
    (sSq (sAs (x2 modG (xA intG (aCons (x2 ixG (xVar 0) (xC (.int (2)))) aNil)) (xVar 1)) (gNm 2))
    (sSq (sAs (x2 divG (x2 ixG (xVar 0) (xC (.int (2)))) (xVar 1)) (gIx (xVar 0) (xC (.int (2)))))
    (sRt (xVar 2)))))
def f_law_take : Fn := fnF 3 b_law_take
def b_law_other : Sx :=
  (sSq (sAs (xCall 2 f_law_take (aCons (xVar 0) (aCons (xC (.int (8))) aNil))) (gNm 2))
    (sSq (sAs (xVar 1) (gSq 3 (gsCons (gNm 6) (gsCons (gNm 7) (gsCons (gNm 8) gsNil)))))
    (sSq (sAs (xCall 2 f_law_take (aCons (xVar 0) (aCons (xA lenG (aCons (xVar 7) aNil)) aNil))) (gNm 3))
    (sSq (sAs (x2 ixG (xVar 7) (xVar 3)) (gNm 4))
    (sSq (sIf (tBl (x2 eqG (xVar 2) (xC (.int (0))))) (sRt (xA tupG (aCons (x2 ixG (xA lstG (aCons (xC (.int (0))) (aCons (xC (.int (16))) (aCons (xC (.int (17))) (aCons (x2 subG (xC (.int (0))) (xC (.int (1)))) aNil))))) (xCall 2 f_law_take (aCons (xVar 0) (aCons (xC (.int (4))) aNil)))) (aCons (xVar 7) (aCons (xVar 8) aNil))))) sNx)
    (sSq (sIf (tBl (x2 eqG (xVar 2) (xC (.int (1))))) (sRt (xA tupG (aCons (xVar 6) (aCons (x2 addG (x2 addG (xSl (xVar 7) oNone (oSome (xVar 3))) (xA tupG (aCons (x2 addG (xVar 4) (xSl (xVar 4) (oSome (x1 negG (xC (.int (1))))) oNone)) aNil))) (xSl (xVar 7) (oSome (x2 addG (xVar 3) (xC (.int (1))))) oNone)) (aCons (xVar 8) aNil))))) sNx)
    (sSq (sIf (tBl (x2 eqG (xVar 2) (xC (.int (2))))) (sRt (xA tupG (aCons (xVar 6) (aCons (x2 addG (x2 addG (xSl (xVar 7) oNone (oSome (xVar 3))) (xA tupG (aCons (x1 revG (xVar 4)) aNil))) (xSl (xVar 7) (oSome (x2 addG (xVar 3) (xC (.int (1))))) oNone)) (aCons (xVar 8) aNil))))) sNx)
    (sSq (sIf (tBl (x2 eqG (xVar 2) (xC (.int (3))))) (sRt (xA tupG (aCons (xVar 6) (aCons (x2 addG (x2 addG (xSl (xVar 7) oNone (oSome (xVar 3))) (xA tupG (aCons (xSl (xVar 4) (oSome (xC (.int (1)))) oNone) aNil))) (xSl (xVar 7) (oSome (x2 addG (xVar 3) (xC (.int (1))))) oNone)) (aCons (xVar 8) aNil))))) sNx)
    (sSq (sIf (tBl (x2 eqG (xVar 2) (xC (.int (4))))) (sRt (xA tupG (aCons (xVar 6) (aCons (xSl (x2 addG (xVar 7) (x2 tmulG (xA tupG (aCons (xA tupG aNil) aNil)) (xC (.int (6))))) oNone (oSome (x2 addG (xC (.int (5))) (xCall 2 f_law_take (aCons (xVar 0) (aCons (xC (.int (3))) aNil)))))) (aCons (xVar 8) aNil))))) sNx)
    (sSq (sAs (xCall 2 f_law_take (aCons (xVar 0) (aCons (xC (.int (8))) aNil))) (gNm 5))
    (sSq (sIf (tBl (x2 eqG (xVar 2) (xC (.int (5))))) (sRt (xA tupG (aCons (xVar 6) (aCons (xVar 7) (aCons (x2 addG (x2 addG (xSl (xVar 8) oNone (oSome (xVar 5))) (xA tupG (aCons (xA tupG (aCons (x2 ixG (x2 ixG (xVar 8) (xVar 5)) (xC (.int (0)))) (aCons (x2 ixG (xA lstG (aCons (xC (.int (0))) (aCons (xC (.int (9))) (aCons (xC (.int (10))) aNil)))) (xCall 2 f_law_take (aCons (xVar 0) (aCons (xC (.int (3))) aNil)))) aNil))) aNil))) (xSl (xVar 8) (oSome (x2 addG (xVar 5) (xC (.int (1))))) oNone)) aNil))))) sNx)
    (sSq (sIf (tBl (x2 eqG (xVar 2) (xC (.int (6))))) (sRt (xA tupG (aCons (xVar 6) (aCons (xVar 7) (aCons (x2 ixG (xA lstG (aCons (x1 revG (xVar 8)) (aCons (xSl (xVar 8) oNone (oSome (xVar 5))) (aCons (x2 addG (xVar 8) (xSl (xVar 8) oNone (oSome (xC (.int (1)))))) aNil)))) (xCall 2 f_law_take (aCons (xVar 0) (aCons (xC (.int (3))) aNil)))) aNil))))) sNx)
    (sRt (xA tupG (aCons (xVar 6) (aCons (x2 addG (x2 addG (xSl (xVar 7) oNone (oSome (xVar 3))) (xA tupG (aCons (x2 addG (xVar 4) (xA tupG (aCons (xC (.str "nop")) aNil))) aNil))) (xSl (xVar 7) (oSome (x2 addG (xVar 3) (xC (.int (1))))) oNone)) (aCons (xVar 8) aNil)))))))))))))))))
def f_law_other : Fn := fnF 9 b_law_other
def b_law_high : Sx :=
  (sSq (sAs (xA lstG (aCons (xVar 0) aNil)) (gNm 1))
    (sSq (sAs (xC (.int (0))) (gNm 2))
    (sSq (sAs (xC (.int (0))) (gNm 3))
    (sSq (sWh 1000000 (tAn (tTru (xVar 1)) (tBl (x2 ltG (xVar 3) (xC (.int (4000)))))) (sSq (sAs (x2 addG (xVar 2) (xC (.int (1)))) (gNm 2))
    (sSq (sAs (x2 addG (xVar 3) (xA lenG (aCons (xVar 1) aNil))) (gNm 3))
    (sSq (sAs (xA lstG aNil) (gNm 4))
    (sSq (sFor (iAny (xVar 1)) (gNm 5) (sIf (tTru (x1 (isG "tuple") (xVar 5))) (sEx (xM chkL extAG (xVar 4) (aCons (xVar 5) aNil))) sNx))
    (sAs (xVar 4) (gNm 1)))))))
    (sSq (sIf (tTru (xVar 1)) (sRt (xC (.int (1000)))) sNx)
    (sRt (xVar 2)))))))
def f_law_high : Fn := fnF 6 b_law_high
def b_law_changed (self : Fn) : Sx :=
  (sSq (sAs (x2 subG (x2 ixG (xVar 1) (xC (.int (0)))) (xC (.int (1)))) (gIx (xVar 1) (xC (.int (0)))))
    (sSq (sIf (tBl (x2 eqG (x2 ixG (xVar 1) (xC (.int (0)))) (xC (.int (0))))) (sRt (xVar 2)) sNx)
    (sSq (sIf (tNt (tTru (x1 (isG "tuple") (xVar 0)))) (sRt (xVar 0)) sNx)
    (sRt (xA tupleG (aCons (xLcP (List.map (·.2) ([("part", 3)] : List (PySem.Str × Nat))) (iAny (xVar 0)) (pNm 3) tYs (xCall 3 self (aCons (xVar 3) (aCons (xVar 1) (aCons (xVar 2) aNil))))) aNil))))))
def f_law_changed_ : Nat → Fn
  | 0 => fun _ _ => none
  | n + 1 => fnF 4 (b_law_changed (f_law_changed_ n))
def f_law_changed : Fn := f_law_changed_ 20
def b_law_nodes_of (self : Fn) : Sx :=
  (sSq (sIf (tBl (x2 ltG (xA lenG (aCons (xVar 1) aNil)) (xC (.int (3000))))) (sEx (xM chkL appG (xVar 1) (aCons (xVar 0) aNil))) sNx)
    (sSq (sIf (tTru (x1 (isG "tuple") (xVar 0))) (sFor (iAny (xVar 0)) (gNm 2) (sEx (xCall 2 self (aCons (xVar 2) (aCons (xVar 1) aNil))))) sNx)
    (sRt (xVar 1))))
def f_law_nodes_of_ : Nat → Fn
  | 0 => fun _ _ => none
  | n + 1 => fnF 3 (b_law_nodes_of (f_law_nodes_of_ n))
def f_law_nodes_of : Fn := f_law_nodes_of_ 20
def b_law_spoilt : Sx :=
  (sSq (sAs (xCall 2 f_law_nodes_of (aCons (xVar 1) (aCons (xA lstG aNil) aNil))) (gNm 2))
    (sSq (sAs (xCall 2 f_law_take (aCons (xVar 0) (aCons (xA lenG (aCons (xVar 2) aNil)) aNil))) (gNm 3))
    (sSq (sAs (x2 ixG (xVar 2) (xVar 3)) (gNm 4))
    (sSq (sAs (x2 ixG (xA lstG (aCons (x2 ixG (xVar 2) (xCall 2 f_law_take (aCons (xVar 0) (aCons (xA lenG (aCons (xVar 2) aNil)) aNil)))) (aCons (x2 ixG (xVar 2) (xCall 2 f_law_take (aCons (xVar 0) (aCons (xA lenG (aCons (xVar 2) aNil)) aNil)))) (aCons (xC .non) (aCons (xC (.int (0))) (aCons (xC (.int (1))) (aCons (xA tupG aNil) (aCons (xA tupG (aCons (xA tupG aNil) (aCons (xC (.int (0))) aNil))) (aCons (xA tupG (aCons (xC (.int (0))) (aCons (xA tupG (aCons (xA tupG aNil) (aCons (xC (.int (0))) aNil))) aNil))) (aCons (xC (.bl true)) aNil)))))))))) (xCall 2 f_law_take (aCons (xVar 0) (aCons (xC (.int (9))) aNil)))) (gNm 5))
    (sSq (sIf (tAn (tTru (x1 (isG "tuple") (xVar 4))) (tBl (x2 eqG (xCall 2 f_law_take (aCons (xVar 0) (aCons (xC (.int (2))) aNil))) (xC (.int (0)))))) (sAs (x2 ixG (xA lstG (aCons (xSl (xVar 4) (oSome (xC (.int (1)))) oNone) (aCons (x2 addG (xVar 4) (xSl (xVar 4) (oSome (x1 negG (xC (.int (1))))) oNone)) (aCons (x1 revG (xVar 4)) (aCons (xSl (xVar 4) oNone (oSome (x1 negG (xC (.int (1)))))) aNil))))) (xCall 2 f_law_take (aCons (xVar 0) (aCons (xC (.int (4))) aNil)))) (gNm 5)) sNx)
    (sSq (sAs (xCall 3 f_law_changed (aCons (xVar 1) (aCons (xA lstG (aCons (x2 addG (xVar 3) (xC (.int (1)))) aNil)) (aCons (xVar 5) aNil)))) (gNm 6))
    (sSq (sIf (tBl (x2 gtG (xCall 1 f_law_high (aCons (xVar 6) aNil)) (xC (.int (120))))) (sRt (xVar 1)) sNx)
    (sRt (xVar 6)))))))))
def f_law_spoilt : Fn := fnF 7 b_law_spoilt
def b_law_machine : Sx :=
  (sSq (sAs (x2 addG (xC (.int (1))) (xCall 2 f_law_take (aCons (xVar 0) (aCons (x2 ixG (xA lstG (aCons (xC (.int (3))) (aCons (xC (.int (6))) aNil))) (xCall 2 f_law_take (aCons (xVar 0) (aCons (xC (.int (2))) aNil)))) aNil)))) (gNm 2))
    (sSq (sAs (xLcP (List.map (·.2) ([("k", 8)] : List (PySem.Str × Nat))) (iRg (aCons (xVar 2) aNil)) (pNm 8) tYs (xA lstG aNil)) (gNm 3))
    (sSq (sAs (xCall 2 f_law_take (aCons (xVar 0) (aCons (xC (.int (3))) aNil))) (gNm 4))
    (sSq (sFor (iAny (xCall 0 f_law_kinds aNil)) (gNm 5) (sSq (sFor (iRg (aCons (xVar 2) aNil)) (gNm 8) (sIf (tBl (x2 ltG (xCall 2 f_law_take (aCons (xVar 0) (aCons (xC (.int (3))) aNil))) (x2 addG (xVar 4) (xA intG (aCons (x2 eqG (xVar 8) (xC (.int (0)))) aNil))))) (sAs (x2 addG (x2 ixG (xVar 3) (xVar 8)) (xA lstG (aCons (xVar 5) aNil))) (gIx (xVar 3) (xVar 8))) sNx))
    (sIf (tNt (tTru (xA anyG (aCons (xLcP (List.map (·.2) ([("slot", 9)] : List (PySem.Str × Nat))) (iAny (xVar 3)) (pNm 9) tYs (x2 inG (xVar 5) (xVar 9))) aNil)))) (sSq (sAs (xCall 2 f_law_take (aCons (xVar 0) (aCons (xVar 2) aNil))) (gNm 8))
    (sAs (x2 addG (x2 ixG (xVar 3) (xVar 8)) (xA lstG (aCons (xVar 5) aNil))) (gIx (xVar 3) (xVar 8)))) sNx)))
    (sSq (sAs (x2 ixG (xA lstG (aCons (xC (.int (1))) (aCons (xC (.int (2))) (aCons (xC (.int (4))) (aCons (xC (.int (9))) aNil))))) (xCall 2 f_law_take (aCons (xVar 0) (aCons (xC (.int (4))) aNil)))) (gNm 6))
    (sSq (sAs (xA tupleG (aCons (xLcP (List.map (·.2) ([("kind", 5)] : List (PySem.Str × Nat))) (iAny (xCall 0 f_law_kinds aNil)) (pNm 5) tYs (xA tupG (aCons (xVar 5) (aCons (x2 addG (xC (.int (1))) (xCall 2 f_law_take (aCons (xVar 0) (aCons (xVar 6) aNil)))) aNil)))) aNil)) (gNm 7))
    (sRt (xA tupG (aCons (xVar 1) (aCons (xA tupleG (aCons (xLcP (List.map (·.2) ([("slot", 9)] : List (PySem.Str × Nat))) (iAny (xVar 3)) (pNm 9) tYs (xA tupleG (aCons (xVar 9) aNil))) aNil)) (aCons (xVar 7) aNil)))))))))))
def f_law_machine : Fn := fnF 10 b_law_machine
def b_law_rest : Sx :=
  (sSq (sAs (xCall 2 f_law_machine (aCons (xVar 1) (aCons (x2 addG (xC (.int (1))) (xCall 2 f_law_take (aCons (xVar 1) (aCons (xC (.int (16))) aNil)))) aNil))) (gNm 2))
    (sSq (sIf (tBl (x2 notBG (xCall 1 f_is_machine (aCons (xVar 2) aNil)) (xC (.bl true)))) (sRt (xC (.bl false))) sNx)
    (sSq (sFor (iRg (aCons (xC (.int (6))) aNil)) (gNm 3) (sSq (sAs (xVar 2) (gNm 4))
    (sSq (sIf (tBl (x2 eqG (xCall 2 f_law_take (aCons (xVar 1) (aCons (xC (.int (2))) aNil))) (xC (.int (0))))) (sAs (xCall 2 f_law_other (aCons (xVar 1) (aCons (xVar 4) aNil))) (gNm 4)) (sFor (iRg (aCons (x2 addG (xC (.int (1))) (xCall 2 f_law_take (aCons (xVar 1) (aCons (xC (.int (2))) aNil)))) aNil)) (gNm 6) (sAs (xCall 2 f_law_spoilt (aCons (xVar 1) (aCons (xVar 4) aNil))) (gNm 4))))
    (sSq (sAs (xCall 1 f_is_machine (aCons (xVar 4) aNil)) (gNm 5))
    (sIf (tOr' (tNt (tTru (x1 (isG "bool") (xVar 5)))) (tBl (x2 neG (xVar 5) (xCall 1 f_law_good (aCons (xVar 4) aNil))))) (sRt (xC (.bl false))) sNx)))))
    (sRt (xC (.bl true))))))
def b_law : Sx :=
  (sSq (sAs (xCall 1 f_law_start (aCons (xVar 0) aNil)) (gNm 1))
    (sSq (sAs (xCall 2 f_law_machine (aCons (xVar 1) (aCons (x2 addG (xC (.int (1))) (xCall 2 f_law_take (aCons (xVar 1) (aCons (xC (.int (16))) aNil)))) aNil))) (gNm 2))
    (sSq (sIf (tBl (x2 notBG (xCall 1 f_is_machine (aCons (xVar 2) aNil)) (xC (.bl true)))) (sRt (xC (.bl false))) sNx)
    (sSq (sFor (iRg (aCons (xC (.int (6))) aNil)) (gNm 3) (sSq (sAs (xVar 2) (gNm 4))
    (sSq (sIf (tBl (x2 eqG (xCall 2 f_law_take (aCons (xVar 1) (aCons (xC (.int (2))) aNil))) (xC (.int (0))))) (sAs (xCall 2 f_law_other (aCons (xVar 1) (aCons (xVar 4) aNil))) (gNm 4)) (sFor (iRg (aCons (x2 addG (xC (.int (1))) (xCall 2 f_law_take (aCons (xVar 1) (aCons (xC (.int (2))) aNil)))) aNil)) (gNm 6) (sAs (xCall 2 f_law_spoilt (aCons (xVar 1) (aCons (xVar 4) aNil))) (gNm 4))))
    (sSq (sAs (xCall 1 f_is_machine (aCons (xVar 4) aNil)) (gNm 5))
    (sIf (tOr' (tNt (tTru (x1 (isG "bool") (xVar 5)))) (tBl (x2 neG (xVar 5) (xCall 1 f_law_good (aCons (xVar 4) aNil))))) (sRt (xC (.bl false))) sNx)))))
    (sRt (xC (.bl true)))))))
def f_law : Fn := fnF 7 b_law
end Gen
end

section
set_option maxRecDepth 100000
set_option linter.all false
set_option Elab.async false
namespace Gen
open Rf L2 V2
theorem mod_ok (x : Int) : (-18446744073709551616 < x % 2147483647 ∧ x % 2147483647 < 18446744073709551616) = True := by
  have := Int.emod_nonneg x (show (2147483647 : Int) ≠ 0 by decide)
  have := Int.emod_lt_of_pos x (show (0 : Int) < 2147483647 by decide)
  simp only [eq_iff_iff, iff_true]
  omega
theorem nab10 : (10 : Int).natAbs = 10 := rfl
local macro_rules | `(tactic| walk_at "ev") => `(tactic| simp only [e_var, e_c, e_1, e_2, e_A, e_aNil, e_aCons, e_call, e_bl, e_tru, e_nt, e_an, e_or, e_ys, e_xnt, e_xan, e_xor, e_xif, e_oNone, e_oSome, e_sl, e_nx, e_brk, e_cnt, e_sq, e_ex, e_rt, e_rn, e_if, e_as, e_nm, e_gix, e_gsNil, e_gsCons, e_gseqT, e_gseqR, e_fd, e_for, e_any, e_rg, e_en, e_zp, e_lc, e_m, e_get, e_meth, e_make, e_fn, ix_int, ix_t, ix_r, set_r, atI_at, ixN_0, ixN_1, ixN_2, ixN_3, mod_ok,
  startE, addG, subG, mulG, divG, modG, powG, cmpG, ltG, leG, gtG, geG, intG, lenG, lenB, eqG, eqB, neG, truG, tupG, lstG, negG, Option.bind_some, Option.bind_none, Option.map_some, Option.map_none, List.map_cons, List.map_nil, List.length_cons, List.length_nil, List.length_map, List.length_set, List.replicate, List.cons_append, List.nil_append, List.getElem?_cons_zero, List.getElem?_cons_succ, List.set_cons_zero, List.set_cons_succ, List.set_set, List.getElem?_set_self, List.getElem?_set_ne, ne_eq, not_false_eq_true, Nat.reduceAdd, Nat.reduceSub, Nat.reduceEqDiff, Nat.reduceLeDiff, Nat.reduceLT, Nat.reducePow, Int.reducePow, Int.reduceNeg, Int.reduceLT, Int.reduceLE, Int.reduceToNat, nab10, and_self, or_true, true_or, true_and, and_true, ↓reduceIte, Nat.add_zero, Nat.zero_add, Nat.sub_self, decide_eq_true_eq, decide_true, decide_false, Bool.false_eq_true, Bool.not_true, Bool.not_false, *])
theorem atI_neg {ns : List Int} (h : ns ≠ []) : ∃ y, atI (ns.map PV.int) (-1) = some (.int y) := by
  refine ⟨ns.getLast h, ?_⟩
  have := List.dropLast_concat_getLast h
  conv => lhs; rw [← this]
  rw [List.map_append]
  exact L2.atI_last _ _
theorem and_flip {p q : Prop} (h : q) (h' : p) : p ∧ q := ⟨h', h⟩
def curO (T : Tk) (a n t : Int) : Ob := .lst [.ref T.j, .int a, .int n, .int t, .int 20]
theorem fill_ex (c : Cs) : ∃ v a' t' : Int, (0 ≤ v ∧ 0 ≤ a' ∧ 0 ≤ t') ∧ ∀ (T : Tk) (A : Nat → Prop) (m : Mem), WF T A m c → f_law_fill [.ref T.c] m = some (.int v, m.set T.c (curO T a' c.n t')) := by
  obtain ⟨ns, a, n, t, ha, hn, ht⟩ := c
  unfold curO
  have e18 : (10 : Int) ^ (18 : Int).toNat = 1000000000000000000 := by decide
  have nonneg : ∀ x : Int, 0 ≤ x % 2305843009213693951 + 2305843009213693951 := fun x => by
    have := Int.emod_nonneg x (show (2305843009213693951 : Int) ≠ 0 by decide)
    omega
  have ne_ : ∀ (T : Tk) (A : Nat → Prop) (m : Mem), WF T A m ⟨ns, a, n, t, ha, hn, ht⟩ → T.c ≠ T.j := fun T A m w z => w.nA (z ▸ w.jA)
  by_cases hl : a < (ns.length : Int)
  · obtain ⟨x, hx⟩ : ∃ x, (ns.map PV.int)[a.toNat]? = some (.int x) := ⟨ns[a.toNat]'(by omega), by simp⟩
    have hne : (ns.map PV.int).isEmpty = false := by cases ns with | nil => simp at hl; omega | cons _ _ => rfl
    obtain ⟨y, hy⟩ := atI_neg (ns := ns) (by rintro rfl; simp at hl; omega)
    by_cases hx0 : x < 0
    · by_cases hb : (1000000000000000000 : Int) ≤ 0 - 1 - x
      · refine' ⟨_, _, _, and_flip ?_ ⟨?_, ?_, ?_⟩⟩
        rotate_left 3
        · intro T A m w
          have ne := ne_ T A m w
          have c1 := w.at_
          have c2 := w.cells
          have hi := lt_of c1
          clear w
          unfold f_law_fill b_law_fill
          walk_at "ev"
          rfl
        all_goals omega
      · by_cases hz : (ns.length : Int) ≤ a + 1
        · refine' ⟨_, _, _, and_flip ?_ ⟨?_, ?_, ?_⟩⟩
          rotate_left 3
          · intro T A m w
            have ne := ne_ T A m w
            have c1 := w.at_
            have c2 := w.cells
            have hi := lt_of c1
            clear w
            unfold f_law_fill b_law_fill
            walk_at "ev"
            rfl
          · exact nonneg _
          all_goals omega
        · refine' ⟨_, _, _, and_flip ?_ ⟨?_, ?_, ?_⟩⟩
          rotate_left 3
          · intro T A m w
            have ne := ne_ T A m w
            have c1 := w.at_
            have c2 := w.cells
            have hi := lt_of c1
            clear w
            unfold f_law_fill b_law_fill
            walk_at "ev"
            rfl
          · exact nonneg _
          all_goals omega
    · by_cases hb : (1000000000000000000 : Int) ≤ x
      · refine' ⟨_, _, _, and_flip ?_ ⟨?_, ?_, ?_⟩⟩
        rotate_left 3
        · intro T A m w
          have ne := ne_ T A m w
          have c1 := w.at_
          have c2 := w.cells
          have hi := lt_of c1
          clear w
          unfold f_law_fill b_law_fill
          walk_at "ev"
          rfl
        all_goals omega
      · by_cases hz : (ns.length : Int) ≤ a + 1
        · refine' ⟨_, _, _, and_flip ?_ ⟨?_, ?_, ?_⟩⟩
          rotate_left 3
          · intro T A m w
            have ne := ne_ T A m w
            have c1 := w.at_
            have c2 := w.cells
            have hi := lt_of c1
            clear w
            unfold f_law_fill b_law_fill
            walk_at "ev"
            rfl
          · exact nonneg _
          all_goals omega
        · refine' ⟨_, _, _, and_flip ?_ ⟨?_, ?_, ?_⟩⟩
          rotate_left 3
          · intro T A m w
            have ne := ne_ T A m w
            have c1 := w.at_
            have c2 := w.cells
            have hi := lt_of c1
            clear w
            unfold f_law_fill b_law_fill
            walk_at "ev"
            rfl
          · exact nonneg _
          all_goals omega
  · have hz : (ns.length : Int) ≤ a := by omega
    by_cases hns : ns = []
    · subst hns
      have hne : (List.map PV.int ([] : List Int)).isEmpty = true := rfl
      have hne2 : ([] : List PV).isEmpty = true := rfl
      have hl0 : ¬ a < ((0 : Nat) : Int) := hl
      refine' ⟨_, _, _, and_flip ?_ ⟨?_, ?_, ?_⟩⟩
      rotate_left 3
      · intro T A m w
        have ne := ne_ T A m w
        have c1 := w.at_
        have c2 := w.cells
        have hi := lt_of c1
        clear w
        unfold f_law_fill b_law_fill
        walk_at "ev"
        rfl
      · exact nonneg _
      all_goals omega
    · have hne : (ns.map PV.int).isEmpty = false := by cases ns with | nil => exact absurd rfl hns | cons _ _ => rfl
      obtain ⟨y, hy⟩ := atI_neg (ns := ns) hns
      refine' ⟨_, _, _, and_flip ?_ ⟨?_, ?_, ?_⟩⟩
      rotate_left 3
      · intro T A m w
        have ne := ne_ T A m w
        have c1 := w.at_
        have c2 := w.cells
        have hi := lt_of c1
        clear w
        unfold f_law_fill b_law_fill
        walk_at "ev"
        rfl
      · exact nonneg _
      all_goals omega
theorem take_ex (c : Cs) (many : Int) (h : 0 < many) (h2 : many < 18446744073709551616) : ∃ (d : Int) (c' : Cs), (0 ≤ d ∧ d < many) ∧ c'.ns = c.ns ∧ ∀ (T : Tk) (A : Nat → Prop) (m : Mem), WF T A m c → f_law_take [.ref T.c, .int many] m = some (.int d, m.set T.c (curO T c'.a c'.n c'.t)) := by
  obtain ⟨v, a', t', ⟨hv, ha', ht'⟩, e⟩ := fill_ex c
  by_cases hl : c.n < many
  · refine ⟨v % many, ⟨c.ns, a', v / many, t', ha', Int.ediv_nonneg hv (by omega), ht'⟩, ⟨Int.emod_nonneg _ (by omega), Int.emod_lt_of_pos _ h⟩, rfl, fun T A m w => ?_⟩
    have e := e T A m w
    have c1 := w.at_
    have hi := lt_of c1
    clear w
    unfold curO at e ⊢
    unfold f_law_take b_law_take
    walk_at "ev"
  · refine ⟨c.n % many, ⟨c.ns, c.a, c.n / many, c.t, c.ha, Int.ediv_nonneg c.hn (by omega), c.ht⟩, ⟨Int.emod_nonneg _ (by omega), Int.emod_lt_of_pos _ h⟩, rfl, fun T A m w => ?_⟩
    have c1 := w.at_
    have hi := lt_of c1
    clear w e
    unfold curO
    unfold f_law_take b_law_take
    walk_at "ev"
open Classical in
noncomputable def g_law_take : F2 := fun ds c => match ds with
  | [.tok, .int many] => if h : 0 < many ∧ many < 18446744073709551616 then some (.int (take_ex c many h.1 h.2).choose, (take_ex c many h.1 h.2).choose_spec.choose) else none
  | _ => none
theorem m_law_take {T : Tk} : SF T g_law_take f_law_take := fun A m c ds ps w D r c' q => by
  unfold g_law_take at q
  split at q
  · rename_i many
    split at q
    · rename_i h
      obtain ⟨rfl, rfl⟩ := Prod.mk.inj (Option.some.inj q)
      obtain ⟨k1, k2, k3⟩ := (take_ex c many h.1 h.2).choose_spec.choose_spec
      generalize (take_ex c many h.1 h.2).choose_spec.choose = c1 at *
      generalize (take_ex c many h.1 h.2).choose = d at *
      obtain ⟨p1, r1, rfl, D1, D2'⟩ := D.inv
      obtain ⟨p2, r2, rfl, D3, D4⟩ := D2'.inv
      obtain rfl := D4.inv0
      rw [d2_tok] at D1
      rw [d2_int] at D3
      subst D1 D3
      have ne : T.c ≠ T.j := fun z => w.nA (z ▸ w.jA)
      have hi := lt_of w.at_
      refine ⟨.int d, m.set T.c (curO T c1.a c1.n c1.t), A, k3 T A m w, ⟨by simp, fun k l n => List.getElem?_set_ne (Ne.symm n), fun _ h => h, fun _ _ h => h⟩, ⟨by rw [List.getElem?_set_self hi]; rfl, by rw [List.getElem?_set_ne ne, k2]; exact w.cells, w.nA, w.jA, fun k a => by rw [List.length_set]; exact w.lt k a⟩, by rw [D2]⟩
    · cases q
  · cases q
/-- a draw -/
theorem take2 (c : Cs) {many : Int} (h : 0 < many) (h2 : many < 18446744073709551616) : ∃ (d : Int) (c' : Cs), g_law_take [.tok, .int many] c = some (.int d, c') ∧ 0 ≤ d ∧ d < many := by
  have hk : 0 < many ∧ many < 18446744073709551616 := ⟨h, h2⟩
  refine ⟨_, _, by unfold g_law_take; simp only; rw [dif_pos hk], (take_ex c many hk.1 hk.2).choose_spec.choose_spec.1⟩
theorem lcLP_ints {gd : List (Nat × Ob)} {D : Nat} {env : Env} (hgd : ∀ g ∈ gd, g.1 < D) : ∀ (is : List Int) (m : Mem) (acc : List PV), m[D]? = some (.lst acc) → okG gd m = true → acc.length + is.length < PySem.sizeLine → (hl : 1 < env.length) →
    lcLP (pNm 1) tYs (xA intG (aCons (xVar 1) aNil)) gd D env (is.map PV.int) m acc = some (acc ++ is.map PV.int, m.set D (.lst (acc ++ is.map PV.int)))
  | [], m, acc, h, k, l, hl => by
    have : m.set D (.lst acc) = m := by
      refine List.ext_getElem? fun i => ?_
      by_cases e : D = i
      · subst e; rw [List.getElem?_set_self (lt_of h), h]
      · rw [List.getElem?_set_ne e]
    simp only [List.map_nil, List.append_nil, lcLP, this]
  | i :: is, m, acc, h, k, l, hl => by
    rw [List.length_cons] at l
    have e1 : (xA intG (aCons (xVar 1) aNil)) (env.set 1 (some (.int i))) m = some (.int i, m) := by
      have : (env.set 1 (some (PV.int i)))[1]? = some (some (.int i)) := List.getElem?_set_self hl
      simp only [e_A, e_aCons, e_aNil, e_var, this, Option.bind_some, intG]
    have lD := lt_of h
    have ih := lcLP_ints hgd is (m.set D (.lst (acc ++ [.int i]))) (acc ++ [.int i]) (by rw [List.getElem?_set_self lD]) (okG_set k hgd) (by simp; omega) hl
    rw [List.map_cons]
    unfold lcLP
    simp only [pNm, Option.bind_some, tYs, if_true, e1]
    rw [if_pos ⟨k, h, by omega⟩, ih]
    simp
def T0 : Tk := ⟨3, 2⟩
theorem start_ok (ns : List Int) (h : ns.length ≤ 63) : ∃ (A : Nat → Prop) (m' : Mem), f_law_start [.ref 0] [.rol (ns.map PV.int)] = some (.ref T0.c, m') ∧ WF T0 A m' ⟨ns, 0, 0, 0, Int.le_refl _, Int.le_refl _, Int.le_refl _⟩ := by
  have hc : cutP (ns.map PV.int) none (some 63) = ns.map PV.int := by
    unfold cutP
    rw [HT.sIx_none, show ((63 : Int)) = ((63 : Nat) : Int) from rfl, HT.sIx_nat]
    rw [List.drop_zero, Nat.sub_zero]
    exact List.take_of_length_le (by simp; omega)
  have e := lcLP_ints (gd := [(1, .lst (ns.map PV.int))]) (D := 2) (env := [some (.ref 0), none]) (by simp) ns [.rol (ns.map PV.int), .lst (ns.map PV.int), .lst []] [] (by simp) (by simp [okG]) (by simp; exact Nat.lt_of_le_of_lt h (by decide)) (by simp)
  rw [List.nil_append] at e
  have e3 : ([Ob.rol (ns.map PV.int), .lst (ns.map PV.int), .lst []] : Mem).set 2 (.lst (ns.map PV.int)) = [Ob.rol (ns.map PV.int), .lst (ns.map PV.int), .lst (ns.map PV.int)] := rfl
  rw [e3] at e
  refine ⟨fun k => k = 2, [.rol (ns.map PV.int), .lst (ns.map PV.int), .lst (ns.map PV.int), .lst [.ref 2, .int 0, .int 0, .int 0, .int 20]], ?_, rfl, rfl, by decide, rfl, fun k hk => by rw [hk]; simp⟩
  have z5 : (5 : Nat) ≤ PySem.sizeLine := by decide
  have es : slG (.ref 0) none (some 63) [Ob.rol (ns.map PV.int)] = some (.ref 1, [Ob.rol (ns.map PV.int), .lst (ns.map PV.int)]) := by
    simp only [slG, List.getElem?_cons_zero, hc, List.length_cons, List.length_nil]; rfl
  have ea : anyQ (.ref 1) [Ob.rol (ns.map PV.int), .lst (ns.map PV.int)] = some ⟨ns.map PV.int, [(1, .lst (ns.map PV.int))]⟩ := rfl
  have el : (xLcP [1] (iAny (xSl (xVar 0) oNone (oSome (xC (.int (63)))))) (pNm 1) tYs (xA intG (aCons (xVar 1) aNil))) [some (.ref 0), none] [Ob.rol (ns.map PV.int)] = some (.ref 2, [.rol (ns.map PV.int), .lst (ns.map PV.int), .lst (ns.map PV.int)]) := by
    unfold xLcP
    simp only [e_any, e_sl, e_oNone, e_oSome, e_var, e_c, List.getElem?_cons_zero, Option.bind_some, es, ea, Option.map_some]
    rw [if_pos ⟨by simp [okG], by simp⟩]
    have := e
    simp only [List.length_cons, List.length_nil, Nat.zero_add, Nat.reduceAdd, List.cons_append, List.nil_append, wipeE, List.set_cons_succ, List.set_cons_zero]
    rw [this]; rfl
  unfold f_law_start b_law_start
  simp only [e_fn, startE, List.map_cons, List.map_nil, List.length_cons, List.length_nil, Nat.zero_add, Nat.reduceSub, List.replicate, List.cons_append, List.nil_append, e_rt, e_A, e_aCons, e_aNil, e_c]
  rw [el]
  simp only [Option.bind_some, lstG, List.length_cons, List.length_nil, Nat.zero_add, Nat.reduceAdd, z5, if_true, T0, List.cons_append, List.nil_append]
/-! a value with one part changed -/
theorem isG_pv (d : DV) (m : Mem) (h : pl d = true) : isG "tuple" (pvd d) m = some (.bl (isTup d), m) := by
  cases d <;> first | rfl | (cases h)
theorem nodes_ok : ∀ (n : Nat) (d : DV) (acc : List PV) (k : Nat) (m : Mem), dp d < n → pl d = true → m[k]? = some (.lst acc) → acc.length + sz d ≤ 3000 → f_law_nodes_of_ n [pvd d, .ref k] m = some (.ref k, m.set k (.lst (acc ++ (fl d).map pvd)))
  | 0, d, acc, k, m, hd, _, _, _ => absurd hd (Nat.not_lt_zero _)
  | n + 1, d, acc, k, m, hd, hp, hk, hl => by
    have hkl := lt_of hk
    have loop : ∀ (ds : List DV) (acc : List PV) (m : Mem) (e0 e2 : Option PV), dpL ds < n → plL ds = true → m[k]? = some (.lst acc) → acc.length + szL ds ≤ 3000 →
        ∃ e2', forL (gNm 2) (sEx (xCall 2 (f_law_nodes_of_ n) (aCons (xVar 2) (aCons (xVar 1) aNil)))) [] (pvdL ds) [e0, some (.ref k), e2] m = some (.nx, [e0, some (.ref k), e2'], m.set k (.lst (acc ++ (flL ds).map pvd))) := by
      intro ds
      induction ds with
      | nil =>
        intro acc m e0 e2 _ _ hk _
        refine ⟨e2, ?_⟩
        have : m.set k (.lst acc) = m := by
          refine List.ext_getElem? fun i => ?_
          by_cases e : k = i
          · subst e; rw [List.getElem?_set_self (lt_of hk), hk]
          · rw [List.getElem?_set_ne e]
        rw [pvdL, flL, List.map_nil, List.append_nil, this]
        rfl
      | cons d ds ih =>
        intro acc m e0 e2 hd hp hk hl
        rw [dpL] at hd
        rw [plL, Bool.and_eq_true] at hp
        rw [szL] at hl
        have h1 := nodes_ok n d acc k m (by omega) hp.1 hk (by omega)
        obtain ⟨e2', h2⟩ := ih (acc ++ (fl d).map pvd) (m.set k (.lst (acc ++ (fl d).map pvd))) e0 (some (pvd d)) (by omega) hp.2 (by rw [List.getElem?_set_self (lt_of hk)]) (by rw [List.length_append, List.length_map, fl_len]; omega)
        refine ⟨e2', ?_⟩
        rw [List.set_set, List.append_assoc, ← List.map_append] at h2
        rw [pvdL, flL, e_forC]
        simp only [e_nm, e_ex, e_call, e_aCons, e_aNil, e_var, List.set_cons_succ, List.set_cons_zero, List.getElem?_cons_zero, List.getElem?_cons_succ, Option.bind_some, List.length_cons, List.length_nil, Nat.zero_add, Nat.reduceAdd, if_true, h1]
        rw [if_pos (by rfl)]
        exact h2
    have ht := isG_pv d
    have hz : (acc.length < PySem.sizeLine) := Nat.lt_of_lt_of_le (show acc.length < 1000000 by have := sz_pos d; omega) (by decide)
    have hz3 : ((acc.length : Nat) : Int) < 3000 := by have := sz_pos d; omega
    have hc : chkL (.ref k) m = true := by unfold chkL lstB; simp only [hk]; rfl
    have s1 : sIf (tBl (x2 ltG (xA lenG (aCons (xVar 1) aNil)) (xC (.int (3000))))) (sEx (xM chkL appG (xVar 1) (aCons (xVar 0) aNil))) sNx [some (pvd d), some (.ref k), none] m = some (.nx, [some (pvd d), some (.ref k), none], m.set k (.lst (acc ++ [pvd d]))) := by
      simp only [e_if, e_bl, e_2, e_A, e_aCons, e_aNil, e_var, e_c, e_ex, e_m, List.getElem?_cons_zero, List.getElem?_cons_succ, Option.bind_some, lenG, lenB, hk, Option.map_some, cmpG, decide_eq_true hz3, if_true, hc, appG, if_pos hz]
    have hk1 : (m.set k (.lst (acc ++ [pvd d])))[k]? = some (.lst (acc ++ [pvd d])) := List.getElem?_set_self hkl
    unfold f_law_nodes_of_
    rw [e_fn]
    unfold b_law_nodes_of
    rw [show startE 3 [pvd d, PV.ref k] = [some (pvd d), some (.ref k), none] from rfl, e_sq, s1]
    simp only [Option.bind_some]
    cases d with
    | tup ds =>
      rw [dp] at hd
      rw [pl] at hp
      rw [sz] at hl
      obtain ⟨e2', h2⟩ := loop ds (acc ++ [pvd (.tup ds)]) (m.set k (.lst (acc ++ [pvd (.tup ds)]))) (some (pvd (.tup ds))) none (by omega) hp hk1 (by simp only [List.length_append, List.length_cons, List.length_nil]; omega)
      rw [List.set_set, List.append_assoc] at h2
      have h3 : (acc ++ ([pvd (.tup ds)] ++ (flL ds).map pvd)) = acc ++ (fl (.tup ds)).map pvd := by rw [fl]; rfl
      rw [h3] at h2
      simp only [e_sq, e_if, e_tru, e_1, e_var, List.getElem?_cons_zero, List.getElem?_cons_succ, Option.bind_some, ht _ (by rw [pl]; exact hp), truG, isTup, Option.map_some, if_true]
      rw [e_for, e_any, e_var]
      simp only [List.getElem?_cons_zero, Option.bind_some]
      rw [show anyQ (pvd (.tup ds)) (m.set k (.lst (acc ++ [pvd (.tup ds)]))) = some ⟨pvdL ds, []⟩ by rw [pvd]; rfl]
      simp only [Option.map_some, Option.bind_some]
      rw [if_pos (by rfl), h2]
      simp only [Option.bind_some, e_rt, e_var, List.getElem?_cons_zero, List.getElem?_cons_succ]
    | _ =>
      first
      | (cases hp; done)
      | (simp only [e_sq, e_if, e_tru, e_1, e_var, List.getElem?_cons_zero, List.getElem?_cons_succ, Option.bind_some, ht _ hp, truG, isTup, Option.map_some, Bool.false_eq_true, if_false, e_nx, e_rt, fl, List.map_cons, List.map_nil])
theorem chg_ok : ∀ (n : Nat) (d : DV) (k : Int) (o : DV) (b : Nat) (m : Mem), dp d < n → pl d = true → sz d ≤ 3000 → m[b]? = some (.lst [.int k]) →
    ∃ m', f_law_changed_ n [pvd d, .ref b, pvd o] m = some (pvd (chD d k o).1, m') ∧ m'[b]? = some (.lst [.int (chD d k o).2]) ∧ m.length ≤ m'.length ∧ ∀ j, j < m.length → j ≠ b → m'[j]? = m[j]?
  | 0, d, k, o, b, m, hd, _, _, _ => absurd hd (Nat.not_lt_zero _)
  | n + 1, d, k, o, b, m, hd, hp, hs, hb => by
    have loop : ∀ (ds : List DV) (k : Int) (acc : List PV) (m : Mem) (D : Nat), dpL ds < n → plL ds = true → szL ds ≤ 3000 → m[b]? = some (.lst [.int k]) → m[D]? = some (.lst acc) → b ≠ D → acc.length + ds.length ≤ 4000 →
        ∃ m', lcLP (pNm 3) tYs (xCall 3 (f_law_changed_ n) (aCons (xVar 3) (aCons (xVar 1) (aCons (xVar 2) aNil)))) [] D [some (pvd d), some (.ref b), some (pvd o), none] (pvdL ds) m acc = some (acc ++ pvdL (chL ds k o).1, m') ∧ m'[b]? = some (.lst [.int (chL ds k o).2]) ∧ m'[D]? = some (.lst (acc ++ pvdL (chL ds k o).1)) ∧ m.length ≤ m'.length ∧ ∀ j, j < m.length → j ≠ b → j ≠ D → m'[j]? = m[j]? := by
      intro ds
      induction ds with
      | nil =>
        intro k acc m D _ _ _ hb hD _ _
        refine ⟨m, ?_, by rw [chL]; exact hb, by rw [chL, pvdL, List.append_nil]; exact hD, Nat.le_refl _, fun _ _ _ _ => rfl⟩
        rw [pvdL, chL, pvdL, List.append_nil]; rfl
      | cons d' ds ih =>
        intro k acc m D hd hp hs hb hD hbD hl
        rw [dpL] at hd
        rw [plL, Bool.and_eq_true] at hp
        rw [szL] at hs
        rw [List.length_cons] at hl
        have lD := lt_of hD
        have lb := lt_of hb
        obtain ⟨m1, h1, h2, h3, h4⟩ := chg_ok n d' k o b m (by omega) hp.1 (by omega) hb
        have hD1 : m1[D]? = some (.lst acc) := (h4 D lD (Ne.symm hbD)).trans hD
        obtain ⟨m2, g1, g2, g3, g4, g5⟩ := ih (chD d' k o).2 (acc ++ [pvd (chD d' k o).1]) (m1.set D (.lst (acc ++ [pvd (chD d' k o).1]))) D (by omega) hp.2 (by omega) (by rw [List.getElem?_set_ne (Ne.symm hbD)]; exact h2) (List.getElem?_set_self (lt_of hD1)) hbD (by simp only [List.length_append, List.length_cons, List.length_nil]; omega)
        rw [List.append_assoc] at g1 g3
        rw [List.length_set] at g4 g5
        refine ⟨m2, ?_, by rw [chL]; exact g2, by rw [chL, pvdL]; exact g3, by omega, fun j a b' c' => ?_⟩
        · rw [pvdL, chL, pvdL]
          unfold lcLP
          have hz : acc.length < PySem.sizeLine := Nat.lt_of_lt_of_le (show acc.length < 1000000 by omega) (by decide)
          simp only [pNm, Option.bind_some, e_ys, if_true, e_call, e_aCons, e_aNil, e_var, List.set_cons_succ, List.set_cons_zero, List.getElem?_cons_zero, List.getElem?_cons_succ, List.length_cons, List.length_nil, Nat.zero_add, Nat.reduceAdd, h1]
          rw [if_pos ⟨by rfl, hD1, hz⟩]
          exact g1
        · rw [g5 j (by omega) b' c', List.getElem?_set_ne (Ne.symm c'), h4 j a b']
    have lb := lt_of hb
    have s1 : sAs (x2 subG (x2 ixG (xVar 1) (xC (.int (0)))) (xC (.int (1)))) (gIx (xVar 1) (xC (.int (0)))) [some (pvd d), some (.ref b), some (pvd o), none] m = some (.nx, [some (pvd d), some (.ref b), some (pvd o), none], m.set b (.lst [.int (k - 1)])) := by
      simp only [e_as, e_2, e_var, e_c, e_gix, List.getElem?_cons_zero, List.getElem?_cons_succ, Option.bind_some, ix_r, hb, ix_int, atI_0, Option.map_some, subG, set_r, List.length_cons, List.length_nil, Nat.zero_add, ixN_0, List.set_cons_zero]
    have hb1 : (m.set b (.lst [.int (k - 1)]))[b]? = some (.lst [.int (k - 1)]) := List.getElem?_set_self lb
    have keep : ∀ j, j < m.length → j ≠ b → (m.set b (.lst [.int (k - 1)]))[j]? = m[j]? := fun j _ h => List.getElem?_set_ne (Ne.symm h)
    generalize hm1 : m.set b (.lst [.int (k - 1)]) = m1 at *
    have hlen : m1.length = m.length := by rw [← hm1, List.length_set]
    have t1 : tBl (x2 eqG (x2 ixG (xVar 1) (xC (.int (0)))) (xC (.int (0)))) [some (pvd d), some (.ref b), some (pvd o), none] m1 = some (decide (k - 1 = 0), m1) := by
      simp only [e_bl, e_2, e_var, e_c, List.getElem?_cons_zero, List.getElem?_cons_succ, Option.bind_some, ix_r, hb1, ix_int, atI_0, Option.map_some, eqG, eqB]
    have ht := isG_pv d
    unfold f_law_changed_
    rw [e_fn]
    unfold b_law_changed
    rw [show startE 4 [pvd d, PV.ref b, pvd o] = [some (pvd d), some (.ref b), some (pvd o), none] from rfl, e_sq, s1]
    simp only [Option.bind_some]
    rw [e_sq, e_if, t1]
    simp only [Option.bind_some, decide_eq_true_eq]
    by_cases h0 : k - 1 = 0
    · rw [if_pos h0]
      have e1 : chD d k o = (o, k - 1) := by cases d <;> simp only [chD, if_pos h0]
      simp only [e_rt, e_var, List.getElem?_cons_zero, List.getElem?_cons_succ, Option.bind_some, e1]
      exact ⟨m1, rfl, hb1, by omega, keep⟩
    · rw [if_neg h0]
      simp only [e_nx, Option.bind_some]
      cases d with
      | tup ds =>
        rw [dp] at hd
        rw [pl] at hp
        rw [sz] at hs
        have hls := len_szL ds
        obtain ⟨m2, g1, g2, g3, g4, g5⟩ := loop ds (k - 1) [] (m1 ++ [.lst []]) m1.length (by omega) hp (by omega) (by rw [List.getElem?_append_left (lt_of hb1)]; exact hb1) (by simp) (Nat.ne_of_lt (lt_of hb1)) (by simp only [List.length_nil, Nat.zero_add]; omega)
        rw [List.nil_append] at g1 g3
        rw [List.length_append, List.length_cons, List.length_nil] at g4 g5
        rw [chD, if_neg h0]
        refine ⟨m2, ?_, g2, by omega, fun j a b' => ?_⟩
        · rw [e_sq, e_if, e_nt, e_tru, e_1, e_var]
          simp only [List.getElem?_cons_zero, Option.bind_some, ht _ (by rw [pl]; exact hp), truG, isTup, Option.map_some, Bool.not_true, Bool.false_eq_true, if_false, e_nx]
          rw [e_rt, e_A, e_aCons]
          have hl : xLcP (List.map (·.2) ([("part", 3)] : List (PySem.Str × Nat))) (iAny (xVar 0)) (pNm 3) tYs (xCall 3 (f_law_changed_ n) (aCons (xVar 3) (aCons (xVar 1) (aCons (xVar 2) aNil)))) [some (pvd (.tup ds)), some (.ref b), some (pvd o), none] m1 = some (.ref m1.length, m2) := by
            unfold xLcP
            rw [e_any, e_var]
            simp only [List.getElem?_cons_zero, Option.bind_some]
            rw [show anyQ (pvd (.tup ds)) m1 = some ⟨pvdL ds, []⟩ by rw [pvd]; rfl]
            simp only [Option.map_some, Option.bind_some]
            rw [if_pos ⟨by rfl, by simp⟩]
            rw [show wipeE [some (pvd (.tup ds)), some (PV.ref b), some (pvd o), none] (List.map (·.2) ([("part", 3)] : List (PySem.Str × Nat))) = [some (pvd (.tup ds)), some (.ref b), some (pvd o), none] from rfl, g1]
            rfl
          rw [hl]
          simp only [Option.bind_some, e_aNil, tupleG, itemsB, g3, Option.map_some, pvd]
        · rw [g5 j (by omega) b' (by omega), List.getElem?_append_left (by omega), keep j a b']
      | _ =>
        first
        | (cases hp; done)
        | (rw [e_sq, e_if, e_nt, e_tru, e_1, e_var]
           simp only [List.getElem?_cons_zero, Option.bind_some, ht _ hp, truG, isTup, Option.map_some, Bool.not_false, if_true, e_rt, e_var, chD, if_neg h0]
           exact ⟨m1, rfl, hb1, by omega, keep⟩)
/-- all parts of a value -/
def nodesV (d : DV) : Option DV := if pl d = true ∧ dp d < 20 ∧ sz d ≤ 3000 then some (.lst (fl d)) else none
theorem dt_pl {T : Tk} {A : Nat → Prop} {m : Mem} {d : DV} {p : PV} (h : pl d = true) (D : Dt T A m d p) : p = pvd d := by
  have D' : D2 T A m d p := by
    cases d with
    | lst ds => cases h
    | _ => exact D
  exact (d2_pv d p h).mp D'
theorem sf_nodes {T : Tk} {a2 : E2} {a : Ex} (h : SXp T a2 a) : SXf T (y1 nodesV a2) (xCall 2 f_law_nodes_of (aCons a (aCons (xA lstG aNil) aNil))) := fun A m c B v2 v w E r c' q => by
  obtain ⟨⟨d, c1⟩, q1, q⟩ := Option.bind_eq_some_iff.mp q
  obtain ⟨d', q2, q⟩ := Option.map_eq_some_iff.mp q
  cases q
  obtain ⟨p, m1, A1, h1, h2, h3, h4⟩ := h A m c B v2 v w E _ _ q1
  unfold nodesV at q2
  split at q2
  · rename_i hd
    cases q2
    obtain rfl := dt_pl hd.1 h4
    have hn := nodes_ok 20 d [] m1.length (m1 ++ [.lst []]) hd.2.1 hd.1 (by simp) (by simp only [List.length_nil, Nat.zero_add]; exact hd.2.2)
    rw [List.nil_append] at hn
    have hset : (m1 ++ [Ob.lst []]).set m1.length (.lst ((fl d).map pvd)) = m1 ++ [.lst ((fl d).map pvd)] := by
      rw [List.set_append_right _ _ (Nat.le_refl _), Nat.sub_self]; rfl
    rw [hset] at hn
    have hl : D2L T A1 m1 (fl d) ((fl d).map pvd) := by
      rw [← pvdL_map]
      exact (d2L_pv _ _ ((plL_iff _).mpr fun e he => (fl_mem d e he).1 hd.1)).mpr rfl
    obtain ⟨z1, z2, ds, k, qs, e1, e2, hk, z3⟩ := fs_new h3 hl
    refine ⟨.ref m1.length, m1 ++ [.lst ((fl d).map pvd)], A1, ?_, h2.trans z1, z2, ds, k, qs, e1, e2, Nat.le_trans h2.le hk, z3⟩
    rw [e_call, e_aCons, h1]
    simp only [Option.bind_some, e_aCons, e_A, e_aNil, lstG, List.length_nil, Nat.zero_le, if_true, List.length_cons, Nat.zero_add, Nat.reduceAdd]
    exact hn
  · cases q2
/-- a part of a value changed -/
def yChg (a k o : E2) : E2 := fun v c => (a v c).bind fun r => (k v r.2).bind fun s => (o v s.2).bind fun t => match s.1 with
  | .int i => if pl r.1 = true ∧ dp r.1 < 20 ∧ sz r.1 ≤ 3000 ∧ pl t.1 = true then some ((chD r.1 i t.1).1, t.2) else none
  | _ => none
theorem sx_chg {T : Tk} {a2 k2 o2 : E2} {a k o : Ex} (ha : SX T a2 a) (hk : SX T k2 k) (ho : SX T o2 o) : SX T (yChg a2 k2 o2) (xCall 3 f_law_changed (aCons a (aCons (xA lstG (aCons k aNil)) (aCons o aNil)))) := fun A m c B v2 v w E r c' q => by
  obtain ⟨⟨d, c1⟩, q1, q⟩ := Option.bind_eq_some_iff.mp q
  obtain ⟨⟨kd, c2⟩, q2, q⟩ := Option.bind_eq_some_iff.mp q
  obtain ⟨⟨od, c3⟩, q3, q⟩ := Option.bind_eq_some_iff.mp q
  cases kd with
  | int i =>
    simp only at q
    split at q
    · rename_i hd
      cases q
      obtain ⟨p, m1, A1, h1, h2, h3, h4⟩ := ha A m c B v2 v w E _ _ q1
      obtain rfl := (d2_pv d p hd.1).mp h4
      obtain ⟨p2, m2, A2, g1, g2, g3, g4⟩ := hk A1 m1 _ B v2 v h3 (E.x w h2) _ _ q2
      rw [d2_int] at g4
      subst g4
      have x2 : Xt T A2 m2 A2 (m2 ++ [.lst [.int i]]) := .app g3.lt
      have w2 : WF T A2 (m2 ++ [.lst [.int i]]) c2 := g3.app _
      obtain ⟨p3, m3, A3, k1, k2', k3, k4⟩ := ho A2 (m2 ++ [.lst [.int i]]) _ B v2 v w2 ((E.x w (h2.trans g2)).x g3 x2) _ _ q3
      obtain rfl := (d2_pv od p3 hd.2.2.2).mp k4
      have hc2 : T.c < m2.length := lt_of g3.at_
      have hj2 : T.j < m2.length := lt_of g3.cells
      have hb : m3[m2.length]? = some (.lst [.int i]) := (k2'.old m2.length (by simp) (by omega)).trans (by simp)
      obtain ⟨m4, f1, f2, f3, f4⟩ := chg_ok 20 d i od m2.length m3 hd.2.1 hd.1 hd.2.2.1 hb
      have L1 := h2.le
      have L2 := g2.le
      have L3 := k2'.le
      rw [List.length_append, List.length_cons, List.length_nil] at L3
      have x13 : Xt T A m A3 m3 := ((h2.trans g2).trans x2).trans k2'
      refine ⟨pvd (chD d i od).1, m4, A3, ?_, ⟨by omega, fun j hj hn => (f4 j (by omega) (by omega)).trans (x13.old j hj hn), x13.up, x13.dn⟩, ⟨(f4 _ (by omega) (by omega)).trans k3.at_, (f4 _ (by omega) (by omega)).trans k3.cells, k3.nA, k3.jA, fun j a => by have := k3.lt j a; omega⟩, (d2_pv _ _ (ch_ok d i od hd.2.2.2 hd.1).1).mpr rfl⟩
      rw [e_call, e_aCons, h1]
      simp only [Option.bind_some]
      rw [e_aCons, e_A, e_aCons, g1]
      simp only [Option.bind_some, e_aNil, lstG, List.length_cons, List.length_nil, Nat.zero_add]
      rw [if_pos (by decide)]
      simp only [Option.bind_some]
      rw [e_aCons, k1]
      simp only [Option.bind_some, e_aNil, List.length_cons, List.length_nil, Nat.zero_add, Nat.reduceAdd, if_true]
      exact f1
    · cases q
  | _ => cases q
end Gen
end

section
set_option Elab.async false
set_option linter.all false
set_option maxRecDepth 100000
namespace Gen
open PySem L2 Rf V2
noncomputable section
variable {T : Tk}
def gb_law_kinds : S2 :=
  (rRt (yLst (zCons (yC (.str "add")) (zCons (yC (.str "and")) (zCons (yC (.str "less")) (zCons (yC (.str "load")) (zCons (yC (.str "mul")) (zCons (yC (.str "out")) (zCons (yC (.str "store")) (zCons (yC (.str "sub")) zNil))))))))))
def g_law_kinds : F2 := fn2f 0 gb_law_kinds
theorem m_law_kinds : SFf T g_law_kinds f_law_kinds := sff_fn
    ((ss_rtf (sf_lst (sa_cons sx_str (sa_cons sx_str (sa_cons sx_str (sa_cons sx_str (sa_cons sx_str (sa_cons sx_str (sa_cons sx_str (sa_cons sx_str sa_nil)))))))))))
def gb_law_whole : S2 :=
  (rRt (yAn (y1 (isV "int") (yPk 0)) (yNt (y1 (isV "bool") (yPk 0)))))
def g_law_whole : F2 := fn2 1 gb_law_whole
theorem m_law_whole : SF T g_law_whole f_law_whole := sf_fn
    ((ss_rt (sx_and (sx_1 o_is sp_var) (sx_not (sx_1 o_is sp_var)))))
def l_law_good_0 : S2 :=
  (rSq (rAs 6 (y2 ixV (yPk 5) (yPk 2)))
    (rSq (rIf (uOr (uNt (uTru (y1 (isV "tuple") (yPk 6)))) (uOr (uBl (y2 neV (y1 lenV (yPk 6)) (yC (.int (2))))) (uBl (y2 neV (y2 ixV (yPk 6) (yC (.int (0)))) (y2 ixV (yCall 0 g_law_kinds zNil) (yPk 2)))))) (rRt (yC (.bl false))) rNx)
    (rIf (uOr (uNt (uTru (yCall 1 g_law_whole (zCons (y2 ixV (yPk 6) (yC (.int (1)))) zNil)))) (uOr (uBl (y2 ltV (y2 ixV (yPk 6) (yC (.int (1)))) (yC (.int (1))))) (uBl (y2 gtV (y2 ixV (yPk 6) (yC (.int (1)))) (yC (.int (9))))))) (rRt (yC (.bl false))) rNx)))
def l_law_good_1 : S2 :=
  (rIf (uOr (uNt (uTru (y1 (isV "tuple") (yPk 1)))) (uOr (uNt (uTru (y1 allV (yLc [7] (jAny (yPk 1)) (qNm 7) uYs (y2 inTV (yPk 7) (yCall 0 g_law_kinds zNil)))))) (uBl (y2 neV (y1 listV (yPk 1)) (y1 srtSetW (yPk 1)))))) (rRt (yC (.bl false))) rNx)
def gb_law_good : S2 :=
  (rSq (rIf (uOr (uNt (uTru (y1 (isV "tuple") (yPk 0)))) (uBl (y2 neV (y1 lenV (yPk 0)) (yC (.int (3)))))) (rRt (yC (.bl false))) rNx)
    (rSq (rAp (qTp 3 (qCons (qNm 3) (qCons (qNm 4) (qCons (qNm 5) qNil)))) (yVar 0))
    (rSq (rIf (uOr (uNt (uTru (yCall 1 g_law_whole (zCons (yVar 3) zNil)))) (uOr (uBl (y2 ltV (yPk 3) (yC (.int (1))))) (uOr (uBl (y2 gtV (yPk 3) (yC (.int (16))))) (uOr (uNt (uTru (y1 (isV "tuple") (yPk 4)))) (uNt (uTru (y1 (isV "tuple") (yPk 5)))))))) (rRt (yC (.bl false))) rNx)
    (rSq (rIf (uOr (uBl (y2 ltV (y1 lenV (yPk 4)) (yC (.int (1))))) (uOr (uBl (y2 gtV (y1 lenV (yPk 4)) (yC (.int (6))))) (uBl (y2 neV (y1 lenV (yPk 5)) (yC (.int (8))))))) (rRt (yC (.bl false))) rNx)
    (rSq (rFor (jAny (yVar 4)) (qNm 1) (l_law_good_1))
    (rSq (rFor (jRg1 (yC (.int (8)))) (qNm 2) (l_law_good_0))
    (rRt (y1 allV (yLc [7] (jAny (yCall 0 g_law_kinds zNil)) (qNm 7) uYs (y1 anyV (yLc [1] (jAny (yPk 4)) (qNm 1) uYs (y2 inV2 (yPk 7) (yPk 1)))))))))))))
def g_law_good : F2 := fn2 8 gb_law_good
theorem m_law_good : SF T g_law_good f_law_good := sf_fn
    ((ss_sq (ss_if (st_or (st_not (st_tru (((sx_1 o_is sp_var)).p))) (st_bl (sx_2 o_ne (((sx_A o_len sp_var)).p) (sx_int).p))) (ss_rt sx_bl) ss_nx)
      (ss_sq (ss_ap (sg_sq (sgs_cons sg_nm (sgs_cons sg_nm (sgs_cons sg_nm sgs_nil)))) sx_var)
      (ss_sq (ss_if (st_or (st_not (st_tru (((sx_call m_law_whole (sa_cons sx_var sa_nil))).p))) (st_or (st_bl (sx_2 o_cmp sp_var (sx_int).p)) (st_or (st_bl (sx_2 o_cmp sp_var (sx_int).p)) (st_or (st_not (st_tru (((sx_1 o_is sp_var)).p))) (st_not (st_tru (((sx_1 o_is sp_var)).p))))))) (ss_rt sx_bl) ss_nx)
      (ss_sq (ss_if (st_or (st_bl (sx_2 o_cmp (((sx_A o_len sp_var)).p) (sx_int).p)) (st_or (st_bl (sx_2 o_cmp (((sx_A o_len sp_var)).p) (sx_int).p)) (st_bl (sx_2 o_ne (((sx_A o_len sp_var)).p) (sx_int).p)))) (ss_rt sx_bl) ss_nx)
      (ss_sq (ss_for (si_any sx_var) sg_nm (ss_if (st_or (st_not (st_tru (((sx_1 o_is sp_var)).p))) (st_or (st_not (st_tru (((sx_A o_all ((sf_lc (vs := [7]) (sip_any sp_var) sp_nm st_ys (sx_2 o_inT sp_var ((sf_call m_law_kinds sa_nil).p))).p))).p))) (st_bl (sx_2 o_ne ((sf_A o_list sp_var).p) ((sf_1 o_srtSetW sp_var).p))))) (ss_rt sx_bl) ss_nx))
      (ss_sq (ss_for (si_rg1 sx_int) sg_nm (ss_sq (ss_as (sx_2 o_ix sp_var sp_var))
      (ss_sq (ss_if (st_or (st_not (st_tru (((sx_1 o_is sp_var)).p))) (st_or (st_bl (sx_2 o_ne (((sx_A o_len sp_var)).p) (sx_int).p)) (st_bl (sx_2 o_ne (((sx_2 o_ix sp_var (sx_int).p)).p) (((sx_2 o_ix ((sf_call m_law_kinds sa_nil).p) sp_var)).p))))) (ss_rt sx_bl) ss_nx)
      (ss_if (st_or (st_not (st_tru (((sx_call m_law_whole (sa_cons (sx_2 o_ix sp_var (sx_int).p) sa_nil))).p))) (st_or (st_bl (sx_2 o_cmp (((sx_2 o_ix sp_var (sx_int).p)).p) (sx_int).p)) (st_bl (sx_2 o_cmp (((sx_2 o_ix sp_var (sx_int).p)).p) (sx_int).p)))) (ss_rt sx_bl) ss_nx))))
      (ss_rt (sx_A o_all ((sf_lc (vs := [7]) (sip_any ((sf_call m_law_kinds sa_nil).p)) sp_nm st_ys (sx_A o_any ((sf_lc (vs := [1]) (sip_any sp_var) sp_nm st_ys (sx_2 o_in sp_var sp_var)).p))).p))))))))))
def gb_is_number : S2 :=
  (rRt (yAn (y1 (isV "int") (yPk 0)) (yNt (y1 (isV "bool") (yPk 0)))))
def g_is_number : F2 := fn2 1 gb_is_number
theorem m_is_number : SF T g_is_number f_is_number := sf_fn
    ((ss_rt (sx_and (sx_1 o_is sp_var) (sx_not (sx_1 o_is sp_var)))))
def gb_is_kind : S2 :=
  (rRt (yAn (y1 (isV "str") (yPk 0)) (y2 inV2 (yPk 0) (yC (.tup ((["add", "and", "less", "load", "mul", "out", "store", "sub"] : List PySem.Str).map DV.str))))))
def g_is_kind : F2 := fn2 1 gb_is_kind
theorem m_is_kind : SF T g_is_kind f_is_kind := sf_fn
    ((ss_rt (sx_and (sx_1 o_is sp_var) (sx_2 o_in sp_var (((sx_gt ["add", "and", "less", "load", "mul", "out", "store", "sub"])).p)))))
def gb_are_kinds : S2 :=
  (rSq (rIf (uOr (uNt (uTru (y1 (isV "tuple") (yPk 0)))) (uNt (uTru (y1 allV (yLc [1] (jAny (yPk 0)) (qNm 1) uYs (yCall 1 g_is_kind (zCons (yVar 1) zNil))))))) (rRt (yC (.bl false))) rNx)
    (rRt (y2 eqV (y1 listV (yPk 0)) (y1 srtSetW (yPk 0)))))
def g_are_kinds : F2 := fn2 2 gb_are_kinds
theorem m_are_kinds : SF T g_are_kinds f_are_kinds := sf_fn
    ((ss_sq (ss_if (st_or (st_not (st_tru (((sx_1 o_is sp_var)).p))) (st_not (st_tru (((sx_A o_all ((sf_lc (vs := [1]) (sip_any sp_var) sp_nm st_ys (sx_call m_is_kind (sa_cons sx_var sa_nil))).p))).p)))) (ss_rt sx_bl) ss_nx)
      (ss_rt (sx_2 o_eq ((sf_A o_list sp_var).p) ((sf_1 o_srtSetW sp_var).p)))))
def gb_are_slots : S2 :=
  (rSq (rIf (uOr (uNt (uTru (y1 (isV "tuple") (yPk 0)))) (uNt (uTru (y1 allV (yLc [2] (jAny (yPk 0)) (qNm 2) uYs (yCall 1 g_are_kinds (zCons (yVar 2) zNil))))))) (rRt (yC (.bl false))) rNx)
    (rRt (y1 allV (yLc [1] (jAny (yC (.tup ((["add", "and", "less", "load", "mul", "out", "store", "sub"] : List PySem.Str).map DV.str)))) (qNm 1) uYs (y1 anyV (yLc [2] (jAny (yPk 0)) (qNm 2) uYs (y2 inV2 (yPk 1) (yPk 2))))))))
def g_are_slots : F2 := fn2 3 gb_are_slots
theorem m_are_slots : SF T g_are_slots f_are_slots := sf_fn
    ((ss_sq (ss_if (st_or (st_not (st_tru (((sx_1 o_is sp_var)).p))) (st_not (st_tru (((sx_A o_all ((sf_lc (vs := [2]) (sip_any sp_var) sp_nm st_ys (sx_call m_are_kinds (sa_cons sx_var sa_nil))).p))).p)))) (ss_rt sx_bl) ss_nx)
      (ss_rt (sx_A o_all ((sf_lc (vs := [1]) (sip_any (((sx_gt ["add", "and", "less", "load", "mul", "out", "store", "sub"])).p)) sp_nm st_ys (sx_A o_any ((sf_lc (vs := [2]) (sip_any sp_var) sp_nm st_ys (sx_2 o_in sp_var sp_var)).p))).p)))))
def gb_is_tuple : S2 :=
  (rRt (yAn (y1 (isV "tuple") (yPk 0)) (y2 eqV (y1 lenV (yPk 0)) (yPk 1))))
def g_is_tuple : F2 := fn2 2 gb_is_tuple
theorem m_is_tuple : SF T g_is_tuple f_is_tuple := sf_fn
    ((ss_rt (sx_and (sx_1 o_is sp_var) (sx_2 o_eq (((sx_A o_len sp_var)).p) sp_var))))
def gb_is_word : S2 :=
  (rRt (yAn (y1 (isV "str") (yPk 0)) (y2 eqV (yPk 0) (yPk 1))))
def g_is_word : F2 := fn2 2 gb_is_word
theorem m_is_word : SF T g_is_word f_is_word := sf_fn
    ((ss_rt (sx_and (sx_1 o_is sp_var) (sx_2 o_eq sp_var sp_var))))
def gb_is_latency : S2 :=
  (rRt (yAn (yCall 2 g_is_tuple (zCons (yVar 0) (zCons (yC (.int (2))) zNil))) (yAn (yCall 2 g_is_word (zCons (y2 ixV (yPk 0) (yC (.int (0)))) (zCons (yVar 1) zNil))) (yCall 1 g_is_number (zCons (y2 ixV (yPk 0) (yC (.int (1)))) zNil)))))
def g_is_latency : F2 := fn2 2 gb_is_latency
theorem m_is_latency : SF T g_is_latency f_is_latency := sf_fn
    ((ss_rt (sx_and (sx_call m_is_tuple (sa_cons sx_var (sa_cons sx_int sa_nil))) (sx_and (sx_call m_is_word (sa_cons (sx_2 o_ix sp_var (sx_int).p) (sa_cons sx_var sa_nil))) (sx_call m_is_number (sa_cons (sx_2 o_ix sp_var (sx_int).p) sa_nil))))))
def gb_are_latencies : S2 :=
  (rSq (rIf (uNt (uTru (yCall 2 g_is_tuple (zCons (yVar 0) (zCons (y1 lenV (yC (.tup ((["add", "and", "less", "load", "mul", "out", "store", "sub"] : List PySem.Str).map DV.str)))) zNil))))) (rRt (yC (.bl false))) rNx)
    (rRt (y1 allV (yLc [1, 2] (jZp (yPk 0) (yC (.tup ((["add", "and", "less", "load", "mul", "out", "store", "sub"] : List PySem.Str).map DV.str)))) (qTp 2 (qCons (qNm 1) (qCons (qNm 2) qNil))) uYs (yCall 2 g_is_latency (zCons (yVar 1) (zCons (yVar 2) zNil)))))))
def g_are_latencies : F2 := fn2 3 gb_are_latencies
theorem m_are_latencies : SF T g_are_latencies f_are_latencies := sf_fn
    ((ss_sq (ss_if (st_not (st_tru (((sx_call m_is_tuple (sa_cons sx_var (sa_cons (sx_A o_len (((sx_gt ["add", "and", "less", "load", "mul", "out", "store", "sub"])).p)) sa_nil)))).p))) (ss_rt sx_bl) ss_nx)
      (ss_rt (sx_A o_all ((sf_lc (vs := [1, 2]) (sip_zp sp_var (((sx_gt ["add", "and", "less", "load", "mul", "out", "store", "sub"])).p)) (sp_tp (sps_cons sp_nm (sps_cons sp_nm sps_nil))) st_ys (sx_call m_is_latency (sa_cons sx_var (sa_cons sx_var sa_nil)))).p)))))
def gb_has_machine_form : S2 :=
  (rSq (rIf (uNt (uTru (yCall 2 g_is_tuple (zCons (yVar 0) (zCons (yC (.int (3))) zNil))))) (rRt (yC (.bl false))) rNx)
    (rSq (rAp (qTp 3 (qCons (qNm 1) (qCons (qNm 2) (qCons (qNm 3) qNil)))) (yVar 0))
    (rRt (yAn (yCall 1 g_is_number (zCons (yVar 1) zNil)) (yAn (yCall 1 g_are_slots (zCons (yVar 2) zNil)) (yCall 1 g_are_latencies (zCons (yVar 3) zNil)))))))
def g_has_machine_form : F2 := fn2 4 gb_has_machine_form
theorem m_has_machine_form : SF T g_has_machine_form f_has_machine_form := sf_fn
    ((ss_sq (ss_if (st_not (st_tru (((sx_call m_is_tuple (sa_cons sx_var (sa_cons sx_int sa_nil)))).p))) (ss_rt sx_bl) ss_nx)
      (ss_sq (ss_ap (sg_sq (sgs_cons sg_nm (sgs_cons sg_nm (sgs_cons sg_nm sgs_nil)))) sx_var)
      (ss_rt (sx_and (sx_call m_is_number (sa_cons sx_var sa_nil)) (sx_and (sx_call m_are_slots (sa_cons sx_var sa_nil)) (sx_call m_are_latencies (sa_cons sx_var sa_nil))))))))
def gb_is_within_limits : S2 :=
  (rSq (rAp (qTp 3 (qCons (qNm 1) (qCons (qNm 2) (qCons (qNm 3) qNil)))) (yVar 0))
    (rSq (rIf (uOr (uBl (y2 ltV (yPk 1) (yC (.int (1))))) (uOr (uBl (y2 gtV (yPk 1) (yC (.int (16))))) (uBl (y2 gtV (y1 lenV (yPk 2)) (yC (.int (6))))))) (rRt (yC (.bl false))) rNx)
    (rRt (y1 allV (yLc [4, 5] (jAny (yPk 3)) (qTp 2 (qCons (qNm 4) (qCons (qNm 5) qNil))) uYs (yCh leV leV (yC (.int (1))) (yPk 5) (yC (.int (9)))))))))
def g_is_within_limits : F2 := fn2 6 gb_is_within_limits
theorem m_is_within_limits : SF T g_is_within_limits f_is_within_limits := sf_fn
    ((ss_sq (ss_ap (sg_sq (sgs_cons sg_nm (sgs_cons sg_nm (sgs_cons sg_nm sgs_nil)))) sx_var)
      (ss_sq (ss_if (st_or (st_bl (sx_2 o_cmp sp_var (sx_int).p)) (st_or (st_bl (sx_2 o_cmp sp_var (sx_int).p)) (st_bl (sx_2 o_cmp (((sx_A o_len sp_var)).p) (sx_int).p)))) (ss_rt sx_bl) ss_nx)
      (ss_rt (sx_A o_all ((sf_lc (vs := [4, 5]) (sip_any sp_var) (sp_tp (sps_cons sp_nm (sps_cons sp_nm sps_nil))) st_ys (sx_ch o_cmp o_cmp (sx_int).p sp_var (sx_int).p)).p))))))
def gb_is_machine : S2 :=
  (rRt (yAn (yCall 1 g_has_machine_form (zCons (yVar 0) zNil)) (yCall 1 g_is_within_limits (zCons (yVar 0) zNil))))
def g_is_machine : F2 := fn2 1 gb_is_machine
theorem m_is_machine : SF T g_is_machine f_is_machine := sf_fn
    ((ss_rt (sx_and (sx_call m_has_machine_form (sa_cons sx_var sa_nil)) (sx_call m_is_within_limits (sa_cons sx_var sa_nil)))))
def gb_law_other : S2 :=
  (rSq (rAs 2 (yCall 2 g_law_take (zCons (yVar 0) (zCons (yC (.int (8))) zNil))))
    (rSq (rAp (qTp 3 (qCons (qNm 6) (qCons (qNm 7) (qCons (qNm 8) qNil)))) (yVar 1))
    (rSq (rAs 3 (yCall 2 g_law_take (zCons (yVar 0) (zCons (y1 lenV (yPk 7)) zNil))))
    (rSq (rAs 4 (y2 ixV (yPk 7) (yPk 3)))
    (rSq (rIf (uBl (y2 eqV (yPk 2) (yC (.int (0))))) (rRt (yTup (zCons (y2 ixV (yLst (zCons (yC (.int (0))) (zCons (yC (.int (16))) (zCons (yC (.int (17))) (zCons (y2 subV (yC (.int (0))) (yC (.int (1)))) zNil))))) (yCall 2 g_law_take (zCons (yVar 0) (zCons (yC (.int (4))) zNil)))) (zCons (yVar 7) (zCons (yVar 8) zNil))))) rNx)
    (rSq (rIf (uBl (y2 eqV (yPk 2) (yC (.int (1))))) (rRt (yTup (zCons (yVar 6) (zCons (y2 addV (y2 addV (ySl (yPk 7) oN2 (oS2 (yVar 3))) (yTup (zCons (y2 addV (yPk 4) (ySl (yPk 4) (oS2 (y1 negV (yC (.int (1))))) oN2)) zNil))) (ySl (yPk 7) (oS2 (y2 addV (yPk 3) (yC (.int (1))))) oN2)) (zCons (yVar 8) zNil))))) rNx)
    (rSq (rIf (uBl (y2 eqV (yPk 2) (yC (.int (2))))) (rRt (yTup (zCons (yVar 6) (zCons (y2 addV (y2 addV (ySl (yPk 7) oN2 (oS2 (yVar 3))) (yTup (zCons (y1 revV (yPk 4)) zNil))) (ySl (yPk 7) (oS2 (y2 addV (yPk 3) (yC (.int (1))))) oN2)) (zCons (yVar 8) zNil))))) rNx)
    (rSq (rIf (uBl (y2 eqV (yPk 2) (yC (.int (3))))) (rRt (yTup (zCons (yVar 6) (zCons (y2 addV (y2 addV (ySl (yPk 7) oN2 (oS2 (yVar 3))) (yTup (zCons (ySl (yPk 4) (oS2 (yC (.int (1)))) oN2) zNil))) (ySl (yPk 7) (oS2 (y2 addV (yPk 3) (yC (.int (1))))) oN2)) (zCons (yVar 8) zNil))))) rNx)
    (rSq (rIf (uBl (y2 eqV (yPk 2) (yC (.int (4))))) (rRt (yTup (zCons (yVar 6) (zCons (ySl (y2 addV (yPk 7) (y2 tmulV (yTup (zCons (yTup zNil) zNil)) (yC (.int (6))))) oN2 (oS2 (y2 addV (yC (.int (5))) (yCall 2 g_law_take (zCons (yVar 0) (zCons (yC (.int (3))) zNil)))))) (zCons (yVar 8) zNil))))) rNx)
    (rSq (rAs 5 (yCall 2 g_law_take (zCons (yVar 0) (zCons (yC (.int (8))) zNil))))
    (rSq (rIf (uBl (y2 eqV (yPk 2) (yC (.int (5))))) (rRt (yTup (zCons (yVar 6) (zCons (yVar 7) (zCons (y2 addV (y2 addV (ySl (yPk 8) oN2 (oS2 (yVar 5))) (yTup (zCons (yTup (zCons (y2 ixV (y2 ixV (yPk 8) (yPk 5)) (yC (.int (0)))) (zCons (y2 ixV (yLst (zCons (yC (.int (0))) (zCons (yC (.int (9))) (zCons (yC (.int (10))) zNil)))) (yCall 2 g_law_take (zCons (yVar 0) (zCons (yC (.int (3))) zNil)))) zNil))) zNil))) (ySl (yPk 8) (oS2 (y2 addV (yPk 5) (yC (.int (1))))) oN2)) zNil))))) rNx)
    (rSq (rIf (uBl (y2 eqV (yPk 2) (yC (.int (6))))) (rRt (yTup (zCons (yVar 6) (zCons (yVar 7) (zCons (y2 ixV (yLst (zCons (y1 revV (yPk 8)) (zCons (ySl (yPk 8) oN2 (oS2 (yVar 5))) (zCons (y2 addV (yPk 8) (ySl (yPk 8) oN2 (oS2 (yC (.int (1)))))) zNil)))) (yCall 2 g_law_take (zCons (yVar 0) (zCons (yC (.int (3))) zNil)))) zNil))))) rNx)
    (rRt (yTup (zCons (yVar 6) (zCons (y2 addV (y2 addV (ySl (yPk 7) oN2 (oS2 (yVar 3))) (yTup (zCons (y2 addV (yPk 4) (yTup (zCons (yC (.str "nop")) zNil))) zNil))) (ySl (yPk 7) (oS2 (y2 addV (yPk 3) (yC (.int (1))))) oN2)) (zCons (yVar 8) zNil)))))))))))))))))
def g_law_other : F2 := fn2 9 gb_law_other
theorem m_law_other : SF T g_law_other f_law_other := sf_fn
    ((ss_sq (ss_as (sx_call m_law_take (sa_cons sx_var (sa_cons sx_int sa_nil))))
      (ss_sq (ss_ap (sg_sq (sgs_cons sg_nm (sgs_cons sg_nm (sgs_cons sg_nm sgs_nil)))) sx_var)
      (ss_sq (ss_as (sx_call m_law_take (sa_cons sx_var (sa_cons (sx_A o_len sp_var) sa_nil))))
      (ss_sq (ss_as (sx_2 o_ix sp_var sp_var))
      (ss_sq (ss_if (st_bl (sx_2 o_eq sp_var (sx_int).p)) (ss_rt (sx_tup (sa_cons (sx_2 o_ix ((sf_lst (sa_cons sx_int (sa_cons sx_int (sa_cons sx_int (sa_cons (sx_2 o_sub (sx_int).p (sx_int).p) sa_nil))))).p) (((sx_call m_law_take (sa_cons sx_var (sa_cons sx_int sa_nil)))).p)) (sa_cons sx_var (sa_cons sx_var sa_nil))))) ss_nx)
      (ss_sq (ss_if (st_bl (sx_2 o_eq sp_var (sx_int).p)) (ss_rt (sx_tup (sa_cons sx_var (sa_cons (sx_2 o_add (((sx_2 o_add (((sx_sl sp_var so_none (so_some sx_var))).p) (((sx_tup (sa_cons (sx_2 o_add sp_var (((sx_sl sp_var (so_some (sx_1 o_neg (sx_int).p)) so_none)).p)) sa_nil))).p))).p) (((sx_sl sp_var (so_some (sx_2 o_add sp_var (sx_int).p)) so_none)).p)) (sa_cons sx_var sa_nil))))) ss_nx)
      (ss_sq (ss_if (st_bl (sx_2 o_eq sp_var (sx_int).p)) (ss_rt (sx_tup (sa_cons sx_var (sa_cons (sx_2 o_add (((sx_2 o_add (((sx_sl sp_var so_none (so_some sx_var))).p) (((sx_tup (sa_cons (sx_1 o_rev sp_var) sa_nil))).p))).p) (((sx_sl sp_var (so_some (sx_2 o_add sp_var (sx_int).p)) so_none)).p)) (sa_cons sx_var sa_nil))))) ss_nx)
      (ss_sq (ss_if (st_bl (sx_2 o_eq sp_var (sx_int).p)) (ss_rt (sx_tup (sa_cons sx_var (sa_cons (sx_2 o_add (((sx_2 o_add (((sx_sl sp_var so_none (so_some sx_var))).p) (((sx_tup (sa_cons (sx_sl sp_var (so_some sx_int) so_none) sa_nil))).p))).p) (((sx_sl sp_var (so_some (sx_2 o_add sp_var (sx_int).p)) so_none)).p)) (sa_cons sx_var sa_nil))))) ss_nx)
      (ss_sq (ss_if (st_bl (sx_2 o_eq sp_var (sx_int).p)) (ss_rt (sx_tup (sa_cons sx_var (sa_cons (sx_sl (((sx_2 o_add sp_var (((sx_2 o_tmul (((sx_tup (sa_cons (sx_tup sa_nil) sa_nil))).p) (sx_int).p)).p))).p) so_none (so_some (sx_2 o_add (sx_int).p (((sx_call m_law_take (sa_cons sx_var (sa_cons sx_int sa_nil)))).p)))) (sa_cons sx_var sa_nil))))) ss_nx)
      (ss_sq (ss_as (sx_call m_law_take (sa_cons sx_var (sa_cons sx_int sa_nil))))
      (ss_sq (ss_if (st_bl (sx_2 o_eq sp_var (sx_int).p)) (ss_rt (sx_tup (sa_cons sx_var (sa_cons sx_var (sa_cons (sx_2 o_add (((sx_2 o_add (((sx_sl sp_var so_none (so_some sx_var))).p) (((sx_tup (sa_cons (sx_tup (sa_cons (sx_2 o_ix (((sx_2 o_ix sp_var sp_var)).p) (sx_int).p) (sa_cons (sx_2 o_ix ((sf_lst (sa_cons sx_int (sa_cons sx_int (sa_cons sx_int sa_nil)))).p) (((sx_call m_law_take (sa_cons sx_var (sa_cons sx_int sa_nil)))).p)) sa_nil))) sa_nil))).p))).p) (((sx_sl sp_var (so_some (sx_2 o_add sp_var (sx_int).p)) so_none)).p)) sa_nil))))) ss_nx)
      (ss_sq (ss_if (st_bl (sx_2 o_eq sp_var (sx_int).p)) (ss_rt (sx_tup (sa_cons sx_var (sa_cons sx_var (sa_cons (sx_2 o_ix ((sf_lst (sa_cons (sx_1 o_rev sp_var) (sa_cons (sx_sl sp_var so_none (so_some sx_var)) (sa_cons (sx_2 o_add sp_var (((sx_sl sp_var so_none (so_some sx_int))).p)) sa_nil)))).p) (((sx_call m_law_take (sa_cons sx_var (sa_cons sx_int sa_nil)))).p)) sa_nil))))) ss_nx)
      (ss_rt (sx_tup (sa_cons sx_var (sa_cons (sx_2 o_add (((sx_2 o_add (((sx_sl sp_var so_none (so_some sx_var))).p) (((sx_tup (sa_cons (sx_2 o_add sp_var (((sx_tup (sa_cons sx_str sa_nil))).p)) sa_nil))).p))).p) (((sx_sl sp_var (so_some (sx_2 o_add sp_var (sx_int).p)) so_none)).p)) (sa_cons sx_var sa_nil))))))))))))))))))
def l_law_high_0 : S2 :=
  (rIf (uTru (y1 (isV "tuple") (yPk 5))) (rXa 4 (yPk 5)) rNx)
def l_law_high_1 : S2 :=
  (rSq (rAs 2 (y2 addV (yPk 2) (yC (.int (1)))))
    (rSq (rAs 3 (y2 addV (yPk 3) (y1 lenV (yPk 1))))
    (rSq (rAo 4 (yLst zNil))
    (rSq (rFor (jAny (yVar 1)) (qNm 5) (l_law_high_0))
    (rSq (rFz 4) (rAs 1 (yVar 4)))))))
def gb_law_high : S2 :=
  (rSq (rAs 1 (yLst (zCons (yVar 0) zNil)))
    (rSq (rAs 2 (yC (.int (0))))
    (rSq (rAs 3 (yC (.int (0))))
    (rSq (rWh 1000000 (uAn (uTru (yPk 1)) (uBl (y2 ltV (yPk 3) (yC (.int (4000)))))) (l_law_high_1))
    (rSq (rIf (uTru (yPk 1)) (rRt (yC (.int (1000)))) rNx)
    (rRt (yVar 2)))))))
def g_law_high : F2 := fn2 6 gb_law_high
theorem m_law_high : SF T g_law_high f_law_high := sf_fn
    ((ss_sq (ss_as ((sf_lst (sa_cons sx_var sa_nil)).x))
      (ss_sq (ss_as sx_int)
      (ss_sq (ss_as sx_int)
      (ss_sq (ss_wh (st_and (st_tru sp_var) (st_bl (sx_2 o_cmp sp_var (sx_int).p))) (ss_sq (ss_as (sx_2 o_add sp_var (sx_int).p))
      (ss_sq (ss_as (sx_2 o_add sp_var (((sx_A o_len sp_var)).p)))
      (ss_sq (ss_ao (sf_lst sa_nil))
      (ss_sq (ss_for (si_any sx_var) sg_nm (ss_if (st_tru (((sx_1 o_is sp_var)).p)) (ss_xa sp_var) ss_nx))
      (ss_fz (ss_as sx_var)))))))
      (ss_sq (ss_if (st_tru sp_var) (ss_rt sx_int) ss_nx)
      (ss_rt sx_var)))))))
def gb_law_spoilt : S2 :=
  (rSq (rAs 2 (y1 nodesV (yPk 1)))
    (rSq (rAs 3 (yCall 2 g_law_take (zCons (yVar 0) (zCons (y1 lenV (yPk 2)) zNil))))
    (rSq (rAs 4 (y2 ixV (yPk 2) (yPk 3)))
    (rSq (rAs 5 (y2 ixV (yLst (zCons (y2 ixV (yPk 2) (yCall 2 g_law_take (zCons (yVar 0) (zCons (y1 lenV (yPk 2)) zNil)))) (zCons (y2 ixV (yPk 2) (yCall 2 g_law_take (zCons (yVar 0) (zCons (y1 lenV (yPk 2)) zNil)))) (zCons (yC .non) (zCons (yC (.int (0))) (zCons (yC (.int (1))) (zCons (yTup zNil) (zCons (yTup (zCons (yTup zNil) (zCons (yC (.int (0))) zNil))) (zCons (yTup (zCons (yC (.int (0))) (zCons (yTup (zCons (yTup zNil) (zCons (yC (.int (0))) zNil))) zNil))) (zCons (yC (.bl true)) zNil)))))))))) (yCall 2 g_law_take (zCons (yVar 0) (zCons (yC (.int (9))) zNil)))))
    (rSq (rIf (uAn (uTru (y1 (isV "tuple") (yPk 4))) (uBl (y2 eqV (yCall 2 g_law_take (zCons (yVar 0) (zCons (yC (.int (2))) zNil))) (yC (.int (0)))))) (rAs 5 (y2 ixV (yLst (zCons (ySl (yPk 4) (oS2 (yC (.int (1)))) oN2) (zCons (y2 addV (yPk 4) (ySl (yPk 4) (oS2 (y1 negV (yC (.int (1))))) oN2)) (zCons (y1 revV (yPk 4)) (zCons (ySl (yPk 4) oN2 (oS2 (y1 negV (yC (.int (1)))))) zNil))))) (yCall 2 g_law_take (zCons (yVar 0) (zCons (yC (.int (4))) zNil))))) rNx)
    (rSq (rAs 6 (yChg (yVar 1) (y2 addV (yPk 3) (yC (.int (1)))) (yVar 5)))
    (rSq (rIf (uBl (y2 gtV (yCall 1 g_law_high (zCons (yVar 6) zNil)) (yC (.int (120))))) (rRt (yVar 1)) rNx)
    (rRt (yVar 6)))))))))
def g_law_spoilt : F2 := fn2 7 gb_law_spoilt
theorem m_law_spoilt : SF T g_law_spoilt f_law_spoilt := sf_fn
    ((ss_sq (ss_as ((sf_nodes sp_var).x))
      (ss_sq (ss_as (sx_call m_law_take (sa_cons sx_var (sa_cons (sx_A o_len sp_var) sa_nil))))
      (ss_sq (ss_as (sx_2 o_ix sp_var sp_var))
      (ss_sq (ss_as (sx_2 o_ix ((sf_lst (sa_cons (sx_2 o_ix sp_var (((sx_call m_law_take (sa_cons sx_var (sa_cons (sx_A o_len sp_var) sa_nil)))).p)) (sa_cons (sx_2 o_ix sp_var (((sx_call m_law_take (sa_cons sx_var (sa_cons (sx_A o_len sp_var) sa_nil)))).p)) (sa_cons sx_non (sa_cons sx_int (sa_cons sx_int (sa_cons (sx_tup sa_nil) (sa_cons (sx_tup (sa_cons (sx_tup sa_nil) (sa_cons sx_int sa_nil))) (sa_cons (sx_tup (sa_cons sx_int (sa_cons (sx_tup (sa_cons (sx_tup sa_nil) (sa_cons sx_int sa_nil))) sa_nil))) (sa_cons sx_bl sa_nil)))))))))).p) (((sx_call m_law_take (sa_cons sx_var (sa_cons sx_int sa_nil)))).p)))
      (ss_sq (ss_if (st_and (st_tru (((sx_1 o_is sp_var)).p)) (st_bl (sx_2 o_eq (((sx_call m_law_take (sa_cons sx_var (sa_cons sx_int sa_nil)))).p) (sx_int).p))) (ss_as (sx_2 o_ix ((sf_lst (sa_cons (sx_sl sp_var (so_some sx_int) so_none) (sa_cons (sx_2 o_add sp_var (((sx_sl sp_var (so_some (sx_1 o_neg (sx_int).p)) so_none)).p)) (sa_cons (sx_1 o_rev sp_var) (sa_cons (sx_sl sp_var so_none (so_some (sx_1 o_neg (sx_int).p))) sa_nil))))).p) (((sx_call m_law_take (sa_cons sx_var (sa_cons sx_int sa_nil)))).p))) ss_nx)
      (ss_sq (ss_as (sx_chg sx_var (sx_2 o_add sp_var (sx_int).p) sx_var))
      (ss_sq (ss_if (st_bl (sx_2 o_cmp (((sx_call m_law_high (sa_cons sx_var sa_nil))).p) (sx_int).p)) (ss_rt sx_var) ss_nx)
      (ss_rt sx_var)))))))))
def l_law_machine_0 : S2 :=
  (rIf (uBl (y2 ltV (yCall 2 g_law_take (zCons (yVar 0) (zCons (yC (.int (3))) zNil))) (y2 addV (yPk 4) (y1 intV (y2 eqV (yPk 8) (yC (.int (0)))))))) (rSi 3 (yVar 8) (y2 catV (y2 ixV (yPk 3) (yPk 8)) (yLst (zCons (yVar 5) zNil)))) rNx)
def l_law_machine_1 : S2 :=
  (rSq (rFor (jRg1 (yVar 2)) (qNm 8) (l_law_machine_0))
    (rIf (uNt (uTru (y1 anyV (yLc [9] (jAny (yPk 3)) (qNm 9) uYs (y2 inV2 (yPk 5) (yPk 9)))))) (rSq (rAs 8 (yCall 2 g_law_take (zCons (yVar 0) (zCons (yVar 2) zNil))))
    (rSi 3 (yVar 8) (y2 catV (y2 ixV (yPk 3) (yPk 8)) (yLst (zCons (yVar 5) zNil))))) rNx))
def gb_law_machine : S2 :=
  (rSq (rAs 2 (y2 addV (yC (.int (1))) (yCall 2 g_law_take (zCons (yVar 0) (zCons (y2 ixV (yLst (zCons (yC (.int (3))) (zCons (yC (.int (6))) zNil))) (yCall 2 g_law_take (zCons (yVar 0) (zCons (yC (.int (2))) zNil)))) zNil)))))
    (rSq (rAo 3 (yLc [8] (jRg1 (yVar 2)) (qNm 8) uYs (yLst zNil)))
    (rSq (rAs 4 (yCall 2 g_law_take (zCons (yVar 0) (zCons (yC (.int (3))) zNil))))
    (rSq (rFor (jAny (yCall 0 g_law_kinds zNil)) (qNm 5) (l_law_machine_1))
    (rSq (rAs 6 (y2 ixV (yLst (zCons (yC (.int (1))) (zCons (yC (.int (2))) (zCons (yC (.int (4))) (zCons (yC (.int (9))) zNil))))) (yCall 2 g_law_take (zCons (yVar 0) (zCons (yC (.int (4))) zNil)))))
    (rSq (rAs 7 (y1 tupleV (yLc [5] (jAny (yCall 0 g_law_kinds zNil)) (qNm 5) uYs (yTup (zCons (yVar 5) (zCons (y2 addV (yC (.int (1))) (yCall 2 g_law_take (zCons (yVar 0) (zCons (yVar 6) zNil)))) zNil))))))
    (rRt (yTup (zCons (yVar 1) (zCons (y1 tupleV (yLc [9] (jAny (yPk 3)) (qNm 9) uYs (y1 tupleV (yPk 9)))) (zCons (yVar 7) zNil)))))))))))
def g_law_machine : F2 := fn2 10 gb_law_machine
theorem m_law_machine : SF T g_law_machine f_law_machine := sf_fn
    ((ss_sq (ss_as (sx_2 o_add (sx_int).p (((sx_call m_law_take (sa_cons sx_var (sa_cons (sx_2 o_ix ((sf_lst (sa_cons sx_int (sa_cons sx_int sa_nil))).p) (((sx_call m_law_take (sa_cons sx_var (sa_cons sx_int sa_nil)))).p)) sa_nil)))).p)))
      (ss_sq (ss_ao (sf_lc (vs := [8]) (((si_rg1 sx_var)).p) sp_nm st_ys ((sf_lst sa_nil).x)))
      (ss_sq (ss_as (sx_call m_law_take (sa_cons sx_var (sa_cons sx_int sa_nil))))
      (ss_sq (ss_for (si_any ((sf_call m_law_kinds sa_nil).x)) sg_nm (ss_sq (ss_for (si_rg1 sx_var) sg_nm (ss_if (st_bl (sx_2 o_cmp (((sx_call m_law_take (sa_cons sx_var (sa_cons sx_int sa_nil)))).p) (((sx_2 o_add sp_var (((sx_A o_int (((sx_2 o_eq sp_var (sx_int).p)).p))).p))).p))) (ss_si sx_var ((sf_2 o_cat (((sx_2 o_ix sp_var sp_var)).p) ((sf_lst (sa_cons sx_var sa_nil)).p)).x)) ss_nx))
      (ss_if (st_not (st_tru (((sx_A o_any ((sf_lc (vs := [9]) (sip_any sp_var) sp_nm st_ys (sx_2 o_in sp_var sp_var)).p))).p))) (ss_sq (ss_as (sx_call m_law_take (sa_cons sx_var (sa_cons sx_var sa_nil))))
      (ss_si sx_var ((sf_2 o_cat (((sx_2 o_ix sp_var sp_var)).p) ((sf_lst (sa_cons sx_var sa_nil)).p)).x))) ss_nx)))
      (ss_sq (ss_as (sx_2 o_ix ((sf_lst (sa_cons sx_int (sa_cons sx_int (sa_cons sx_int (sa_cons sx_int sa_nil))))).p) (((sx_call m_law_take (sa_cons sx_var (sa_cons sx_int sa_nil)))).p)))
      (ss_sq (ss_as (sx_A o_tuple ((sf_lc (vs := [5]) (sip_any ((sf_call m_law_kinds sa_nil).p)) sp_nm st_ys (sx_tup (sa_cons sx_var (sa_cons (sx_2 o_add (sx_int).p (((sx_call m_law_take (sa_cons sx_var (sa_cons sx_var sa_nil)))).p)) sa_nil)))).p)))
      (ss_rt (sx_tup (sa_cons sx_var (sa_cons (sx_A o_tuple ((sf_lc (vs := [9]) (sip_any sp_var) sp_nm st_ys (sx_A o_tuple sp_var)).p)) (sa_cons sx_var sa_nil))))))))))))
def l_law_0 : S2 :=
  (rAs 4 (yCall 2 g_law_spoilt (zCons (yVar 1) (zCons (yVar 4) zNil))))
def l_law_1 : S2 :=
  (rSq (rAs 4 (yVar 2))
    (rSq (rIf (uBl (y2 eqV (yCall 2 g_law_take (zCons (yVar 1) (zCons (yC (.int (2))) zNil))) (yC (.int (0))))) (rAs 4 (yCall 2 g_law_other (zCons (yVar 1) (zCons (yVar 4) zNil)))) (rFor (jRg1 (y2 addV (yC (.int (1))) (yCall 2 g_law_take (zCons (yVar 1) (zCons (yC (.int (2))) zNil))))) (qNm 6) (l_law_0)))
    (rSq (rAs 5 (yCall 1 g_is_machine (zCons (yVar 4) zNil)))
    (rIf (uOr (uNt (uTru (y1 (isV "bool") (yPk 5)))) (uBl (y2 neV (yPk 5) (yCall 1 g_law_good (zCons (yVar 4) zNil))))) (rRt (yC (.bl false))) rNx))))
def gb_law : S2 :=
  (rSq (rAs 2 (yCall 2 g_law_machine (zCons (yVar 1) (zCons (y2 addV (yC (.int (1))) (yCall 2 g_law_take (zCons (yVar 1) (zCons (yC (.int (16))) zNil)))) zNil))))
    (rSq (rIf (uBl (y2 notBV (yCall 1 g_is_machine (zCons (yVar 2) zNil)) (yC (.bl true)))) (rRt (yC (.bl false))) rNx)
    (rSq (rFor (jRg1 (yC (.int (6)))) (qNm 3) (l_law_1))
    (rRt (yC (.bl true))))))
theorem m_law : SS T false gb_law b_law_rest := (ss_sq (ss_as (sx_call m_law_machine (sa_cons sx_var (sa_cons (sx_2 o_add (sx_int).p (((sx_call m_law_take (sa_cons sx_var (sa_cons sx_int sa_nil)))).p)) sa_nil))))
      (ss_sq (ss_if (st_bl (sx_2 o_notB (((sx_call m_is_machine (sa_cons sx_var sa_nil))).p) (sx_bl).p)) (ss_rt sx_bl) ss_nx)
      (ss_sq (ss_for (si_rg1 sx_int) sg_nm (ss_sq (ss_as sx_var)
      (ss_sq (ss_if (st_bl (sx_2 o_eq (((sx_call m_law_take (sa_cons sx_var (sa_cons sx_int sa_nil)))).p) (sx_int).p)) (ss_as (sx_call m_law_other (sa_cons sx_var (sa_cons sx_var sa_nil)))) (ss_for (si_rg1 (sx_2 o_add (sx_int).p (((sx_call m_law_take (sa_cons sx_var (sa_cons sx_int sa_nil)))).p))) sg_nm (ss_as (sx_call m_law_spoilt (sa_cons sx_var (sa_cons sx_var sa_nil))))))
      (ss_sq (ss_as (sx_call m_is_machine (sa_cons sx_var sa_nil)))
      (ss_if (st_or (st_not (st_tru (((sx_1 o_is sp_var)).p))) (st_bl (sx_2 o_ne sp_var (((sx_call m_law_good (sa_cons sx_var sa_nil))).p)))) (ss_rt sx_bl) ss_nx)))))
      (ss_rt sx_bl))))
end
end Gen
end

section
set_option maxRecDepth 100000
set_option linter.all false
set_option Elab.async false
namespace Gen
open Rf L2 V2
theorem zl (n : Nat) (h : n ≤ 1000000) : (n ≤ PySem.sizeLine) = True := eq_true (Nat.le_trans h (by decide))
theorem zl0 : ((0 : Nat) ≤ PySem.sizeLine) = True := zl _ (by decide)
theorem zl1 : ((1 : Nat) ≤ PySem.sizeLine) = True := zl _ (by decide)
theorem zl2 : ((2 : Nat) ≤ PySem.sizeLine) = True := zl _ (by decide)
theorem zl3 : ((3 : Nat) ≤ PySem.sizeLine) = True := zl _ (by decide)
theorem zl4 : ((4 : Nat) ≤ PySem.sizeLine) = True := zl _ (by decide)
theorem zl5 : ((5 : Nat) ≤ PySem.sizeLine) = True := zl _ (by decide)
theorem zl6 : ((6 : Nat) ≤ PySem.sizeLine) = True := zl _ (by decide)
theorem zl7 : ((7 : Nat) ≤ PySem.sizeLine) = True := zl _ (by decide)
theorem zl8 : ((8 : Nat) ≤ PySem.sizeLine) = True := zl _ (by decide)
theorem zl12 : ((12 : Nat) ≤ PySem.sizeLine) = True := zl _ (by decide)
theorem zlt (n : Nat) (h : n ≤ 1000) : (n < PySem.sizeLine) = True := eq_true (Nat.lt_of_lt_of_le (show n < 1000000 by omega) (by decide))
local macro_rules | `(tactic| walk_at "q2") => `(tactic| simp only [q_var, q_pk, q_c, q_1, q_2, q_nil, q_cons, q_call, q_tup, q_lst, q_if, q_nt, q_an, q_or, q_ubl, q_unt, q_uan, q_uor, q_uys, q_utru, q_nx, q_ct, q_bk, q_sq, q_ex, q_rt, q_rn, q_ro, q_rif, q_as, q_ao, q_ap, q_fz, q_si, q_ae, q_for, q_jany, q_jrg1, q_jrg2, q_jen, q_jzp, q_qnm, q_qtp, q_qnil, q_qcons, q_lc, q_lc0, q_lc1, q_for0, q_for1, q_fn, q_fnf, q_start, q_on, q_os, q_sl, q_mxD, q_wipe1, q_wipe2, q_wipe3,
  addV, subV, mulV, modV, divV, negV, cmpV, catV, ixV, atD, lenV, intV, tupleV, listV, truV, itV, itS, isNV, notNV, nonB, eqV_int, eqV_str, neV_int, neV_str, atI_at, tne, zl0, zl1, zl2, zl3, zl4, zl5, zl6, zl7, zl8, zl12, valD, kyD,
  Option.bind_some, Option.bind_none, Option.map_some, Option.map_none, List.map_cons, List.map_nil, List.length_cons, List.length_nil, List.length_map, List.length_set, List.replicate, List.cons_append, List.nil_append, List.getElem?_cons_zero, List.getElem?_cons_succ, List.set_cons_zero, List.set_cons_succ, List.isEmpty_cons, List.isEmpty_nil, ne_eq, not_false_eq_true, not_true_eq_false, Nat.reduceAdd, Nat.reduceSub, Nat.reduceEqDiff, Nat.reduceLeDiff, Nat.reduceLT, Nat.reducePow, Int.reducePow, Int.reduceNeg, Int.reduceLT, Int.reduceLE, Int.reduceToNat, Int.toNat_natCast, anyV, allV, Int.reduceAdd, Int.reduceSub, and_self, or_true, true_or, or_false, false_or, true_and, and_true, ↓reduceIte, Nat.add_zero, Nat.zero_add, Nat.sub_self, decide_eq_true_eq, decide_true, decide_false, Bool.false_eq_true, Bool.not_true, Bool.not_false, id_eq, *])

/-! instructions as data -/
inductive Op where
  | reg (k : Int) | int (n : Int)
def Op.e : Op → DV
  | .reg k => .tup [.str "reg", .int k]
  | .int n => .tup [.str "int", .int n]
def Op.ok (many : Int) : Op → Prop
  | .reg k => 0 ≤ k ∧ k < many
  | .int _ => True
inductive Ak where
  | add | and | less | mul | sub
def Ak.s : Ak → PySem.Str
  | .add => "add" | .and => "and" | .less => "less" | .mul => "mul" | .sub => "sub"
inductive In where
  | out (a : Op) | load (d : Int) (a : Op) | store (a b : Op) | ari (k : Ak) (d : Int) (a b : Op)
def In.e : In → DV
  | .out a => .tup [.str "out", a.e]
  | .load d a => .tup [.str "load", .int d, a.e]
  | .store a b => .tup [.str "store", a.e, b.e]
  | .ari k d a b => .tup [.str k.s, .int d, a.e, b.e]
def In.ok (many : Int) : In → Prop
  | .out a => a.ok many
  | .load d a => (0 ≤ d ∧ d < many) ∧ a.ok many
  | .store a b => a.ok many ∧ b.ok many
  | .ari _ d a b => (0 ≤ d ∧ d < many) ∧ a.ok many ∧ b.ok many
/-- a comprehension whose items are drawn -/
theorem lc_draw {α : Type} {i : Nat} {a : E2} {v : Env2} (e : α → DV) (P : α → Prop) : ∀ (xs : List DV) (c : Cs), (∀ (d : DV) (c : Cs), d ∈ xs → ∃ x c', a (v.set i (some (.v d))) c = some (e x, c') ∧ P x) →
    ∃ (ys : List α) (c' : Cs), lcW (qNm i) uYs a v xs c = some (ys.map e, c') ∧ ys.length = xs.length ∧ ∀ y ∈ ys, P y
  | [], c, _ => ⟨[], c, rfl, rfl, nofun⟩
  | d :: xs, c, h => by
    obtain ⟨x, c1, e1, p1⟩ := h d c List.mem_cons_self
    obtain ⟨ys, c2, e2, l2, p2⟩ := lc_draw e P xs c1 fun d c m => h d c (List.mem_cons_of_mem _ m)
    refine ⟨x :: ys, c2, ?_, by rw [List.length_cons, List.length_cons, l2], fun y m => (List.mem_cons.mp m).elim (fun z => z ▸ p1) (p2 y)⟩
    rw [q_lc1]
    simp only [q_qnm, Option.bind_some, q_uys, if_true, e1, e2, Option.map_some, List.map_cons]
theorem range_len (lo : Int) (n : Nat) : (rangeD lo n).length = n := by unfold rangeD; simp
end Gen
end

section
set_option maxRecDepth 100000
set_option linter.all false
set_option Elab.async false
namespace Gen
open Rf L2 V2

theorem forW_one {g : P2} {r : S2} {x : DV} {xs : List DV} {v v1 v2 : Env2} {c c1 : Cs} (h1 : g x v = some v1) (h2 : r v1 c = some (.nx, v2, c1)) : forW g r (x :: xs) v c = forW g r xs v2 c1 := by
  rw [q_for1, h1]; simp only [Option.bind_some]; rw [h2]; rfl
theorem at_lst {α : Type} (f : α → DV) (S : List α) (j : Nat) {s : α} (h : S[j]? = some s) : atI (S.map f) (j : Int) = some (f s) := by
  rw [atI_at (by omega)]; simp [h]
theorem jrg1_at {a : E2} {v : Env2} {c c1 : Cs} {z : Int} (h0 : 0 ≤ z) (h1 : z ≤ 1000000) (h : a v c = some (.int z, c1)) : jRg1 a v c = some (rangeD 0 z.toNat, c1) := by
  rw [q_jrg1, h]
  simp only [Option.bind_some]
  rw [if_pos (by omega)]
theorem sq_nx {r s : S2} {v v' : Env2} {c c' : Cs} (h : r v c = some (.nx, v', c')) : rSq r s v c = s v' c' := by
  rw [q_sq, h]; rfl
theorem for_at {it : I2} {g : P2} {r : S2} {v : Env2} {c c1 : Cs} {ds : List DV} (h : it v c = some (ds, c1)) : rFor it g r v c = forW g r ds v c1 := by
  rw [q_for, h]; rfl
theorem rangeD_range' (n : Nat) : rangeD 0 n = (List.range' 0 n).map fun (i : Nat) => DV.int (i : Int) := by
  unfold rangeD; rw [List.range_eq_range']; simp
theorem range1 (n : Nat) : rangeD 0 n = (List.range n).map fun (j : Nat) => DV.int (j : Int) := by
  rw [rangeD_range', List.range_eq_range']
theorem forW_acc {α J : Type} {g : P2} {r : S2} {c : Cs} (e : α → DV) (f : α → List DV) (E : List DV → J → Env2) (k N : Nat) : ∀ (xs : List α), (∀ x ∈ xs, (f x).length ≤ k) → (∀ x ∈ xs, ∀ F j, F.length + k ≤ N → ∃ v1 j', g (e x) (E F j) = some v1 ∧ r v1 c = some (.nx, E (F ++ f x) j', c)) →
    ∀ F j, F.length + k * xs.length ≤ N → ∃ j', forW g r (xs.map e) (E F j) c = some (.nx, E (F ++ xs.flatMap f) j', c)
  | [], _, _, F, j, _ => ⟨j, by simp [q_for0]⟩
  | x :: xs, hf, st, F, j, hN => by
    rw [List.length_cons, Nat.mul_succ] at hN
    obtain ⟨v1, j1, h1, h2⟩ := st x List.mem_cons_self F j (by omega)
    have := hf x List.mem_cons_self
    obtain ⟨j2, h3⟩ := forW_acc e f E k N xs (fun y m => hf y (List.mem_cons_of_mem _ m)) (fun y m => st y (List.mem_cons_of_mem _ m)) (F ++ f x) j1 (by rw [List.length_append]; omega)
    refine ⟨j2, ?_⟩
    rw [List.map_cons, forW_one h1 h2, h3, List.flatMap_cons, List.append_assoc]
theorem call_at {n : Nat} {F : F2} {as : A2} {v : Env2} {c c1 : Cs} {ds : List DV} (h : as v c = some (ds, c1)) (hl : ds.length = n) : yCall n F as v c = F ds c1 := by
  rw [q_call, h]
  simp only [Option.bind_some]
  rw [if_pos hl]
theorem call1_at {F : F2} {i : Nat} {v : Env2} {c : Cs} {d : DV} (h1 : v[i]? = some (some (.v d))) : yCall 1 F (zCons (yVar i) zNil) v c = F [d] c := by
  simp only [q_call, q_cons, q_nil, q_var, h1, Option.bind_some, List.length_cons, List.length_nil, Nat.reduceAdd, if_true]
theorem call2_at {F : F2} {i j : Nat} {v : Env2} {c : Cs} {d e : DV} (h1 : v[i]? = some (some (.v d))) (h2 : v[j]? = some (some (.v e))) : yCall 2 F (zCons (yVar i) (zCons (yVar j) zNil)) v c = F [d, e] c := by
  simp only [q_call, q_cons, q_nil, q_var, h1, h2, Option.bind_some, List.length_cons, List.length_nil, Nat.reduceAdd, if_true]
theorem call3_at {F : F2} {i j k : Nat} {v : Env2} {c : Cs} {d e f : DV} (h1 : v[i]? = some (some (.v d))) (h2 : v[j]? = some (some (.v e))) (h3 : v[k]? = some (some (.v f))) : yCall 3 F (zCons (yVar i) (zCons (yVar j) (zCons (yVar k) zNil))) v c = F [d, e, f] c := by
  simp only [q_call, q_cons, q_nil, q_var, h1, h2, h3, Option.bind_some, List.length_cons, List.length_nil, Nat.reduceAdd, if_true]
theorem as_at {a : E2} {i : Nat} {v v' : Env2} {c c1 : Cs} {d : DV} (h : a v c = some (d, c1)) (hs : v.set i (some (.v d)) = v') : rAs i a v c = some (.nx, v', c1) := by
  rw [q_as, h, ← hs]; rfl
theorem ao_at {a : E2} {i : Nat} {v v' : Env2} {c c1 : Cs} {ds : List DV} (h : a v c = some (.lst ds, c1)) (hs : v.set i (some (.o ds)) = v') : rAo i a v c = some (.nx, v', c1) := by
  rw [q_ao, h, ← hs]; rfl
theorem rt_at {a : E2} {v : Env2} {c c1 : Cs} {d : DV} (h : a v c = some (d, c1)) : rRt a v c = some (.rt d, v, c1) := by
  rw [q_rt, h]; rfl
theorem y2_at {g : DV → DV → Option DV} {a b : E2} {v : Env2} {c c1 c2 : Cs} {d e r : DV} (h1 : a v c = some (d, c1)) (h2 : b v c1 = some (e, c2)) (h3 : g d e = some r) : y2 g a b v c = some (r, c2) := by
  simp only [q_2, h1, h2, h3, Option.bind_some, Option.map_some]
theorem y1_at {g : DV → Option DV} {a : E2} {v : Env2} {c c1 : Cs} {d r : DV} (h1 : a v c = some (d, c1)) (h3 : g d = some r) : y1 g a v c = some (r, c1) := by
  simp only [q_1, h1, h3, Option.bind_some, Option.map_some]
theorem pk_at {i : Nat} {v : Env2} {c : Cs} {d : DV} (h : v[i]? = some (some (.v d))) : yPk i v c = some (d, c) := by
  rw [q_pk, h]
theorem ubl_at {a : E2} {v : Env2} {c c1 : Cs} {b : Bool} (h : a v c = some (.bl b, c1)) : uBl a v c = some (b, c1) := by
  rw [q_ubl, h]; rfl
theorem utru_at {a : E2} {v : Env2} {c c1 : Cs} {d : DV} {b : Bool} (h : a v c = some (d, c1)) (h2 : truV d = some b) : uTru a v c = some (b, c1) := by
  simp only [q_utru, h, h2, Option.bind_some, Option.map_some]
theorem unt_at {t : T2} {v : Env2} {c c1 : Cs} {b : Bool} (h : t v c = some (b, c1)) : uNt t v c = some (!b, c1) := by
  rw [q_unt, h]; rfl
theorem uor_f {t u : T2} {v : Env2} {c c1 : Cs} (h : t v c = some (false, c1)) : uOr t u v c = u v c1 := by
  rw [q_uor, h]; rfl
theorem rif_f {t : T2} {r s : S2} {v : Env2} {c c1 : Cs} (h : t v c = some (false, c1)) : rIf t r s v c = s v c1 := by
  rw [q_rif, h]; rfl
theorem an_t {a b : E2} {v : Env2} {c c1 : Cs} (h : a v c = some (.bl true, c1)) : yAn a b v c = b v c1 := by
  rw [q_an, h]; rfl
theorem fm_len {α β : Type} (l : List α) (f : α → List β) (k : Nat) (h : ∀ a ∈ l, (f a).length ≤ k) : (l.flatMap f).length ≤ k * l.length := by
  induction l with
  | nil => simp
  | cons a l ih =>
    rw [List.flatMap_cons, List.length_append, List.length_cons, Nat.mul_succ]
    have := ih fun b m => h b (List.mem_cons_of_mem _ m)
    have := h a List.mem_cons_self
    omega
theorem jrg2_at {a b : E2} {v : Env2} {c c1 c2 : Cs} {i j : Int} (h0 : 0 ≤ i ∧ i ≤ 1000000) (h1 : 0 ≤ j ∧ j ≤ 1000000) (h : a v c = some (.int i, c1)) (h' : b v c1 = some (.int j, c2)) : jRg2 a b v c = some (rangeD i (j - i).toNat, c2) := by
  rw [q_jrg2, h]
  simp only [Option.bind_some]
  rw [h']
  simp only [Option.bind_some]
  rw [if_pos (by omega)]
theorem ixV_tup {ds : List DV} {i : Int} : ixV (.tup ds) (.int i) = atI ds i := rfl
theorem ixV_lst {ds : List DV} {i : Int} : ixV (.lst ds) (.int i) = atI ds i := rfl
theorem rif_t {t : T2} {r s : S2} {v : Env2} {c c1 : Cs} (h : t v c = some (true, c1)) : rIf t r s v c = r v c1 := by
  rw [q_rif, h]; rfl
theorem ae_at {a : E2} {i : Nat} {v v' : Env2} {c c1 : Cs} {d : DV} {ds : List DV} (h : a v c = some (d, c1)) (hv : v[i]? = some (some (.o ds))) (hl : ds.length ≤ 1000) (hs : v.set i (some (.o (ds ++ [d]))) = v') : rAe i a v c = some (.nx, v', c1) := by
  rw [q_ae, h]
  simp only [Option.bind_some]
  rw [hv]
  simp only
  rw [if_pos (of_eq_true (zlt _ hl)), ← hs]
theorem q_xe {a : E2} {i : Nat} {v : Env2} {c : Cs} : rXe i a v c = (a v c).bind fun r => match v[i]?, r.1 with
  | some (some (.o ds)), .lst es => if ds.length + es.length ≤ PySem.sizeLine then some (.nx, v.set i (some (.o (ds ++ es))), r.2) else none
  | _, _ => none := rfl
theorem xe_at {a : E2} {i : Nat} {v v' : Env2} {c c1 : Cs} {ds es : List DV} (h : a v c = some (.lst es, c1)) (hv : v[i]? = some (some (.o ds))) (hl : ds.length + es.length ≤ 100000) (hs : v.set i (some (.o (ds ++ es))) = v') : rXe i a v c = some (.nx, v', c1) := by
  rw [q_xe, h]
  simp only [Option.bind_some]
  rw [hv]
  simp only
  rw [if_pos (of_eq_true (zl _ (by omega))), ← hs]
theorem var_at {i : Nat} {v : Env2} {c : Cs} {d : DV} (h : v[i]? = some (some (.v d))) : yVar i v c = some (d, c) := by
  rw [q_var, h]
theorem pko_at {i : Nat} {v : Env2} {c : Cs} {ds : List DV} (h : v[i]? = some (some (.o ds))) : yPk i v c = some (.lst ds, c) := by
  rw [q_pk, h]
theorem ro_at {i : Nat} {v : Env2} {c : Cs} {ds : List DV} (h : v[i]? = some (some (.o ds))) : rRo i v c = some (.rt (.lst ds), v, c) := by
  rw [q_ro, h]
theorem fn_at {n : Nat} {b : S2} {ds : List DV} {V V' : Env2} {c c1 : Cs} {d : DV} (h : start2 n ds = V) (hb : b V c = some (.rt d, V', c1)) : fn2 n b ds c = some (d, c1) := by
  rw [q_fn, h, hb]; rfl
theorem fn_nx {n : Nat} {b : S2} {ds : List DV} {V V' : Env2} {c c1 : Cs} (h : start2 n ds = V) (hb : b V c = some (.nx, V', c1)) : fn2 n b ds c = some (.non, c1) := by
  rw [q_fn, h, hb]; rfl
theorem fnf_at {n : Nat} {b : S2} {ds : List DV} {V V' : Env2} {c c1 : Cs} {d : DV} (h : start2 n ds = V) (hb : b V c = some (.rt d, V', c1)) : fn2f n b ds c = some (d, c1) := by
  rw [q_fnf, h, hb]; rfl
theorem jany_at {a : E2} {v : Env2} {c c1 : Cs} {d : DV} {ds : List DV} (h : a v c = some (d, c1)) (h2 : itV d = some ds) : jAny a v c = some (ds, c1) := by
  rw [q_jany, h]; simp only [Option.bind_some]; rw [h2]; rfl
theorem lc_at {vs : List Nat} {it : I2} {g : P2} {t : T2} {a : E2} {v v' : Env2} {c c1 c2 : Cs} {ds es : List DV} (h : it v c = some (ds, c1)) (hl : ds.length ≤ 100000) (hw : wipe2 v vs = v') (hc : lcW g t a v' ds c1 = some (es, c2)) : yLc vs it g t a v c = some (.lst es, c2) := by
  rw [q_lc, h]
  simp only [Option.bind_some]
  rw [if_pos (of_eq_true (zl _ (by omega))), hw, hc]
  rfl
theorem lst1_at {a : E2} {v : Env2} {c c1 : Cs} {d : DV} (h : a v c = some (d, c1)) : yLst (zCons a zNil) v c = some (.lst [d], c1) := by
  rw [q_lst, q_cons, h]
  simp only [Option.bind_some, q_nil]
  rw [if_pos (of_eq_true (zl _ (by simp)))]

end Gen
end

section
set_option maxRecDepth 100000
set_option linter.all false
set_option Elab.async false
namespace Gen
open Rf L2 V2
local macro_rules | `(tactic| walk_at "q2") => `(tactic| simp only [q_var, q_pk, q_c, q_1, q_2, q_nil, q_cons, q_call, q_tup, q_lst, q_if, q_nt, q_an, q_or, q_ubl, q_unt, q_uan, q_uor, q_uys, q_utru, q_nx, q_ct, q_bk, q_sq, q_ex, q_rt, q_rn, q_ro, q_rif, q_as, q_ao, q_ap, q_fz, q_si, q_ae, q_for, q_jany, q_jrg1, q_jrg2, q_jen, q_jzp, q_qnm, q_qtp, q_qnil, q_qcons, q_lc, q_lc0, q_lc1, q_for0, q_for1, q_fn, q_fnf, q_start, q_on, q_os, q_sl, q_mxD, q_wipe1, q_wipe2, q_wipe3,
  addV, subV, mulV, modV, divV, negV, cmpV, catV, ixV, atD, lenV, intV, tupleV, listV, truV, itV, itS, isNV, notNV, nonB, eqV_int, eqV_str, neV_int, neV_str, atI_at, tne, zl0, zl1, zl2, zl3, zl4, zl5, zl6, zl7, zl8, zl12, valD, kyD,
  Option.bind_some, Option.bind_none, Option.map_some, Option.map_none, List.map_cons, List.map_nil, List.length_cons, List.length_nil, List.length_map, List.length_set, List.replicate, List.cons_append, List.nil_append, List.getElem?_cons_zero, List.getElem?_cons_succ, List.set_cons_zero, List.set_cons_succ, List.isEmpty_cons, List.isEmpty_nil, ne_eq, not_false_eq_true, not_true_eq_false, Nat.reduceAdd, Nat.reduceSub, Nat.reduceEqDiff, Nat.reduceLeDiff, Nat.reduceLT, Nat.reducePow, Int.reducePow, Int.reduceNeg, Int.reduceLT, Int.reduceLE, Int.reduceToNat, Int.toNat_natCast, anyV, allV, Int.reduceAdd, Int.reduceSub, and_self, or_true, true_or, or_false, false_or, true_and, and_true, ↓reduceIte, Nat.add_zero, Nat.zero_add, Nat.sub_self, decide_eq_true_eq, decide_true, decide_false, Bool.false_eq_true, Bool.not_true, Bool.not_false, id_eq, *])

abbrev kinds8 : List PySem.Str := ["add", "and", "less", "load", "mul", "out", "store", "sub"]
abbrev slE (s : List PySem.Str) : DV := .lst (s.map .str)
theorem set_mono {S : List (List PySem.Str)} {j : Nat} {s : List PySem.Str} {x y : PySem.Str} (hs : S[j]? = some s) (h : ∃ t ∈ S, y ∈ t) : ∃ t ∈ S.set j (s ++ [x]), y ∈ t := by
  obtain ⟨t, m, hy⟩ := h
  obtain ⟨i, hi⟩ := List.mem_iff_getElem?.mp m
  by_cases e : j = i
  · subst e
    rw [hs] at hi; cases hi
    exact ⟨s ++ [x], List.mem_iff_getElem?.mpr ⟨j, List.getElem?_set_self (List.getElem?_eq_some_iff.mp hs).1⟩, List.mem_append_left _ hy⟩
  · exact ⟨t, List.mem_iff_getElem?.mpr ⟨i, by rw [List.getElem?_set_ne e]; exact hi⟩, hy⟩
theorem sub_drop {s d : List PySem.Str} {x : PySem.Str} (h : s.Sublist (d ++ [x])) (hx : x ∉ s) : s.Sublist d := by
  obtain ⟨a, b, rfl, h1, h2⟩ := List.sublist_append_iff.mp h
  cases b with
  | nil => rw [List.append_nil]; exact h1
  | cons y b =>
    have : y = x := by simpa using h2.subset List.mem_cons_self
    exact absurd (List.mem_append_right a (this ▸ List.mem_cons_self)) hx
theorem mach_in (x : PySem.Str) (n : Nat) (done : List PySem.Str) (hb100 : done.length ≤ 8) {R M : Option Sl} {rich : Int} {x6 x7 x9 : Option Sl} : ∀ (r j : Nat) (S : List (List PySem.Str)) (c : Cs) (x8 : Option Sl), S.length = n → j + r = n → (∀ (i : Nat) (s : List PySem.Str), S[i]? = some s → s.Sublist (if i < j then done ++ [x] else done)) →
    ∃ (S' : List (List PySem.Str)) (c' : Cs) (y8 : Option Sl), forW (qNm 8) l_law_machine_0 ((List.range' j r).map fun (i : Nat) => DV.int (i : Int)) [some (.v .tok), R, M, some (.o (S.map slE)), some (.v (.int rich)), some (.v (.str x)), x6, x7, x8, x9] c = some (.nx, [some (.v .tok), R, M, some (.o (S'.map slE)), some (.v (.int rich)), some (.v (.str x)), x6, x7, y8, x9], c') ∧
      S'.length = n ∧ (∀ s ∈ S', s.Sublist (done ++ [x])) ∧ ∀ y, (∃ s ∈ S, y ∈ s) → ∃ s ∈ S', y ∈ s
  | 0, j, S, c, x8, hl, hj, hb => ⟨S, c, x8, rfl, hl, fun s m => by
      obtain ⟨i, hi⟩ := List.mem_iff_getElem?.mp m
      have := hb i s hi
      split at this
      · exact this
      · exact this.trans (List.sublist_append_left _ _), fun _ h => h⟩
  | r + 1, j, S, c, x8, hl, hj, hb => by
    obtain ⟨d, c1, e1, l1, u1⟩ := take2 c (many := 3) (by decide) (by decide)
    have hjl : j < S.length := by omega
    obtain ⟨s, hs⟩ : ∃ s, S[j]? = some s := ⟨S[j], List.getElem?_eq_getElem hjl⟩
    have ha : atI (S.map slE) (j : Int) = some (.lst (s.map .str)) := at_lst slE S j hs
    have hx : ixN S.length (j : Int) = some j := by rw [ixN_at (by omega) (by omega)]; simp
    have hsb := hb j s hs
    rw [if_neg (Nat.lt_irrefl _)] at hsb
    have hsl : s.length + 1 ≤ PySem.sizeLine := of_eq_true (zl (s.length + 1) (by have := hsb.length_le; omega))
    have hset : (S.map slE).set j (.lst (s.map DV.str ++ [.str x])) = (S.set j (s ++ [x])).map slE := by
      rw [List.map_set]; simp [slE]
    -- the turn
    have turn : ∃ S1, l_law_machine_0 [some (.v .tok), R, M, some (.o (S.map slE)), some (.v (.int rich)), some (.v (.str x)), x6, x7, some (.v (.int (j : Int))), x9] c = some (.nx, [some (.v .tok), R, M, some (.o (S1.map slE)), some (.v (.int rich)), some (.v (.str x)), x6, x7, some (.v (.int (j : Int))), x9], c1) ∧ (S1 = S ∨ S1 = S.set j (s ++ [x])) := by
      by_cases hd : d < rich + (if (j : Int) = 0 then 1 else 0)
      · refine ⟨S.set j (s ++ [x]), ?_, .inr rfl⟩
        rw [← hset]
        clear hset l1 u1 hl hb hj hb100 hsb
        unfold l_law_machine_0
        walk_at "q2"
      · refine ⟨S, ?_, .inl rfl⟩
        clear hset l1 u1 hl hb hj hb100 hsb
        unfold l_law_machine_0
        walk_at "q2"
    obtain ⟨S1, t1, t2⟩ := turn
    have hl1 : S1.length = n := by rcases t2 with rfl | rfl <;> simp [hl]
    have hb1 : ∀ (i : Nat) (s : List PySem.Str), S1[i]? = some s → s.Sublist (if i < j + 1 then done ++ [x] else done) := by
      intro i s' hi
      rcases t2 with rfl | rfl
      · have := hb i s' hi
        by_cases h1 : i < j
        · rw [if_pos h1] at this; rw [if_pos (by omega)]; exact this
        · rw [if_neg h1] at this
          split
          · exact this.trans (List.sublist_append_left _ _)
          · exact this
      · by_cases e : j = i
        · subst e
          rw [List.getElem?_set_self hjl] at hi
          cases hi
          rw [if_pos (by omega)]
          exact hsb.append (List.Sublist.refl _)
        · rw [List.getElem?_set_ne e] at hi
          have := hb i s' hi
          by_cases h1 : i < j
          · rw [if_pos h1] at this; rw [if_pos (by omega)]; exact this
          · rw [if_neg h1] at this; rw [if_neg (by omega)]; exact this
    obtain ⟨S2, c2, y8, f1, f2, f3, f4⟩ := mach_in x n done hb100 r (j + 1) S1 c1 (some (.v (.int (j : Int)))) hl1 (by omega) hb1
    refine ⟨S2, c2, y8, ?_, f2, f3, fun y hy => f4 y ?_⟩
    · rw [List.range'_succ, List.map_cons, forW_one (v1 := [some (.v .tok), R, M, some (.o (S.map slE)), some (.v (.int rich)), some (.v (.str x)), x6, x7, some (.v (.int (j : Int))), x9]) rfl t1]
      exact f1
    · rcases t2 with rfl | rfl
      · exact hy
      · exact set_mono hs hy
theorem mach_one (x : PySem.Str) (n : Nat) (done : List PySem.Str) (hb100 : done.length ≤ 8) (hn : 0 < n) (hn2 : n ≤ 100) {R : Option Sl} {rich : Int} {x6 x7 x8 : Option Sl} (S : List (List PySem.Str)) (c : Cs) (hl : S.length = n) (hb : ∀ s ∈ S, s.Sublist done) :
    ∃ (S' : List (List PySem.Str)) (c' : Cs) (y8 : Option Sl), l_law_machine_1 [some (.v .tok), R, some (.v (.int (n : Int))), some (.o (S.map slE)), some (.v (.int rich)), some (.v (.str x)), x6, x7, x8, none] c = some (.nx, [some (.v .tok), R, some (.v (.int (n : Int))), some (.o (S'.map slE)), some (.v (.int rich)), some (.v (.str x)), x6, x7, y8, none], c') ∧
      S'.length = n ∧ (∀ s ∈ S', s.Sublist (done ++ [x])) ∧ (∀ y, (∃ s ∈ S, y ∈ s) → ∃ s ∈ S', y ∈ s) ∧ ∃ s ∈ S', x ∈ s := by
  obtain ⟨S1, c1, y8, f1, f2, f3, f4⟩ := mach_in x n done hb100 (R := R) (M := some (.v (.int (n : Int)))) (rich := rich) (x6 := x6) (x7 := x7) (x9 := none) n 0 S c x8 hl (by omega) (fun i s h => by rw [if_neg (by omega)]; exact hb s (List.mem_of_getElem? h))
  rw [← rangeD_range'] at f1
  have hz := zl n (by omega)
  have hany := lc_all (g := qNm 9) (a := y2 inV2 (yPk 5) (yPk 9)) (v := [some (.v .tok), R, some (.v (.int (n : Int))), some (.o (S1.map slE)), some (.v (.int rich)), some (.v (.str x)), x6, x7, y8, none]) (c := c1) slE (fun s => .bl (decide (x ∈ s))) S1 (fun s _ => ⟨_, q_qnm, by
    clear f1; have hi := inV2_strs x s; walk_at "q2"⟩)
  have hbl : blsD (S1.map fun s => DV.bl (decide (x ∈ s))) = some (S1.map fun s => decide (x ∈ s)) := by
    rw [← blsD_map, List.map_map]; rfl
  obtain ⟨d, c2, e2, l2, u2⟩ := take2 c1 (many := n) (by omega) (by omega)
  obtain ⟨j, rfl⟩ : ∃ j : Nat, d = (j : Int) := ⟨d.toNat, by omega⟩
  obtain ⟨s, hs⟩ : ∃ s, S1[j]? = some s := ⟨S1[j]'(by omega), List.getElem?_eq_getElem (by omega)⟩
  have ha : atI (S1.map slE) (j : Int) = some (.lst (s.map .str)) := at_lst slE S1 j hs
  have hx : ixN n (j : Int) = some j := by rw [ixN_at (by omega) (by omega)]; simp
  have hsb := f3 s (List.mem_of_getElem? hs)
  have hsl : s.length + 1 ≤ PySem.sizeLine := of_eq_true (zl (s.length + 1) (by have := hsb.length_le; rw [List.length_append, List.length_cons, List.length_nil] at this; omega))
  have hset : (S1.map slE).set j (.lst (s.map DV.str ++ [.str x])) = (S1.set j (s ++ [x])).map slE := by
    rw [List.map_set]; simp [slE]
  have hj := jrg1_at (a := yVar 2) (v := [some (.v .tok), R, some (.v (.int (n : Int))), some (.o (S.map slE)), some (.v (.int rich)), some (.v (.str x)), x6, x7, x8, none]) (c := c) (z := (n : Int)) (by omega) (by omega) rfl
  rw [Int.toNat_natCast] at hj
  have s1 : rFor (jRg1 (yVar 2)) (qNm 8) l_law_machine_0 [some (.v .tok), R, some (.v (.int (n : Int))), some (.o (S.map slE)), some (.v (.int rich)), some (.v (.str x)), x6, x7, x8, none] c = some (.nx, [some (.v .tok), R, some (.v (.int (n : Int))), some (.o (S1.map slE)), some (.v (.int rich)), some (.v (.str x)), x6, x7, y8, none], c1) := by
    rw [q_for, hj]
    exact f1
  cases ht : (S1.map fun s => decide (x ∈ s)).any id
  · have no : ∀ t ∈ S1, x ∉ t := fun t m hx => by
      have : (S1.map fun s => decide (x ∈ s)).any id = true := List.any_eq_true.mpr ⟨true, List.mem_map.mpr ⟨t, m, decide_eq_true hx⟩, rfl⟩
      rw [ht] at this; cases this
    refine ⟨S1.set j (s ++ [x]), c2, some (.v (.int (j : Int))), ?_, by rw [List.length_set]; exact f2, fun s' m => ?_, fun y hy => set_mono hs (f4 y hy), s ++ [x], List.mem_iff_getElem?.mpr ⟨j, List.getElem?_set_self (List.getElem?_eq_some_iff.mp hs).1⟩, by simp⟩
    · rw [← hset]
      clear hset l2 u2 hb hl hb100 f3 hn hn2 hsb no f4
      unfold l_law_machine_1
      rw [sq_nx s1]
      clear s1 f1 hj
      walk_at "q2"
    · rcases List.mem_or_eq_of_mem_set m with m | m
      · exact f3 s' m
      · subst m; exact (sub_drop hsb (no s (List.mem_of_getElem? hs))).append (List.Sublist.refl _)
  · refine ⟨S1, c1, y8, ?_, f2, f3, f4, ?_⟩
    · clear hset l2 u2 hb hl hb100 f3 hn hn2 hsb f4
      unfold l_law_machine_1
      rw [sq_nx s1]
      clear s1 f1 hj
      walk_at "q2"
    · obtain ⟨b, m, hb'⟩ := List.any_eq_true.mp ht
      obtain ⟨t, m', rfl⟩ := List.mem_map.mp m
      exact ⟨t, m', of_decide_eq_true hb'⟩
theorem mach_all (n : Nat) (hn : 0 < n) (hn2 : n ≤ 100) {R : Option Sl} {rich : Int} {x6 x7 : Option Sl} : ∀ (ks done : List PySem.Str) (S : List (List PySem.Str)) (c : Cs) (x5 x8 : Option Sl), done.length + ks.length ≤ 8 → S.length = n → (∀ s ∈ S, s.Sublist done) → (∀ y ∈ done, ∃ s ∈ S, y ∈ s) →
    ∃ (S' : List (List PySem.Str)) (c' : Cs) (y5 y8 : Option Sl), forW (qNm 5) l_law_machine_1 (ks.map .str) [some (.v .tok), R, some (.v (.int (n : Int))), some (.o (S.map slE)), some (.v (.int rich)), x5, x6, x7, x8, none] c = some (.nx, [some (.v .tok), R, some (.v (.int (n : Int))), some (.o (S'.map slE)), some (.v (.int rich)), y5, x6, x7, y8, none], c') ∧
      S'.length = n ∧ (∀ s ∈ S', s.Sublist (done ++ ks)) ∧ ∀ y ∈ done ++ ks, ∃ s ∈ S', y ∈ s
  | [], done, S, c, x5, x8, hb, hl, hs, hd => ⟨S, c, x5, x8, rfl, hl, by rw [List.append_nil]; exact hs, by rw [List.append_nil]; exact hd⟩
  | k :: ks, done, S, c, x5, x8, hb, hl, hs, hd => by
    rw [List.length_cons] at hb
    obtain ⟨S1, c1, y8, f1, f2, f3, f4, f5⟩ := mach_one k n done (by omega) hn hn2 (R := R) (rich := rich) (x6 := x6) (x7 := x7) (x8 := x8) S c hl hs
    obtain ⟨S2, c2, z5, z8, g1, g2, g3, g4⟩ := mach_all n hn hn2 ks (done ++ [k]) S1 c1 (some (.v (.str k))) y8 (by rw [List.length_append, List.length_cons, List.length_nil]; omega) f2 f3 (fun y hy => by
      rcases List.mem_append.mp hy with h | h
      · exact f4 y (hd y h)
      · rw [List.mem_singleton.mp h]; exact f5)
    rw [List.append_assoc] at g3 g4
    exact ⟨S2, c2, z5, z8, by rw [List.map_cons, forW_one rfl f1]; exact g1, g2, g3, g4⟩

end Gen
end

section
set_option maxRecDepth 100000
set_option linter.all false
set_option Elab.async false
namespace Gen
open Rf L2 V2
local macro_rules | `(tactic| walk_at "q2") => `(tactic| simp only [q_var, q_pk, q_c, q_1, q_2, q_nil, q_cons, q_call, q_tup, q_lst, q_if, q_nt, q_an, q_or, q_ubl, q_unt, q_uan, q_uor, q_uys, q_utru, q_nx, q_ct, q_bk, q_sq, q_ex, q_rt, q_rn, q_ro, q_rif, q_as, q_ao, q_ap, q_fz, q_si, q_ae, q_for, q_jany, q_jrg1, q_jrg2, q_jen, q_jzp, q_qnm, q_qtp, q_qnil, q_qcons, q_lc, q_lc0, q_lc1, q_for0, q_for1, q_fn, q_fnf, q_start, q_on, q_os, q_sl, q_mxD, q_wipe1, q_wipe2, q_wipe3,
  addV, subV, mulV, modV, divV, negV, cmpV, catV, ixV, atD, lenV, intV, tupleV, listV, truV, itV, itS, isNV, notNV, nonB, eqV_int, eqV_str, neV_int, neV_str, atI_at, tne, zl0, zl1, zl2, zl3, zl4, zl5, zl6, zl7, zl8, zl12, valD, kyD,
  Option.bind_some, Option.bind_none, Option.map_some, Option.map_none, List.map_cons, List.map_nil, List.length_cons, List.length_nil, List.length_map, List.length_set, List.replicate, List.cons_append, List.nil_append, List.getElem?_cons_zero, List.getElem?_cons_succ, List.set_cons_zero, List.set_cons_succ, List.isEmpty_cons, List.isEmpty_nil, ne_eq, not_false_eq_true, not_true_eq_false, Nat.reduceAdd, Nat.reduceSub, Nat.reduceEqDiff, Nat.reduceLeDiff, Nat.reduceLT, Nat.reducePow, Int.reducePow, Int.reduceNeg, Int.reduceLT, Int.reduceLE, Int.reduceToNat, Int.toNat_natCast, anyV, allV, Int.reduceAdd, Int.reduceSub, and_self, or_true, true_or, or_false, false_or, true_and, and_true, ↓reduceIte, Nat.add_zero, Nat.zero_add, Nat.sub_self, decide_eq_true_eq, decide_true, decide_false, Bool.false_eq_true, Bool.not_true, Bool.not_false, id_eq, *])

abbrev latE (lat : PySem.Str → Int) (k : PySem.Str) : DV := .tup [.str k, .int (lat k)]
theorem lat_draw {R M S4 S3 x7 x8 x9 : Option Sl} (x : Int) (h1 : 0 < x) (h2 : x ≤ 9) : ∀ (ks : List PySem.Str) (c : Cs), ks.Nodup →
    ∃ (lat : PySem.Str → Int) (c' : Cs), lcW (qNm 5) uYs (yTup (zCons (yVar 5) (zCons (y2 addV (yC (.int 1)) (yCall 2 g_law_take (zCons (yVar 0) (zCons (yVar 6) zNil)))) zNil))) [some (.v .tok), R, M, S3, S4, none, some (.v (.int x)), x7, x8, x9] (ks.map .str) c = some (ks.map (latE lat), c') ∧ ∀ k ∈ ks, 1 ≤ lat k ∧ lat k ≤ 9
  | [], c, _ => ⟨fun _ => 0, c, rfl, nofun⟩
  | k :: ks, c, nd => by
    obtain ⟨d, c1, e1, l1, u1⟩ := take2 c (many := x) h1 (by omega)
    obtain ⟨lat, c2, f1, f2⟩ := lat_draw (R := R) (M := M) (S3 := S3) (S4 := S4) (x7 := x7) (x8 := x8) (x9 := x9) x h1 h2 ks c1 (List.nodup_cons.mp nd).2
    have nk := (List.nodup_cons.mp nd).1
    have hm : ks.map (latE fun s => if s = k then 1 + d else lat s) = ks.map (latE lat) := List.map_congr_left fun s m => by
      have : ¬ s = k := fun z => nk (z ▸ m)
      simp only [latE, if_neg this]
    refine ⟨fun s => if s = k then 1 + d else lat s, c2, ?_, fun s m => ?_⟩
    · rw [List.map_cons, List.map_cons, hm, q_lc1]
      clear hm nk nd f2 l1 u1 h1 h2
      walk_at "q2"
      simp only [latE, if_true]
    · rcases List.mem_cons.mp m with rfl | m
      · simp only [if_true]; omega
      · by_cases e : s = k
        · simp only [if_pos e]; omega
        · simp only [if_neg e]; exact f2 s m
abbrev machE (regs : Int) (S : List (List PySem.Str)) (lat : PySem.Str → Int) : DV := .tup [.int regs, .tup (S.map fun s => .tup (s.map .str)), .tup (kinds8.map (latE lat))]
theorem map_none {α : Type} (e : α → DV) (f : DV) (n : Nat) (xs : List α) (h : xs.length = n) {c : Cs} {g : P2} {v : Env2} {a : E2} (k : ∀ x ∈ xs, ∃ v', g (e x) v = some v' ∧ a v' c = some (f, c)) : lcW g uYs a v (xs.map e) c = some (List.replicate n f, c) := by
  have z : ∀ l : List α, l.map (fun _ => f) = List.replicate l.length f := fun l => by
    induction l with
    | nil => rfl
    | cons a l ih => rw [List.map_cons, ih]; rfl
  rw [lc_all e (fun _ => f) xs k, z, h]
structure MOk (S : List (List PySem.Str)) (lat : PySem.Str → Int) : Prop where
  lat : ∀ k ∈ kinds8, 1 ≤ lat k ∧ lat k ≤ 9
  sub : ∀ s ∈ S, s.Sublist kinds8
  all : ∀ k ∈ kinds8, ∃ s ∈ S, k ∈ s
  len : S.length ≤ 6
theorem machine2 (c : Cs) (regs : Int) : ∃ (S : List (List PySem.Str)) (lat : PySem.Str → Int) (c' : Cs), g_law_machine [.tok, .int regs] c = some (machE regs S lat, c') ∧ MOk S lat := by
  obtain ⟨d1, c1, e1, l1, u1⟩ := take2 c (many := 2) (by decide) (by decide)
  obtain ⟨q, hq, hq1, hq2⟩ : ∃ q : Int, [DV.int 3, DV.int 6][d1.toNat]? = some (.int q) ∧ 0 < q ∧ q ≤ 6 := by
    have : d1 = 0 ∨ d1 = 1 := by omega
    rcases this with rfl | rfl
    · exact ⟨3, rfl, by decide, by decide⟩
    · exact ⟨6, rfl, by decide, by decide⟩
  obtain ⟨d2, c2, e2, l2, u2⟩ := take2 c1 (many := q) hq1 (by omega)
  obtain ⟨n, hn⟩ : ∃ n : Nat, 1 + d2 = (n : Int) := ⟨(1 + d2).toNat, by omega⟩
  have hn1 : 0 < n := by omega
  have hn2 : n ≤ 100 := by omega
  have s1 : rAs 2 (y2 addV (yC (.int (1))) (yCall 2 g_law_take (zCons (yVar 0) (zCons (y2 ixV (yLst (zCons (yC (.int (3))) (zCons (yC (.int (6))) zNil))) (yCall 2 g_law_take (zCons (yVar 0) (zCons (yC (.int (2))) zNil)))) zNil)))) [some (.v .tok), some (.v (.int regs)), none, none, none, none, none, none, none, none] c = some (.nx, [some (.v .tok), some (.v (.int regs)), some (.v (.int (n : Int))), none, none, none, none, none, none, none], c2) := by
    clear hn1 hn2 u1 u2 hq1 hq2
    walk_at "q2"
  have hj := jrg1_at (a := yVar 2) (v := [some (.v .tok), some (.v (.int regs)), some (.v (.int (n : Int))), none, none, none, none, none, none, none]) (c := c2) (z := (n : Int)) (by omega) (by omega) rfl
  rw [Int.toNat_natCast] at hj
  have hl := map_none (g := qNm 8) (a := yLst zNil) (v := [some (.v .tok), some (.v (.int regs)), some (.v (.int (n : Int))), none, none, none, none, none, none, none]) (c := c2) (fun (i : Nat) => DV.int (i : Int)) (.lst []) n (List.range' 0 n) (by simp) (fun x _ => ⟨_, rfl, rfl⟩)
  rw [← rangeD_range'] at hl
  have s2 : rAo 3 (yLc [8] (jRg1 (yVar 2)) (qNm 8) uYs (yLst zNil)) [some (.v .tok), some (.v (.int regs)), some (.v (.int (n : Int))), none, none, none, none, none, none, none] c2 = some (.nx, [some (.v .tok), some (.v (.int regs)), some (.v (.int (n : Int))), some (.o ((List.replicate n []).map slE)), none, none, none, none, none, none], c2) := by
    rw [q_ao, q_lc, hj]
    simp only [Option.bind_some]
    rw [range_len, if_pos (of_eq_true (zl n (by omega))), q_wipe1]
    rw [show (List.set [some (Sl.v DV.tok), some (.v (.int regs)), some (.v (.int (n : Int))), none, none, none, none, none, none, none] 8 none) = [some (Sl.v DV.tok), some (.v (.int regs)), some (.v (.int (n : Int))), none, none, none, none, none, none, none] from rfl, hl, List.map_replicate]
    rfl
  obtain ⟨d3, c3, e3, l3, u3⟩ := take2 c2 (many := 3) (by decide) (by decide)
  obtain ⟨S, c4, y5, y8, f1, f2, f3, f4⟩ := mach_all n hn1 hn2 (R := some (.v (.int regs))) (rich := d3) (x6 := none) (x7 := none) kinds8 [] (List.replicate n []) c3 none none (by decide) (by simp) (by simp) (by simp)
  rw [List.nil_append] at f3 f4
  have hn6 : n ≤ 6 := by omega
  have mok : ∀ lat : PySem.Str → Int, (∀ k ∈ kinds8, 1 ≤ lat k ∧ lat k ≤ 9) → MOk S lat := fun lat k2 => ⟨k2, f3, f4, by omega⟩
  obtain ⟨d5, c5, e5, l5, u5⟩ := take2 c4 (many := 4) (by decide) (by decide)
  obtain ⟨x, hx, hx1, hx2⟩ : ∃ x : Int, [DV.int 1, DV.int 2, DV.int 4, DV.int 9][d5.toNat]? = some (.int x) ∧ 0 < x ∧ x ≤ 9 := by
    have : d5 = 0 ∨ d5 = 1 ∨ d5 = 2 ∨ d5 = 3 := by omega
    rcases this with rfl | rfl | rfl | rfl
    · exact ⟨1, rfl, by decide, by decide⟩
    · exact ⟨2, rfl, by decide, by decide⟩
    · exact ⟨4, rfl, by decide, by decide⟩
    · exact ⟨9, rfl, by decide, by decide⟩
  obtain ⟨lat, c6, k1, k2⟩ := lat_draw (R := some (.v (.int regs))) (M := some (.v (.int (n : Int)))) (S3 := some (.o (S.map slE))) (S4 := some (.v (.int d3))) (x7 := none) (x8 := y8) (x9 := none) x hx1 hx2 kinds8 c5 (by decide)
  refine ⟨S, lat, c6, ?_, mok lat k2⟩
  have f3 : ∀ s ∈ S, s.length ≤ 8 := fun s m => (f3 s m).length_le
  clear f4 mok hn6
  have hs := lc_all (g := qNm 9) (a := y1 tupleV (yPk 9)) (v := [some (.v .tok), some (.v (.int regs)), some (.v (.int (n : Int))), some (.o (S.map slE)), some (.v (.int d3)), y5, some (.v (.int x)), some (.v (.tup (kinds8.map (latE lat)))), y8, none]) (c := c6) slE (fun s => .tup (s.map .str)) S (fun s m => ⟨_, q_qnm, by
    have := zl s.length (by have := f3 s m; omega)
    clear f1 s2 hl s1 hj k1 hn hn1 hn2 f3
    walk_at "q2"⟩)
  have hz := zl n (by omega)
  have s3 : rAs 4 (yCall 2 g_law_take (zCons (yVar 0) (zCons (yC (.int (3))) zNil))) [some (.v .tok), some (.v (.int regs)), some (.v (.int (n : Int))), some (.o ((List.replicate n []).map slE)), none, none, none, none, none, none] c2 = some (.nx, [some (.v .tok), some (.v (.int regs)), some (.v (.int (n : Int))), some (.o ((List.replicate n []).map slE)), some (.v (.int d3)), none, none, none, none, none], c3) := by
    clear s1 s2 hj hl f1 k1 hs hn1 hn2 hn
    walk_at "q2"
  have s4 : rFor (jAny (yCall 0 g_law_kinds zNil)) (qNm 5) (l_law_machine_1) [some (.v .tok), some (.v (.int regs)), some (.v (.int (n : Int))), some (.o ((List.replicate n []).map slE)), some (.v (.int d3)), none, none, none, none, none] c3 = some (.nx, [some (.v .tok), some (.v (.int regs)), some (.v (.int (n : Int))), some (.o (S.map slE)), some (.v (.int d3)), y5, none, none, y8, none], c4) := by
    have z : jAny (yCall 0 g_law_kinds zNil) [some (.v .tok), some (.v (.int regs)), some (.v (.int (n : Int))), some (.o ((List.replicate n []).map slE)), some (.v (.int d3)), none, none, none, none, none] c3 = some (kinds8.map .str, c3) := by
      clear s1 s2 s3 hj hl f1 k1 hs hn1 hn2 hn
      unfold g_law_kinds gb_law_kinds kinds8
      walk_at "q2"
    rw [for_at z]
    exact f1
  have s5 : rAs 6 (y2 ixV (yLst (zCons (yC (.int (1))) (zCons (yC (.int (2))) (zCons (yC (.int (4))) (zCons (yC (.int (9))) zNil))))) (yCall 2 g_law_take (zCons (yVar 0) (zCons (yC (.int (4))) zNil)))) [some (.v .tok), some (.v (.int regs)), some (.v (.int (n : Int))), some (.o (S.map slE)), some (.v (.int d3)), y5, none, none, y8, none] c4 = some (.nx, [some (.v .tok), some (.v (.int regs)), some (.v (.int (n : Int))), some (.o (S.map slE)), some (.v (.int d3)), y5, some (.v (.int x)), none, y8, none], c5) := by
    clear s1 s2 s3 s4 hj hl f1 k1 hs hn1 hn2 hn
    walk_at "q2"
  have s6 : rAs 7 (y1 tupleV (yLc [5] (jAny (yCall 0 g_law_kinds zNil)) (qNm 5) uYs (yTup (zCons (yVar 5) (zCons (y2 addV (yC (.int (1))) (yCall 2 g_law_take (zCons (yVar 0) (zCons (yVar 6) zNil)))) zNil))))) [some (.v .tok), some (.v (.int regs)), some (.v (.int (n : Int))), some (.o (S.map slE)), some (.v (.int d3)), y5, some (.v (.int x)), none, y8, none] c5 = some (.nx, [some (.v .tok), some (.v (.int regs)), some (.v (.int (n : Int))), some (.o (S.map slE)), some (.v (.int d3)), y5, some (.v (.int x)), some (.v (.tup (kinds8.map (latE lat)))), y8, none], c6) := by
    have z : jAny (yCall 0 g_law_kinds zNil) [some (.v .tok), some (.v (.int regs)), some (.v (.int (n : Int))), some (.o (S.map slE)), some (.v (.int d3)), y5, some (.v (.int x)), none, y8, none] c5 = some (kinds8.map .str, c5) := by
      clear s1 s2 s3 s4 s5 hj hl f1 k1 hs hn1 hn2 hn
      unfold g_law_kinds gb_law_kinds kinds8
      walk_at "q2"
    have w : yLc [5] (jAny (yCall 0 g_law_kinds zNil)) (qNm 5) uYs (yTup (zCons (yVar 5) (zCons (y2 addV (yC (.int (1))) (yCall 2 g_law_take (zCons (yVar 0) (zCons (yVar 6) zNil)))) zNil))) [some (.v .tok), some (.v (.int regs)), some (.v (.int (n : Int))), some (.o (S.map slE)), some (.v (.int d3)), y5, some (.v (.int x)), none, y8, none] c5 = some (.lst (kinds8.map (latE lat)), c6) := by
      rw [q_lc, z]
      simp only [Option.bind_some]
      rw [if_pos (of_eq_true (zl _ (by decide))), q_wipe1]
      exact congrArg (Option.map _) k1
    rw [q_as, q_1, w]
    rfl
  have s7 : rRt (yTup (zCons (yVar 1) (zCons (y1 tupleV (yLc [9] (jAny (yPk 3)) (qNm 9) uYs (y1 tupleV (yPk 9)))) (zCons (yVar 7) zNil)))) [some (.v .tok), some (.v (.int regs)), some (.v (.int (n : Int))), some (.o (S.map slE)), some (.v (.int d3)), y5, some (.v (.int x)), some (.v (.tup (kinds8.map (latE lat)))), y8, none] c6 = some (.rt (machE regs S lat), [some (.v .tok), some (.v (.int regs)), some (.v (.int (n : Int))), some (.o (S.map slE)), some (.v (.int d3)), y5, some (.v (.int x)), some (.v (.tup (kinds8.map (latE lat)))), y8, none], c6) := by
    clear s1 s2 s3 s4 s5 s6 hj hl f1 k1 hn1 hn2 hn
    unfold machE
    generalize kinds8.map (latE lat) = L at *
    walk_at "q2"
  unfold g_law_machine gb_law_machine
  rw [q_fn, show start2 10 [DV.tok, .int regs] = [some (.v .tok), some (.v (.int regs)), none, none, none, none, none, none, none, none] from rfl, sq_nx s1, sq_nx s2, sq_nx s3, sq_nx s4, sq_nx s5, sq_nx s6, s7]
  rfl

end Gen
end

section
set_option maxRecDepth 100000
set_option linter.all false
set_option Elab.async false
namespace Gen
open Rf L2 V2
local macro_rules | `(tactic| walk_at "q3") => `(tactic| simp only [q_var, q_pk, q_c, q_1, q_2, q_nil, q_cons, q_call, q_tup, q_lst, q_if, q_nt, q_an, q_or, q_ubl, q_unt, q_uan, q_uor, q_uys, q_utru, q_nx, q_ct, q_bk, q_sq, q_ex, q_rt, q_rn, q_ro, q_rif, q_as, q_ao, q_ap, q_fz, q_si, q_ae, q_for, q_jany, q_jrg1, q_jrg2, q_jen, q_jzp, q_qnm, q_qtp, q_qnil, q_qcons, q_lc, q_lc0, q_lc1, q_for0, q_for1, q_fn, q_fnf, q_start, q_on, q_os, q_sl, q_mxD, q_wipe1, q_wipe2, q_wipe3,
  addV, subV, mulV, modV, divV, negV, cmpV, catV, ixV_tup, ixV_lst, ix0, lenV, intV, tupleV, listV, truV, itV, itS, isNV, notNV, nonB, eqV_int, eqV_str, neV_int, neV_str, atI_at, tne, zl0, zl1, zl2, zl3, zl4, zl5, zl6, zl7, zl8, zl12, valD, kyD,
  Option.bind_some, Option.bind_none, Option.map_some, Option.map_none, List.map_cons, List.map_nil, List.length_cons, List.length_nil, List.length_map, List.length_set, List.replicate, List.cons_append, List.nil_append, List.getElem?_cons_zero, List.getElem?_cons_succ, List.set_cons_zero, List.set_cons_succ, List.isEmpty_cons, List.isEmpty_nil, ne_eq, not_false_eq_true, not_true_eq_false, Nat.reduceAdd, Nat.reduceSub, Nat.reduceEqDiff, Nat.reduceLeDiff, Nat.reduceLT, Nat.reducePow, Int.reducePow, Int.reduceNeg, Int.reduceLT, Int.reduceLE, Int.reduceToNat, Int.toNat_natCast, anyV, allV, Int.reduceAdd, Int.reduceSub, and_self, or_true, true_or, or_false, false_or, true_and, and_true, ↓reduceIte, Nat.add_zero, Nat.zero_add, Nat.sub_self, decide_eq_true_eq, decide_true, decide_false, Bool.false_eq_true, Bool.not_true, Bool.not_false, id_eq, *])

/-! what the judges' small functions say of plain values -/
theorem q_ch {g g' : DV → DV → Option DV} {a b d : E2} {v : Env2} {c : Cs} : yCh g g' a b d v c = (a v c).bind fun r => (b v r.2).bind fun t => (g r.1 t.1).bind fun k => match k with
  | .bl true => (d v t.2).bind fun u => (g' t.1 u.1).map fun d => (d, u.2)
  | .bl false => some (.bl false, t.2)
  | _ => none := rfl
def isIn : DV → Bool
  | .int _ => true
  | _ => false
theorem isT (d : DV) (h : pl d = true) : isV "tuple" d = some (.bl (isTup d)) := by cases d <;> first | rfl | cases h
theorem num2 (d : DV) (h : pl d = true) (c : Cs) : g_is_number [d] c = some (.bl (isIn d), c) := by cases d <;> first | rfl | cases h
theorem whole2 (d : DV) (h : pl d = true) (c : Cs) : g_law_whole [d] c = some (.bl (isIn d), c) := by cases d <;> first | rfl | cases h
def tupN (n : Nat) : DV → Bool
  | .tup ds => decide (ds.length = n)
  | _ => false
theorem nat_dec (a b : Nat) : decide ((a : Int) = (b : Int)) = decide (a = b) := by
  by_cases h : a = b
  · rw [decide_eq_true h, decide_eq_true (by omega)]
  · rw [decide_eq_false h, decide_eq_false (by omega)]
theorem tuple2 (n : Nat) (d : DV) (h : pl d = true) (c : Cs) : g_is_tuple [d, .int (n : Int)] c = some (.bl (tupN n d), c) := by
  cases d with
  | tup ds =>
    have h1 := isT (.tup ds) h
    unfold isTup at h1
    show g_is_tuple [DV.tup ds, DV.int (n : Int)] c = some (.bl (decide (ds.length = n)), c)
    rw [← nat_dec]
    unfold g_is_tuple gb_is_tuple
    generalize (n : Int) = k at *
    generalize hl : (ds.length : Int) = l at *
    have hn : lenV (.tup ds) = some (.int l) := by rw [← hl]; rfl
    rw [q_fn, show start2 2 [DV.tup ds, .int k] = [some (.v (.tup ds)), some (.v (.int k))] from rfl, rt_at ((an_t (y1_at (pk_at rfl) h1)).trans (y2_at (y1_at (pk_at rfl) hn) (pk_at rfl) (eqV_int l k)))]
    rfl
  | _ => first | rfl | cases h
theorem an_f {a b : E2} {v : Env2} {c c1 : Cs} (h : a v c = some (.bl false, c1)) : yAn a b v c = some (.bl false, c1) := by
  rw [q_an, h]; rfl
theorem uor_t {t u : T2} {v : Env2} {c c1 : Cs} (h : t v c = some (true, c1)) : uOr t u v c = some (true, c1) := by
  rw [q_uor, h]; rfl
theorem uan_t {t u : T2} {v : Env2} {c c1 : Cs} (h : t v c = some (true, c1)) : uAn t u v c = u v c1 := by
  rw [q_uan, h]; rfl
theorem uan_f {t u : T2} {v : Env2} {c c1 : Cs} (h : t v c = some (false, c1)) : uAn t u v c = some (false, c1) := by
  rw [q_uan, h]; rfl
theorem nt_at {a : E2} {v : Env2} {c c1 : Cs} {b : Bool} (h : a v c = some (.bl b, c1)) : yNt a v c = some (.bl (!b), c1) := by
  rw [q_nt, h]; rfl
theorem sq_rt {r s : S2} {v v' : Env2} {c c' : Cs} {d : DV} (h : r v c = some (.rt d, v', c')) : rSq r s v c = some (.rt d, v', c') := by
  rw [q_sq, h]; rfl
theorem ap_at {g : P2} {a : E2} {v v' : Env2} {c c1 : Cs} {d : DV} (h : a v c = some (d, c1)) (hg : g d v = some v') : rAp g a v c = some (.nx, v', c1) := by
  rw [q_ap, h]; simp only [Option.bind_some]; rw [hg]; rfl
theorem cons_at {a : E2} {as : A2} {v : Env2} {c c1 c2 : Cs} {d : DV} {ds : List DV} (h : a v c = some (d, c1)) (h2 : as v c1 = some (ds, c2)) : zCons a as v c = some (d :: ds, c2) := by
  rw [q_cons, h]; simp only [Option.bind_some]; rw [h2]; rfl
theorem nil_at {v : Env2} {c : Cs} : zNil v c = some ([], c) := rfl
theorem c_at {d : DV} {v : Env2} {c : Cs} : yC d v c = some (d, c) := rfl
abbrev slT (S : List (List PySem.Str)) : DV := .tup (S.map fun s => .tup (s.map .str))

end Gen
end

section
set_option maxRecDepth 100000
set_option linter.all false
set_option Elab.async false
namespace Gen
open Rf L2 V2
local macro_rules | `(tactic| walk_at "q3") => `(tactic| simp only [q_var, q_pk, q_c, q_1, q_2, q_nil, q_cons, q_call, q_tup, q_lst, q_if, q_nt, q_an, q_or, q_ubl, q_unt, q_uan, q_uor, q_uys, q_utru, q_nx, q_ct, q_bk, q_sq, q_ex, q_rt, q_rn, q_ro, q_rif, q_as, q_ao, q_ap, q_fz, q_si, q_ae, q_for, q_jany, q_jrg1, q_jrg2, q_jen, q_jzp, q_qnm, q_qtp, q_qnil, q_qcons, q_lc, q_lc0, q_lc1, q_for0, q_for1, q_fn, q_fnf, q_start, q_on, q_os, q_sl, q_mxD, q_wipe1, q_wipe2, q_wipe3,
  addV, subV, mulV, modV, divV, negV, cmpV, catV, ixV_tup, ixV_lst, lenV, intV, tupleV, listV, truV, itV, itS, isNV, notNV, nonB, eqV_int, eqV_str, neV_int, neV_str, atI_at, tne, zl0, zl1, zl2, zl3, zl4, zl5, zl6, zl7, zl8, zl12, valD, kyD,
  Option.bind_some, Option.bind_none, Option.map_some, Option.map_none, List.map_cons, List.map_nil, List.length_cons, List.length_nil, List.length_map, List.length_set, List.replicate, List.cons_append, List.nil_append, List.getElem?_cons_zero, List.getElem?_cons_succ, List.set_cons_zero, List.set_cons_succ, List.isEmpty_cons, List.isEmpty_nil, ne_eq, not_false_eq_true, not_true_eq_false, Nat.reduceAdd, Nat.reduceSub, Nat.reduceEqDiff, Nat.reduceLeDiff, Nat.reduceLT, Nat.reducePow, Int.reducePow, Int.reduceNeg, Int.reduceLT, Int.reduceLE, Int.reduceToNat, Int.toNat_natCast, anyV, allV, Int.reduceAdd, Int.reduceSub, and_self, or_true, true_or, or_false, false_or, true_and, and_true, ↓reduceIte, Nat.add_zero, Nat.zero_add, Nat.sub_self, decide_eq_true_eq, decide_true, decide_false, Bool.false_eq_true, Bool.not_true, Bool.not_false, id_eq, *])

def atD0 (ds : List DV) (j : Nat) : DV := ds.getD j .non
theorem atD0_get {ds : List DV} {j : Nat} (h : j < ds.length) : ds[j]? = some (atD0 ds j) := by
  unfold atD0; rw [List.getD_eq_getElem?_getD, List.getElem?_eq_getElem h]; rfl
theorem atD0_pl {ds : List DV} {j : Nat} (hp : plL ds = true) : pl (atD0 ds j) = true := by
  by_cases h : j < ds.length
  · exact (plL_iff ds).mp hp _ (List.mem_of_getElem? (atD0_get h))
  · unfold atD0; rw [List.getD_eq_getElem?_getD, List.getElem?_eq_none (by omega)]; rfl
theorem all_map_bl {α : Type} (l : List α) (f : α → Bool) : allV (.lst (l.map fun x => DV.bl (f x))) = some (.bl (l.all f)) := by
  show (blsD _).map _ = _
  rw [show (l.map fun x => DV.bl (f x)) = (l.map f).map DV.bl by rw [List.map_map]; rfl, blsD_map]
  simp [List.all_map]
/-- a walk that may end with an answer -/
theorem forW_all {α J : Type} {g : P2} {r : S2} {c : Cs} (e : α → DV) (P : α → Bool) (E : J → Env2) (d : DV) : ∀ (xs : List α), (∀ x ∈ xs, ∀ j, ∃ v1, g (e x) (E j) = some v1 ∧ ((P x = true ∧ ∃ j', r v1 c = some (.nx, E j', c)) ∨ (P x = false ∧ ∃ v2, r v1 c = some (.rt d, v2, c)))) →
    ∀ j, (xs.all P = true ∧ ∃ j', forW g r (xs.map e) (E j) c = some (.nx, E j', c)) ∨ (xs.all P = false ∧ ∃ v2, forW g r (xs.map e) (E j) c = some (.rt d, v2, c))
  | [], _, j => .inl ⟨rfl, j, rfl⟩
  | x :: xs, h, j => by
    obtain ⟨v1, h1, h2⟩ := h x List.mem_cons_self j
    rw [List.map_cons, List.all_cons]
    rcases h2 with ⟨h2, j', h3⟩ | ⟨h2, v2, h3⟩
    · rw [forW_one h1 h3, h2, Bool.true_and]
      exact forW_all e P E d xs (fun y m => h y (List.mem_cons_of_mem _ m)) j'
    · refine .inr ⟨by rw [h2]; rfl, v2, ?_⟩
      rw [q_for1, h1]; simp only [Option.bind_some]; rw [h3]; rfl
theorem lenTup {ds : List DV} : lenV (.tup ds) = some (.int (ds.length : Int)) := rfl

end Gen
end

section
set_option maxRecDepth 100000
set_option linter.all false
set_option Elab.async false
namespace Gen
open Rf L2 V2
local macro_rules | `(tactic| walk_at "q3") => `(tactic| simp only [q_var, q_pk, q_c, q_1, q_2, q_nil, q_cons, q_call, q_tup, q_lst, q_if, q_nt, q_an, q_or, q_ubl, q_unt, q_uan, q_uor, q_uys, q_utru, q_nx, q_ct, q_bk, q_sq, q_ex, q_rt, q_rn, q_ro, q_rif, q_as, q_ao, q_ap, q_fz, q_si, q_ae, q_for, q_jany, q_jrg1, q_jrg2, q_jen, q_jzp, q_qnm, q_qtp, q_qnil, q_qcons, q_lc, q_lc0, q_lc1, q_for0, q_for1, q_fn, q_fnf, q_start, q_on, q_os, q_sl, q_mxD, q_wipe1, q_wipe2, q_wipe3,
  addV, subV, mulV, modV, divV, negV, cmpV, catV, ixV_tup, ixV_lst, ix0, lenV, intV, tupleV, listV, truV, itV, itS, isNV, notNV, nonB, eqV_int, eqV_str, neV_int, neV_str, atI_at, tne, zl0, zl1, zl2, zl3, zl4, zl5, zl6, zl7, zl8, zl12, valD, kyD,
  Option.bind_some, Option.bind_none, Option.map_some, Option.map_none, List.map_cons, List.map_nil, List.length_cons, List.length_nil, List.length_map, List.length_set, List.replicate, List.cons_append, List.nil_append, List.getElem?_cons_zero, List.getElem?_cons_succ, List.set_cons_zero, List.set_cons_succ, List.isEmpty_cons, List.isEmpty_nil, ne_eq, not_false_eq_true, not_true_eq_false, Nat.reduceAdd, Nat.reduceSub, Nat.reduceEqDiff, Nat.reduceLeDiff, Nat.reduceLT, Nat.reducePow, Int.reducePow, Int.reduceNeg, Int.reduceLT, Int.reduceLE, Int.reduceToNat, Int.toNat_natCast, anyV, allV, Int.reduceAdd, Int.reduceSub, and_self, or_true, true_or, or_false, false_or, true_and, and_true, ↓reduceIte, Nat.add_zero, Nat.zero_add, Nat.sub_self, decide_eq_true_eq, decide_true, decide_false, Bool.false_eq_true, Bool.not_true, Bool.not_false, id_eq, *])

theorem kinds_sorted : kinds8.Pairwise (fun a b => RY.leS a b = true) := by
  have e : (fun a b => RY.leS a b = true) = fun (a b : PySem.Str) => decide (a.cps.toList ≤ b.cps.toList) = true := by
    funext a b; rw [RY.leS_is]
  rw [e]
  decide +kernel
theorem srt_kinds {s : List PySem.Str} (h : s.Sublist kinds8) : RY.srtS s = s := List.mergeSort_of_pairwise (kinds_sorted.sublist h)
theorem kinds_nodup : kinds8.Nodup := by decide +kernel
theorem strsD_map : ∀ s : List PySem.Str, strsD (s.map .str) = some s
  | [] => rfl
  | a :: s => by rw [List.map_cons, strsD, strsD_map s]; rfl
theorem isV_str (a : PySem.Str) : isV "str" (.str a) = some (.bl true) := rfl
theorem isV_tupT (ds : List DV) : isV "tuple" (.tup ds) = some (.bl true) := rfl
theorem word2 (a b : PySem.Str) (c : Cs) : g_is_word [.str a, .str b] c = some (.bl (decide (a = b)), c) := by
  unfold g_is_word gb_is_word
  rw [q_fn, show start2 2 [DV.str a, .str b] = [some (.v (.str a)), some (.v (.str b))] from rfl, rt_at ((an_t (y1_at (pk_at rfl) (isV_str _))).trans (y2_at (pk_at rfl) (pk_at rfl) (eqV_str a b)))]
  rfl
theorem kind2 (a : PySem.Str) (c : Cs) : g_is_kind [.str a] c = some (.bl (decide (a ∈ kinds8)), c) := by
  unfold g_is_kind gb_is_kind
  rw [q_fn, show start2 1 [DV.str a] = [some (.v (.str a))] from rfl, rt_at ((an_t (y1_at (pk_at rfl) (isV_str _))).trans (y2_at (pk_at rfl) c_at (inV2_strsT a kinds8)))]
  rfl

end Gen
end

section
set_option maxRecDepth 100000
set_option linter.all false
set_option Elab.async false
namespace Gen
open Rf L2 V2
local macro_rules | `(tactic| walk_at "q3") => `(tactic| simp only [q_var, q_pk, q_c, q_1, q_2, q_nil, q_cons, q_call, q_tup, q_lst, q_if, q_nt, q_an, q_or, q_ubl, q_unt, q_uan, q_uor, q_uys, q_utru, q_nx, q_ct, q_bk, q_sq, q_ex, q_rt, q_rn, q_ro, q_rif, q_as, q_ao, q_ap, q_fz, q_si, q_ae, q_for, q_jany, q_jrg1, q_jrg2, q_jen, q_jzp, q_qnm, q_qtp, q_qnil, q_qcons, q_lc, q_lc0, q_lc1, q_for0, q_for1, q_fn, q_fnf, q_start, q_on, q_os, q_sl, q_mxD, q_wipe1, q_wipe2, q_wipe3,
  addV, subV, mulV, modV, divV, negV, cmpV, catV, ixV_tup, ixV_lst, lenV, intV, tupleV, listV, truV, itV, itS, isNV, notNV, nonB, eqV_int, eqV_str, neV_int, neV_str, atI_at, tne, zl0, zl1, zl2, zl3, zl4, zl5, zl6, zl7, zl8, zl12, valD, kyD,
  Option.bind_some, Option.bind_none, Option.map_some, Option.map_none, List.map_cons, List.map_nil, List.length_cons, List.length_nil, List.length_map, List.length_set, List.replicate, List.cons_append, List.nil_append, List.getElem?_cons_zero, List.getElem?_cons_succ, List.set_cons_zero, List.set_cons_succ, List.isEmpty_cons, List.isEmpty_nil, ne_eq, not_false_eq_true, not_true_eq_false, Nat.reduceAdd, Nat.reduceSub, Nat.reduceEqDiff, Nat.reduceLeDiff, Nat.reduceLT, Nat.reducePow, Int.reducePow, Int.reduceNeg, Int.reduceLT, Int.reduceLE, Int.reduceToNat, Int.toNat_natCast, anyV, allV, Int.reduceAdd, Int.reduceSub, and_self, or_true, true_or, or_false, false_or, true_and, and_true, ↓reduceIte, Nat.add_zero, Nat.zero_add, Nat.sub_self, decide_eq_true_eq, decide_true, decide_false, Bool.false_eq_true, Bool.not_true, Bool.not_false, id_eq, *])

/-! what is a machine, of any plain value -/
/-- plain, with good texts, not deep, not great -/
structure Sm (n m : Nat) (d : DV) : Prop where
  hp : pl d = true
  ho : okS d = true
  hd : dp d ≤ n
  hs : sz d ≤ m
theorem Sm.up {n m n' m' : Nat} {d : DV} (h : Sm n m d) (h1 : n ≤ n') (h2 : m ≤ m') : Sm n' m' d := ⟨h.hp, h.ho, Nat.le_trans h.hd h1, Nat.le_trans h.hs h2⟩
theorem Sm.tup {n m : Nat} {ds : List DV} (h1 : ∀ d ∈ ds, pl d = true) (h2 : ∀ d ∈ ds, okS d = true) (h3 : ∀ d ∈ ds, dp d ≤ n) (h4 : szL ds ≤ m) : Sm (n + 1) (m + 1) (.tup ds) :=
  ⟨by rw [pl]; exact (plL_iff ds).mpr h1, by rw [okS]; exact (okSL_iff ds).mpr h2, by rw [dp]; have := (dpL_le (n := n) ds).mpr h3; omega, by rw [sz]; omega⟩
theorem Sm.mem {n m : Nat} {ds : List DV} (h : Sm n m (.tup ds)) {d : DV} (hd : d ∈ ds) : Sm n m d := by
  obtain ⟨a, b, c, e⟩ := h
  rw [pl] at a
  rw [okS] at b
  rw [dp] at c
  rw [sz] at e
  have h1 := (dpL_le (n := dpL ds) ds).mp (Nat.le_refl _) d hd
  have h2 : sz d ≤ szL ds := by
    have := szL_sub (List.singleton_sublist.mpr hd)
    rw [szL, szL] at this
    omega
  exact ⟨(plL_iff ds).mp a d hd, (okSL_iff ds).mp b d hd, by omega, by omega⟩
theorem Sm.len {n m : Nat} {ds : List DV} (h : Sm n m (.tup ds)) : ds.length ≤ m := by
  have := len_szL ds
  have := h.hs
  rw [sz] at this
  omega
/-! texts among values -/
def kindB : DV → Bool
  | .str s => decide (s ∈ kinds8)
  | _ => false
open PySem PyData in
theorem kd_ok : ∀ k ∈ kinds8, strOk k = true := by decide +kernel
open PySem PyData in
theorem kd_data : toDVs (kinds8.map .str) = some (kinds8.map PyData.str) ∧ SeqAt.shaped (.list (kinds8.map PyData.str)) = true := by
  refine ⟨rfl, ?_⟩
  decide +kernel
open PySem PyData in
theorem eqv_str (k : PySem.Str) (d : DV) (x : PyData) (h : toDV d = some x) : PyData.eqv (.str k) x = (match d with | .str s => decide (k = s) | _ => false) := by
  cases d with
  | str s =>
    cases h
    show (k == s) = decide (k = s)
    rw [Bool.eq_iff_iff]; simp
  | non => cases h; simp [PyData.eqv]
  | bl b => cases h; simp [PyData.eqv]
  | int i => cases h; simp [PyData.eqv]
  | tup ds =>
    rw [toDV] at h
    obtain ⟨xs, _, rfl⟩ := Option.map_eq_some_iff.mp h
    simp [PyData.eqv]
  | lst ds => cases h
  | dic ds => cases h
  | tok => cases h
open PySem PyData in
theorem in_kinds {n m : Nat} {d : DV} (h : Sm n m d) (hn : n ≤ 60) : inTV d (.lst (kinds8.map .str)) = some (.bl (kindB d)) := by
  obtain ⟨x, e, l1, l2⟩ := lay_of d h.hp h.ho
  have hd := h.hd
  have s1 : SeqAt.shaped x = true := by
    unfold SeqAt.shaped; rw [Bool.and_eq_true]; exact ⟨l1, decide_eq_true (by omega)⟩
  have : inTVB d (.lst (kinds8.map .str)) = some (kindB d) := by
    unfold inTVB
    simp only
    rw [e]
    simp only [Option.bind_some]
    rw [kd_data.1]
    simp only [Option.bind_some]
    rw [if_pos ⟨s1, kd_data.2⟩]
    congr 1
    rw [Bool.eq_iff_iff, List.any_eq_true]
    constructor
    · rintro ⟨y, my, ey⟩
      obtain ⟨k, mk, rfl⟩ := List.mem_map.mp my
      rw [eqv_str k d x e] at ey
      cases d with
      | str s => exact decide_eq_true ((of_decide_eq_true ey) ▸ mk)
      | _ => cases ey
    · intro hk
      cases d with
      | str s =>
        refine ⟨.str s, List.mem_map.mpr ⟨s, of_decide_eq_true hk, rfl⟩, ?_⟩
        rw [eqv_str s (.str s) x e]
        exact decide_eq_true rfl
      | _ => cases hk
  unfold inTV
  rw [this]; rfl
def isWd (k : PySem.Str) : DV → Bool
  | .str s => decide (s = k)
  | _ => false
open PySem PyData in
theorem ne_word {n m : Nat} {d : DV} (h : Sm n m d) (hn : n ≤ 60) {k : PySem.Str} (hk : k ∈ kinds8) : neV d (.str k) = some (.bl (!isWd k d)) := by
  by_cases hs : ∃ s, d = .str s
  · obtain ⟨s, rfl⟩ := hs
    exact neV_str s k
  · obtain ⟨x, e, l1, l2⟩ := lay_of d h.hp h.ho
    have hd := h.hd
    have s1 : SeqAt.shaped x = true := by
      unfold SeqAt.shaped; rw [Bool.and_eq_true]; exact ⟨l1, decide_eq_true (by omega)⟩
    have s2 : SeqAt.shaped (.str k) = true := by
      unfold SeqAt.shaped; rw [Bool.and_eq_true]; exact ⟨by simp [canLay0, kd_ok k hk], decide_eq_true (by simp [depth])⟩
    have em : toDVm d = some x := by
      cases d with
      | lst ds => cases h.hp
      | _ => exact e
    have : eqVB d (.str k) = some false := by
      have g : eqVBg d (.str k) = some false := by
        unfold eqVBg
        rw [em]
        simp only [Option.bind_some]
        rw [show toDVm (.str k) = some (.str k) from rfl]
        simp only [Option.bind_some]
        rw [if_pos ⟨s1, s2⟩]
        congr 1
        have hp := h.hp
        cases d with
        | str s => exact absurd ⟨s, rfl⟩ hs
        | non => cases e; simp [PyData.eqv]
        | bl b => cases e; simp [PyData.eqv]
        | int i => cases e; simp [PyData.eqv]
        | tup ds =>
          rw [toDV] at e
          obtain ⟨xs, _, rfl⟩ := Option.map_eq_some_iff.mp e
          simp [PyData.eqv]
        | lst ds => cases hp
        | dic ds => cases hp
        | tok => cases hp
      have hp := h.hp
      cases d with
      | str s => exact absurd ⟨s, rfl⟩ hs
      | lst ds => cases hp
      | dic ds => cases hp
      | tok => cases hp
      | _ => exact g
    unfold neV
    rw [this]
    cases d with
    | str s => exact absurd ⟨s, rfl⟩ hs
    | _ => rfl
theorem isS (d : DV) (h : pl d = true) : isV "str" d = some (.bl (match d with | .str _ => true | _ => false)) := by cases d <;> first | rfl | cases h
theorem kind3 (d : DV) (h : pl d = true) (c : Cs) : g_is_kind [d] c = some (.bl (kindB d), c) := by
  cases d with
  | str s => exact kind2 s c
  | _ => first | (cases h; done) | exact fn_at rfl (rt_at (an_f (y1_at (pk_at rfl) (isS _ h))))
theorem word3 (k : PySem.Str) (d : DV) (h : pl d = true) (c : Cs) : g_is_word [d, .str k] c = some (.bl (isWd k d), c) := by
  cases d with
  | str s => exact word2 s k c
  | _ => first | (cases h; done) | exact fn_at rfl (rt_at (an_f (y1_at (pk_at rfl) (isS _ h))))
/-! slots -/
def kindsB : DV → Bool
  | .tup ks => ks.all kindB && (match strsD ks with
    | some ys => decide (ys = RY.srtS (RY.dd ys))
    | none => false)
  | _ => false
theorem strsD_of : ∀ ks : List DV, ks.all kindB = true → ∃ ys, strsD ks = some ys ∧ ks = ys.map .str ∧ ∀ y ∈ ys, y ∈ kinds8
  | [], _ => ⟨[], rfl, rfl, fun _ h => by cases h⟩
  | k :: ks, h => by
    rw [List.all_cons, Bool.and_eq_true] at h
    obtain ⟨ys, e, e2, hy⟩ := strsD_of ks h.2
    cases k with
    | str s =>
      refine ⟨s :: ys, by rw [strsD, e]; rfl, by rw [e2]; rfl, fun y m => ?_⟩
      rcases List.mem_cons.mp m with rfl | m
      · exact of_decide_eq_true h.1
      · exact hy y m
    | _ => exact absurd h.1 (by simp [kindB])
theorem srt_mem {ys : List PySem.Str} {y : PySem.Str} (h : y ∈ RY.srtS (RY.dd ys)) : y ∈ ys := by
  have h1 : y ∈ RY.dd ys := (List.mergeSort_perm _ _).mem_iff.mp h
  have : ∀ (ys l : List PySem.Str), (∀ z ∈ l, z ∈ ys ∨ True) → y ∈ ys.foldl (fun l k => if k ∈ l then l else k :: l) l → y ∈ l ∨ y ∈ ys := by
    intro ys
    induction ys with
    | nil => intro l _ h; exact .inl h
    | cons k ys ih =>
      intro l _ h
      rw [List.foldl_cons] at h
      rcases ih _ (fun _ _ => .inr trivial) h with h | h
      · split at h
        · exact .inl h
        · rcases List.mem_cons.mp h with rfl | h
          · exact .inr List.mem_cons_self
          · exact .inl h
      · exact .inr (List.mem_cons_of_mem _ h)
  rcases this ys [] (fun _ h => by cases h) h1 with h | h
  · cases h
  · exact h
open PySem PyData in
theorem eq_strs : ∀ (a b : List PySem.Str), (∀ y ∈ a, y ∈ kinds8) → (∀ y ∈ b, y ∈ kinds8) → V2.eqV (.lst (a.map .str)) (.lst (b.map .str)) = some (.bl (decide (a = b))) := by
  intro a b ha hb
  have data : ∀ a : List PySem.Str, toDVs (a.map .str) = some (a.map PyData.str) := fun a => by
    induction a with
    | nil => rfl
    | cons x a ih => rw [List.map_cons, toDVs, ih]; rfl
  have lay : ∀ a : List PySem.Str, (∀ y ∈ a, y ∈ kinds8) → canLayAll0 (a.map PyData.str) = true ∧ depthAll (a.map PyData.str) ≤ 1 := fun a => by
    induction a with
    | nil => intro _; simp [canLayAll0, depthAll]
    | cons x a ih =>
      intro h
      obtain ⟨h1, h2⟩ := ih fun y m => h y (List.mem_cons_of_mem _ m)
      have := kd_ok x (h x List.mem_cons_self)
      refine ⟨by simp [canLayAll0, canLay0, this, h1], ?_⟩
      simp only [List.map_cons, depthAll, depth]; omega
  have sh : ∀ a : List PySem.Str, (∀ y ∈ a, y ∈ kinds8) → SeqAt.shaped (.list (a.map PyData.str)) = true := fun a h => by
    obtain ⟨h1, h2⟩ := lay a h
    unfold SeqAt.shaped; rw [Bool.and_eq_true]
    refine ⟨by simpa [canLay0] using h1, decide_eq_true ?_⟩
    simp only [depth]; omega
  have ev : ∀ a b : List PySem.Str, eqvAll (a.map PyData.str) (b.map PyData.str) = decide (a = b) := fun a => by
    induction a with
    | nil => intro b; cases b <;> simp [eqvAll]
    | cons x a ih => intro b; cases b with
      | nil => simp [eqvAll]
      | cons y b =>
        simp only [List.map_cons, eqvAll, ih b]
        rw [Bool.eq_iff_iff]; simp [eqv]
  have : eqVB (.lst (a.map .str)) (.lst (b.map .str)) = some (decide (a = b)) := by
    show eqVBg _ _ = _
    unfold eqVBg
    rw [show toDVm (.lst (a.map DV.str)) = some (.list (a.map PyData.str)) by show (toDVs (a.map DV.str)).map _ = _; rw [data]; rfl, show toDVm (.lst (b.map DV.str)) = some (.list (b.map PyData.str)) by show (toDVs (b.map DV.str)).map _ = _; rw [data]; rfl]
    simp only [Option.bind_some]
    rw [if_pos ⟨sh a ha, sh b hb⟩]
    congr 1
    simp only [eqv]
    exact ev a b
  unfold V2.eqV
  rw [this]; rfl
theorem ne_strs (a b : List PySem.Str) (ha : ∀ y ∈ a, y ∈ kinds8) (hb : ∀ y ∈ b, y ∈ kinds8) : neV (.lst (a.map .str)) (.lst (b.map .str)) = some (.bl (!decide (a = b))) := by
  obtain ⟨k, e1, e2⟩ := Option.map_eq_some_iff.mp (show (eqVB _ _).map _ = _ from eq_strs a b ha hb)
  show (eqVB _ _).map _ = _
  rw [e1]; cases e2; rfl
theorem srtW_at (ys : List PySem.Str) (h : ys.length ≤ 3000) : srtSetW (.tup (ys.map .str)) = some (.lst ((RY.srtS (RY.dd ys)).map .str)) := by
  show (strsD (ys.map .str)).bind _ = _
  rw [strsD_map]
  simp only [Option.bind_some]
  rw [if_pos (by omega)]
theorem kindsB_tup (ys : List PySem.Str) (h : ∀ y ∈ ys, y ∈ kinds8) : kindsB (.tup (ys.map .str)) = decide (ys = RY.srtS (RY.dd ys)) := by
  show ((ys.map DV.str).all kindB && _) = _
  rw [show (ys.map DV.str).all kindB = true from List.all_eq_true.mpr fun d m => by
    obtain ⟨y, my, rfl⟩ := List.mem_map.mp m
    exact decide_eq_true (h y my), Bool.true_and, strsD_map]
theorem kinds3 {n m : Nat} (hm : m ≤ 3000) (d : DV) (h : Sm n m d) (c : Cs) : g_are_kinds [d] c = some (.bl (kindsB d), c) := by
  have t1 : uNt (uTru (y1 (isV "tuple") (yPk 0))) [some (.v d), none] c = some (!(isTup d), c) := unt_at (utru_at (y1_at (pk_at rfl) (isT d h.hp)) rfl)
  cases hd : isTup d with
  | false =>
    rw [hd] at t1
    rw [show kindsB d = false by cases d <;> first | rfl | cases hd]
    exact fn_at rfl (sq_rt ((rif_t (uor_t t1)).trans (rt_at c_at)))
  | true =>
    rw [hd] at t1
    cases d with
    | tup ks =>
      have hc := lc_all (g := qNm 1) (a := yCall 1 g_is_kind (zCons (yVar 1) zNil)) (v := [some (.v (.tup ks)), none]) (c := c) (fun d : DV => d) (fun d => .bl (kindB d)) ks (fun k mk => ⟨_, q_qnm, (call1_at rfl).trans (kind3 k (h.mem mk).hp c)⟩)
      rw [List.map_id'] at hc
      have hl := h.len
      have t2 : uNt (uTru (y1 allV (yLc [1] (jAny (yPk 0)) (qNm 1) uYs (yCall 1 g_is_kind (zCons (yVar 1) zNil))))) [some (.v (.tup ks)), none] c = some (!ks.all kindB, c) :=
        unt_at (utru_at (y1_at (lc_at (v' := [some (.v (.tup ks)), none]) (jany_at (pk_at rfl) rfl) (by omega) rfl hc) (all_map_bl ks kindB)) rfl)
      cases hk : ks.all kindB with
      | false =>
        rw [hk] at t2
        rw [show kindsB (.tup ks) = false by show (ks.all kindB && _) = false; rw [hk]; rfl]
        exact fn_at rfl (sq_rt ((rif_t ((uor_f t1).trans t2)).trans (rt_at c_at)))
      | true =>
        rw [hk] at t2
        obtain ⟨ys, _, rfl, hy⟩ := strsD_of ks hk
        rw [List.length_map] at hl
        rw [kindsB_tup ys hy]
        exact fn_at rfl ((sq_nx ((rif_f (r := rRt (yC (.bl false))) (s := rNx) ((uor_f t1).trans t2)).trans q_nx)).trans (rt_at (y2_at (y1_at (pk_at rfl) (show listV (.tup (ys.map .str)) = some (.lst (ys.map .str)) from rfl)) (y1_at (pk_at rfl) (srtW_at ys (by omega))) (eq_strs _ _ hy fun y m => hy y (srt_mem m)))))
    | _ => cases hd
theorem kinds8_call (v : Env2) (c : Cs) : yCall 0 g_law_kinds zNil v c = some (.lst (kinds8.map .str), c) := by
  have : g_law_kinds [] c = some (.lst (kinds8.map .str), c) := by
    unfold g_law_kinds gb_law_kinds kinds8
    walk_at "q3"
  exact (call_at nil_at rfl).trans this
/-- a slot of the law -/
theorem good_slot {n m : Nat} (hn : n ≤ 60) (hm : m ≤ 3000) (d : DV) (h : Sm n m d) (x0 x2 x3 x4 x5 x6 : Option Sl) (c : Cs) :
    (kindsB d = true ∧ l_law_good_1 [x0, some (.v d), x2, x3, x4, x5, x6, none] c = some (.nx, [x0, some (.v d), x2, x3, x4, x5, x6, none], c)) ∨ (kindsB d = false ∧ ∃ v2, l_law_good_1 [x0, some (.v d), x2, x3, x4, x5, x6, none] c = some (.rt (.bl false), v2, c)) := by
  have t1 : uNt (uTru (y1 (isV "tuple") (yPk 1))) [x0, some (.v d), x2, x3, x4, x5, x6, none] c = some (!(isTup d), c) := unt_at (utru_at (y1_at (pk_at rfl) (isT d h.hp)) rfl)
  cases hd : isTup d with
  | false =>
    rw [hd] at t1
    exact .inr ⟨(by cases d <;> first | rfl | cases hd), _, (rif_t (uor_t t1)).trans (rt_at c_at)⟩
  | true =>
    rw [hd] at t1
    cases d with
    | tup ks =>
      have hc := lc_all (g := qNm 7) (a := y2 inTV (yPk 7) (yCall 0 g_law_kinds zNil)) (v := [x0, some (.v (.tup ks)), x2, x3, x4, x5, x6, none]) (c := c) (fun d : DV => d) (fun d => .bl (kindB d)) ks (fun k mk => ⟨_, q_qnm, y2_at (pk_at rfl) (kinds8_call _ c) (in_kinds (h.mem mk) hn)⟩)
      rw [List.map_id'] at hc
      have hl := h.len
      have t2 : uNt (uTru (y1 allV (yLc [7] (jAny (yPk 1)) (qNm 7) uYs (y2 inTV (yPk 7) (yCall 0 g_law_kinds zNil))))) [x0, some (.v (.tup ks)), x2, x3, x4, x5, x6, none] c = some (!ks.all kindB, c) :=
        unt_at (utru_at (y1_at (lc_at (v' := [x0, some (.v (.tup ks)), x2, x3, x4, x5, x6, none]) (jany_at (pk_at rfl) rfl) (by omega) rfl hc) (all_map_bl ks kindB)) rfl)
      cases hk : ks.all kindB with
      | false =>
        rw [hk] at t2
        exact .inr ⟨by show (ks.all kindB && _) = false; rw [hk]; rfl, _, (rif_t ((uor_f t1).trans (uor_t t2))).trans (rt_at c_at)⟩
      | true =>
        rw [hk] at t2
        obtain ⟨ys, _, rfl, hy⟩ := strsD_of ks hk
        rw [List.length_map] at hl
        rw [kindsB_tup ys hy]
        have t3 : uBl (y2 neV (y1 listV (yPk 1)) (y1 srtSetW (yPk 1))) [x0, some (.v (.tup (ys.map .str))), x2, x3, x4, x5, x6, none] c = some (!decide (ys = RY.srtS (RY.dd ys)), c) := ubl_at (y2_at (y1_at (pk_at rfl) (show listV (.tup (ys.map .str)) = some (.lst (ys.map .str)) from rfl)) (y1_at (pk_at rfl) (srtW_at ys (by omega))) (ne_strs _ _ hy fun y m => hy y (srt_mem m)))
        cases hs : decide (ys = RY.srtS (RY.dd ys)) with
        | false => rw [hs] at t3; exact .inr ⟨rfl, _, (rif_t ((uor_f t1).trans ((uor_f t2).trans t3))).trans (rt_at c_at)⟩
        | true => rw [hs] at t3; exact .inl ⟨rfl, (rif_f ((uor_f t1).trans ((uor_f t2).trans t3))).trans q_nx⟩
    | _ => cases hd
def hasK (k : PySem.Str) : DV → Bool
  | .tup ks => (match strsD ks with
    | some ys => decide (k ∈ ys)
    | none => false)
  | _ => false
def slotsF : DV → Bool
  | .tup ss => ss.all kindsB && kinds8.all fun k => ss.any (hasK k)
  | _ => false
theorem kindsB_form {d : DV} (h : kindsB d = true) : ∃ ys : List PySem.Str, d = .tup (ys.map .str) ∧ ∀ k, hasK k d = decide (k ∈ ys) := by
  cases d with
  | tup ks =>
    have h' : (ks.all kindB && (match strsD ks with
      | some ys => decide (ys = RY.srtS (RY.dd ys))
      | none => false)) = true := h
    rw [Bool.and_eq_true] at h'
    obtain ⟨ys, e, e2, _⟩ := strsD_of ks h'.1
    refine ⟨ys, by rw [e2], fun k => ?_⟩
    show (match strsD ks with
      | some ys => decide (k ∈ ys)
      | none => false) = _
    rw [e]
  | _ => cases h
theorem any_map_bl {α : Type} (l : List α) (f : α → Bool) : anyV (.lst (l.map fun x => DV.bl (f x))) = some (.bl (l.any f)) := by
  show (blsD _).map _ = _
  rw [show (l.map fun x => DV.bl (f x)) = (l.map f).map DV.bl by rw [List.map_map]; rfl, blsD_map]
  simp [List.any_map]
theorem in_slot {d : DV} (h : kindsB d = true) (k : PySem.Str) : inV2 (.str k) d = some (.bl (hasK k d)) := by
  obtain ⟨ys, rfl, e⟩ := kindsB_form h
  rw [e k]
  exact inV2_strsT k ys
theorem slots3 {n m : Nat} (hm : m ≤ 3000) (d : DV) (h : Sm n m d) (c : Cs) : g_are_slots [d] c = some (.bl (slotsF d), c) := by
  have t1 : uNt (uTru (y1 (isV "tuple") (yPk 0))) [some (.v d), none, none] c = some (!(isTup d), c) := unt_at (utru_at (y1_at (pk_at rfl) (isT d h.hp)) rfl)
  cases hd : isTup d with
  | false =>
    rw [hd] at t1
    rw [show slotsF d = false by cases d <;> first | rfl | cases hd]
    exact fn_at rfl (sq_rt ((rif_t (uor_t t1)).trans (rt_at c_at)))
  | true =>
    rw [hd] at t1
    cases d with
    | tup ss =>
      have hc := lc_all (g := qNm 2) (a := yCall 1 g_are_kinds (zCons (yVar 2) zNil)) (v := [some (.v (.tup ss)), none, none]) (c := c) (fun d : DV => d) (fun d => .bl (kindsB d)) ss (fun k mk => ⟨_, q_qnm, (call1_at rfl).trans (kinds3 hm k (h.mem mk) c)⟩)
      rw [List.map_id'] at hc
      have hl := h.len
      have t2 : uNt (uTru (y1 allV (yLc [2] (jAny (yPk 0)) (qNm 2) uYs (yCall 1 g_are_kinds (zCons (yVar 2) zNil))))) [some (.v (.tup ss)), none, none] c = some (!ss.all kindsB, c) :=
        unt_at (utru_at (y1_at (lc_at (v' := [some (.v (.tup ss)), none, none]) (jany_at (pk_at rfl) rfl) (by omega) rfl hc) (all_map_bl ss kindsB)) rfl)
      cases hk : ss.all kindsB with
      | false =>
        rw [hk] at t2
        rw [show slotsF (.tup ss) = false by show (ss.all kindsB && _) = false; rw [hk]; rfl]
        exact fn_at rfl (sq_rt ((rif_t ((uor_f t1).trans t2)).trans (rt_at c_at)))
      | true =>
        rw [hk] at t2
        rw [show slotsF (.tup ss) = kinds8.all fun k => ss.any (hasK k) by show (ss.all kindsB && _) = _; rw [hk, Bool.true_and]]
        have hk2 := lc_all (g := qNm 1) (a := y1 anyV (yLc [2] (jAny (yPk 0)) (qNm 2) uYs (y2 inV2 (yPk 1) (yPk 2)))) (v := [some (.v (.tup ss)), none, none]) (c := c) DV.str (fun k => .bl (ss.any (hasK k))) kinds8 (fun k _ => by
          refine ⟨_, q_qnm, ?_⟩
          have hi := lc_all (g := qNm 2) (a := y2 inV2 (yPk 1) (yPk 2)) (v := [some (.v (.tup ss)), some (.v (.str k)), none]) (c := c) (fun d : DV => d) (fun d => .bl (hasK k d)) ss (fun s ms => ⟨_, q_qnm, y2_at (pk_at rfl) (pk_at rfl) (in_slot (List.all_eq_true.mp hk s ms) k)⟩)
          rw [List.map_id'] at hi
          exact y1_at (lc_at (v' := [some (.v (.tup ss)), some (.v (.str k)), none]) (jany_at (pk_at rfl) rfl) (by omega) rfl hi) (any_map_bl ss (hasK k)))
        exact fn_at rfl ((sq_nx ((rif_f (r := rRt (yC (.bl false))) (s := rNx) ((uor_f t1).trans t2)).trans q_nx)).trans (rt_at (y1_at (lc_at (v' := [some (.v (.tup ss)), none, none]) (jany_at c_at rfl) (by decide) rfl hk2) (all_map_bl kinds8 fun k => ss.any (hasK k)))))
    | _ => cases hd

end Gen
end

section
set_option maxRecDepth 100000
set_option linter.all false
set_option Elab.async false
namespace Gen
open Rf L2 V2
local macro_rules | `(tactic| walk_at "q3") => `(tactic| simp only [q_var, q_pk, q_c, q_1, q_2, q_nil, q_cons, q_call, q_tup, q_lst, q_if, q_nt, q_an, q_or, q_ubl, q_unt, q_uan, q_uor, q_uys, q_utru, q_nx, q_ct, q_bk, q_sq, q_ex, q_rt, q_rn, q_ro, q_rif, q_as, q_ao, q_ap, q_fz, q_si, q_ae, q_for, q_jany, q_jrg1, q_jrg2, q_jen, q_jzp, q_qnm, q_qtp, q_qnil, q_qcons, q_lc, q_lc0, q_lc1, q_for0, q_for1, q_fn, q_fnf, q_start, q_on, q_os, q_sl, q_mxD, q_wipe1, q_wipe2, q_wipe3,
  addV, subV, mulV, modV, divV, negV, cmpV, catV, ixV_tup, ixV_lst, lenV, intV, tupleV, listV, truV, itV, itS, isNV, notNV, nonB, eqV_int, eqV_str, neV_int, neV_str, atI_at, tne, zl0, zl1, zl2, zl3, zl4, zl5, zl6, zl7, zl8, zl12, valD, kyD,
  Option.bind_some, Option.bind_none, Option.map_some, Option.map_none, List.map_cons, List.map_nil, List.length_cons, List.length_nil, List.length_map, List.length_set, List.replicate, List.cons_append, List.nil_append, List.getElem?_cons_zero, List.getElem?_cons_succ, List.set_cons_zero, List.set_cons_succ, List.isEmpty_cons, List.isEmpty_nil, ne_eq, not_false_eq_true, not_true_eq_false, Nat.reduceAdd, Nat.reduceSub, Nat.reduceEqDiff, Nat.reduceLeDiff, Nat.reduceLT, Nat.reducePow, Int.reducePow, Int.reduceNeg, Int.reduceLT, Int.reduceLE, Int.reduceToNat, Int.toNat_natCast, anyV, allV, Int.reduceAdd, Int.reduceSub, and_self, or_true, true_or, or_false, false_or, true_and, and_true, ↓reduceIte, Nat.add_zero, Nat.zero_add, Nat.sub_self, decide_eq_true_eq, decide_true, decide_false, Bool.false_eq_true, Bool.not_true, Bool.not_false, id_eq, *])

/-! a part of a value is changed: what comes is plain, and not much greater -/
def kids : List DV → List DV
  | [] => []
  | .tup es :: ds => es ++ kids ds
  | _ :: ds => kids ds
theorem kids_ok : ∀ ds : List DV, plL ds = true → plL (kids ds) = true ∧ szL (kids ds) ≤ szL ds ∧ (kids ds = [] ∨ dpL (kids ds) < dpL ds)
  | [], _ => ⟨rfl, Nat.le_refl _, .inl rfl⟩
  | d :: ds, h => by
    rw [plL, Bool.and_eq_true] at h
    obtain ⟨h1, h2, h3⟩ := kids_ok ds h.2
    cases d with
    | tup es =>
      rw [show kids (.tup es :: ds) = es ++ kids ds from rfl]
      have he : plL es = true := by have := h.1; rwa [pl] at this
      refine ⟨(plL_iff _).mpr fun e m => (List.mem_append.mp m).elim (fun m => (plL_iff _).mp he e m) (fun m => (plL_iff _).mp h1 e m), ?_, .inr ?_⟩
      · rw [szL_app, szL, sz]; omega
      · rw [dpL, dp]
        have a1 : dpL es ≤ dpL es := Nat.le_refl _
        have : dpL (es ++ kids ds) ≤ max (dpL es) (dpL ds) := (dpL_le _).mpr fun e m => (List.mem_append.mp m).elim (fun m => by have := (dpL_le es).mp a1 e m; omega) (fun m => by
          have := (dpL_le (kids ds)).mp (Nat.le_refl _) e m
          rcases h3 with h3 | h3
          · rw [h3] at m; cases m
          · omega)
        rcases h3 with h3 | h3
        · rw [h3, List.append_nil]; omega
        · have : dpL (es ++ kids ds) ≤ max (dpL es) (dpL ds - 1) := (dpL_le _).mpr fun e m => (List.mem_append.mp m).elim (fun m => by have := (dpL_le es).mp a1 e m; omega) (fun m => by
            have := (dpL_le (kids ds)).mp (Nat.le_refl _) e m
            omega)
          omega
    | lst es => cases h.1
    | dic es => cases h.1
    | tok => cases h.1
    | _ =>
      refine ⟨h1, by show szL (kids ds) ≤ szL (_ :: ds); rw [szL]; omega, ?_⟩
      show kids ds = [] ∨ dpL (kids ds) < dpL (_ :: ds)
      rw [dpL]
      rcases h3 with h3 | h3
      · exact .inl h3
      · right; omega
theorem q_xa {a : E2} {i : Nat} {v : Env2} {c : Cs} : rXa i a v c = (a v c).bind fun r => match v[i]?, r.1 with
  | some (some (.o ds)), .lst es => if ds.length + es.length ≤ PySem.sizeLine then some (.nx, v.set i (some (.o (ds ++ es))), r.2) else none
  | some (some (.o ds)), .tup es => if ds.length + es.length ≤ PySem.sizeLine then some (.nx, v.set i (some (.o (ds ++ es))), r.2) else none
  | _, _ => none := rfl
theorem high_in (x0 x1 x2 x3 : Option Sl) (c : Cs) : ∀ (ds acc : List DV) (x5 : Option Sl), plL ds = true → acc.length + szL ds ≤ 100000 → ∃ y5, forW (qNm 5) l_law_high_0 ds [x0, x1, x2, x3, some (.o acc), x5] c = some (.nx, [x0, x1, x2, x3, some (.o (acc ++ kids ds)), y5], c)
  | [], acc, x5, _, _ => ⟨x5, by rw [show kids [] = [] from rfl, List.append_nil]; rfl⟩
  | d :: ds, acc, x5, h, hl => by
    rw [plL, Bool.and_eq_true] at h
    rw [szL] at hl
    have ht : uTru (y1 (isV "tuple") (yPk 5)) [x0, x1, x2, x3, some (.o acc), some (.v d)] c = some (isTup d, c) := utru_at (y1_at (pk_at rfl) (isT d h.1)) rfl
    cases d with
    | tup es =>
      have hes := len_szL es
      rw [sz] at hl
      obtain ⟨y5, h2⟩ := high_in x0 x1 x2 x3 c ds (acc ++ es) (some (.v (.tup es))) h.2 (by rw [List.length_append]; omega)
      refine ⟨y5, ?_⟩
      rw [show kids (.tup es :: ds) = es ++ kids ds from rfl, ← List.append_assoc, ← h2]
      refine forW_one (v1 := [x0, x1, x2, x3, some (.o acc), some (.v (.tup es))]) rfl ((rif_t ht).trans ?_)
      rw [q_xa, pk_at (d := .tup es) rfl]
      simp only [Option.bind_some, List.getElem?_cons_zero, List.getElem?_cons_succ]
      rw [if_pos (of_eq_true (zl _ (by omega)))]
      rfl
    | lst es => cases h.1
    | dic es => cases h.1
    | tok => cases h.1
    | _ =>
      obtain ⟨y5, h2⟩ := high_in x0 x1 x2 x3 c ds acc _ h.2 (by omega)
      exact ⟨y5, (forW_one rfl ((rif_f ht).trans q_nx)).trans h2⟩
theorem q_wh1 {t : T2} {b : S2} {n : Nat} {v : Env2} {c : Cs} : whW t b (n + 1) v c = (t v c).bind fun r => if r.1 = true then (b v r.2).bind fun s => match s.1 with
    | .nx => whW t b n s.2.1 s.2.2
    | .ct => whW t b n s.2.1 s.2.2
    | .bk => some (.nx, s.2)
    | .rt _ => some s
    else some (.nx, v, r.2) := rfl
theorem wh_t {t : T2} {b : S2} {n : Nat} {v v1 : Env2} {c c1 c2 : Cs} (h1 : t v c = some (true, c1)) (h2 : b v c1 = some (.nx, v1, c2)) : whW t b (n + 1) v c = whW t b n v1 c2 := by
  rw [q_wh1, h1]; simp only [Option.bind_some, if_true]; rw [h2]; rfl
theorem wh_f {t : T2} {b : S2} {n : Nat} {v : Env2} {c c1 : Cs} (h1 : t v c = some (false, c1)) : whW t b (n + 1) v c = some (.nx, v, c1) := by
  rw [q_wh1, h1]; rfl
abbrev highT : T2 := uAn (uTru (yPk 1)) (uBl (y2 ltV (yPk 3) (yC (.int (4000)))))
theorem fz_at {i : Nat} {v v' : Env2} {c : Cs} {ds : List DV} (h : v[i]? = some (some (.o ds))) (hs : v.set i (some (.v (.lst ds))) = v') : rFz i v c = some (.nx, v', c) := by
  rw [q_fz, h, ← hs]
theorem high_out (x0 : Option Sl) (c : Cs) : ∀ (D k : Nat) (ds : List DV) (hi co : Int) (x4 x5 : Option Sl), (ds = [] ∨ dpL ds < D) → plL ds = true → szL ds ≤ 10000 → ∃ ds' hi' co' y4 y5, whW highT l_law_high_1 (D + 1 + k) [x0, some (.v (.lst ds)), some (.v (.int hi)), some (.v (.int co)), x4, x5] c = some (.nx, [x0, some (.v (.lst ds')), some (.v (.int hi')), some (.v (.int co')), y4, y5], c) := by
  intro D
  induction D with
  | zero =>
    intro k ds hi co x4 x5 h hp hs
    obtain rfl : ds = [] := h.resolve_right (Nat.not_lt_zero _)
    refine ⟨[], hi, co, x4, x5, ?_⟩
    rw [show 0 + 1 + k = k + 1 by omega]
    exact wh_f (uan_f (utru_at (pk_at rfl) rfl))
  | succ D ih =>
    intro k ds hi co x4 x5 h hp hs
    rw [show D + 1 + 1 + k = (D + 1 + k) + 1 by omega]
    have t1 : uTru (yPk 1) [x0, some (.v (.lst ds)), some (.v (.int hi)), some (.v (.int co)), x4, x5] c = some (!ds.isEmpty, c) := utru_at (pk_at rfl) rfl
    have t2 : uBl (y2 ltV (yPk 3) (yC (.int (4000)))) [x0, some (.v (.lst ds)), some (.v (.int hi)), some (.v (.int co)), x4, x5] c = some (decide (co < 4000), c) := ubl_at (y2_at (pk_at rfl) c_at rfl)
    cases he : ds.isEmpty with
    | true =>
      rw [he] at t1
      exact ⟨ds, hi, co, x4, x5, wh_f (uan_f t1)⟩
    | false =>
      rw [he] at t1
      cases hc : decide (co < 4000) with
      | false =>
        rw [hc] at t2
        exact ⟨ds, hi, co, x4, x5, wh_f ((uan_t t1).trans t2)⟩
      | true =>
        rw [hc] at t2
        obtain ⟨k1, k2, k3⟩ := kids_ok ds hp
        have hne : ds ≠ [] := by rintro rfl; cases he
        have hdd := h.resolve_left hne
        obtain ⟨y5, hin⟩ := high_in x0 (some (.v (.lst ds))) (some (.v (.int (hi + 1)))) (some (.v (.int (co + (ds.length : Int))))) c ds [] x5 hp (by simp only [List.length_nil]; omega)
        rw [List.nil_append] at hin
        obtain ⟨ds', hi', co', y4', y5', e⟩ := ih k (kids ds) (hi + 1) (co + (ds.length : Int)) (some (.v (.lst (kids ds)))) y5 (by
          rcases k3 with k3 | k3
          · exact .inl k3
          · right; omega) k1 (by omega)
        refine ⟨ds', hi', co', y4', y5', (wh_t ((uan_t t1).trans t2) ?_).trans e⟩
        have s1 : rAs 2 (y2 addV (yPk 2) (yC (.int (1)))) [x0, some (.v (.lst ds)), some (.v (.int hi)), some (.v (.int co)), x4, x5] c = some (.nx, [x0, some (.v (.lst ds)), some (.v (.int (hi + 1))), some (.v (.int co)), x4, x5], c) := as_at (y2_at (pk_at rfl) c_at rfl) rfl
        have s2 : rAs 3 (y2 addV (yPk 3) (y1 lenV (yPk 1))) [x0, some (.v (.lst ds)), some (.v (.int (hi + 1))), some (.v (.int co)), x4, x5] c = some (.nx, [x0, some (.v (.lst ds)), some (.v (.int (hi + 1))), some (.v (.int (co + (ds.length : Int)))), x4, x5], c) := as_at (y2_at (pk_at rfl) (y1_at (pk_at rfl) rfl) rfl) rfl
        have s3 : rAo 4 (yLst zNil) [x0, some (.v (.lst ds)), some (.v (.int (hi + 1))), some (.v (.int (co + (ds.length : Int)))), x4, x5] c = some (.nx, [x0, some (.v (.lst ds)), some (.v (.int (hi + 1))), some (.v (.int (co + (ds.length : Int)))), some (.o []), x5], c) := rfl
        have hj : jAny (yVar 1) [x0, some (.v (.lst ds)), some (.v (.int (hi + 1))), some (.v (.int (co + (ds.length : Int)))), some (.o []), x5] c = some (ds, c) := jany_at (var_at rfl) rfl
        exact (sq_nx s1).trans ((sq_nx s2).trans ((sq_nx s3).trans ((sq_nx ((for_at hj).trans hin)).trans ((sq_nx (fz_at rfl rfl)).trans (as_at (var_at rfl) rfl)))))
theorem high2 (d : DV) (hp : pl d = true) (hd : dp d < 1000) (hs : sz d ≤ 10000) (c : Cs) : ∃ z, g_law_high [d] c = some (.int z, c) := by
  obtain ⟨ds', hi', co', y4, y5, e⟩ := high_out (some (.v d)) c 1001 998998 [d] 0 0 none none (.inr (by show max (dp d) 0 < 1001; omega)) (by show (pl d && true) = true; rw [hp]; rfl) (by show sz d + 0 ≤ _; omega)
  have s1 : rAs 1 (yLst (zCons (yVar 0) zNil)) [some (.v d), none, none, none, none, none] c = some (.nx, [some (.v d), some (.v (.lst [d])), none, none, none, none], c) := as_at (lst1_at (var_at rfl)) rfl
  have s2 : rAs 2 (yC (.int (0))) [some (.v d), some (.v (.lst [d])), none, none, none, none] c = some (.nx, [some (.v d), some (.v (.lst [d])), some (.v (.int 0)), none, none, none], c) := as_at c_at rfl
  have s3 : rAs 3 (yC (.int (0))) [some (.v d), some (.v (.lst [d])), some (.v (.int 0)), none, none, none] c = some (.nx, [some (.v d), some (.v (.lst [d])), some (.v (.int 0)), some (.v (.int 0)), none, none], c) := as_at c_at rfl
  have s4 : rWh 1000000 highT l_law_high_1 [some (.v d), some (.v (.lst [d])), some (.v (.int 0)), some (.v (.int 0)), none, none] c = some (.nx, [some (.v d), some (.v (.lst ds')), some (.v (.int hi')), some (.v (.int co')), y4, y5], c) := e
  have t1 : uTru (yPk 1) [some (.v d), some (.v (.lst ds')), some (.v (.int hi')), some (.v (.int co')), y4, y5] c = some (!ds'.isEmpty, c) := utru_at (pk_at rfl) rfl
  cases he : ds'.isEmpty with
  | true =>
    rw [he] at t1
    exact ⟨hi', fn_at rfl ((sq_nx s1).trans ((sq_nx s2).trans ((sq_nx s3).trans ((sq_nx s4).trans ((sq_nx ((rif_f t1).trans q_nx)).trans (rt_at (var_at rfl)))))))⟩
  | false =>
    rw [he] at t1
    exact ⟨1000, fn_at rfl ((sq_nx s1).trans ((sq_nx s2).trans ((sq_nx s3).trans ((sq_nx s4).trans (sq_rt ((rif_t t1).trans (rt_at c_at)))))))⟩
theorem pick_at {L : List DV} {i : Int} (h0 : 0 ≤ i) (h1 : i < (L.length : Int)) : ∃ e ∈ L, ixV (.lst L) (.int i) = some e := by
  have hl : i.toNat < L.length := by omega
  exact ⟨L[i.toNat], List.getElem_mem hl, by rw [ixV_lst, atI_at h0, List.getElem?_eq_getElem hl]⟩
/-- no greater than what may stand there -/
def Oth (d o : DV) : Prop := pl o = true ∧ dp o ≤ dp d + 3 ∧ sz o ≤ 2 * sz d + 8 ∧ (okS d = true → okS o = true)
theorem oth_sub {d : DV} {es fs : List DV} (h0 : okS d = true → okS (.tup es) = true) (h1 : pl (.tup es) = true) (h2 : dp (.tup es) ≤ dp d) (h3 : sz (.tup es) ≤ sz d) (hm : ∀ f ∈ fs, f ∈ es) (hs : szL fs ≤ 2 * szL es) : Oth d (.tup fs) := by
  rw [pl] at h1
  rw [dp] at h2
  rw [sz] at h3
  refine ⟨by rw [pl]; exact (plL_iff _).mpr fun f m => (plL_iff _).mp h1 f (hm f m), ?_, by rw [sz]; omega, fun h => by have := h0 h; rw [okS] at this ⊢; exact (okSL_iff _).mpr fun f m => (okSL_iff _).mp this f (hm f m)⟩
  rw [dp]
  have : dpL fs ≤ dpL es := (dpL_le _).mpr fun f m => (dpL_le es).mp (Nat.le_refl _) f (hm f m)
  omega
theorem cut_sub (es : List DV) (lo hi : Option Int) : (cutD es lo hi).Sublist es := (List.take_sublist _ _).trans (List.drop_sublist _ _)
theorem lst_at {as : A2} {v : Env2} {c c1 : Cs} {ds : List DV} (h : as v c = some (ds, c1)) (hl : ds.length ≤ 1000) : yLst as v c = some (.lst ds, c1) := by
  rw [q_lst, h]; simp only [Option.bind_some]; rw [if_pos (of_eq_true (zl _ (by omega)))]
theorem tup_at {as : A2} {v : Env2} {c c1 : Cs} {ds : List DV} (h : as v c = some (ds, c1)) (hl : ds.length ≤ 1000) : yTup as v c = some (.tup ds, c1) := by
  rw [q_tup, h]; simp only [Option.bind_some]; rw [if_pos (of_eq_true (zl _ (by omega)))]
theorem os_at {a : E2} {v : Env2} {c c1 : Cs} {i : Int} (h : a v c = some (.int i, c1)) : oS2 a v c = some (some i, c1) := by
  rw [q_os, h]; rfl
theorem on_at {v : Env2} {c : Cs} : oN2 v c = some (none, c) := rfl
theorem slT_at' {a : E2} {lo hi : O2} {v : Env2} {c c1 c2 c3 : Cs} {ds : List DV} {l h : Option Int} (h1 : a v c = some (.tup ds, c1)) (h2 : lo v c1 = some (l, c2)) (h3 : hi v c2 = some (h, c3)) : ySl a lo hi v c = some (.tup (cutD ds l h), c3) := by
  rw [q_sl, h1]; simp only [Option.bind_some]; rw [h2]; simp only [Option.bind_some]; rw [h3]; rfl
/-- a draw -/
theorem draw_at {e : E2} {n : Int} {c : Cs} (v : Env2) (h0 : v[0]? = some (some (.v .tok))) (he : e v c = some (.int n, c)) (h1 : 0 < n) (h2 : n ≤ 1000000) : ∃ (d : Int) (c' : Cs), 0 ≤ d ∧ d < n ∧ yCall 2 g_law_take (zCons (yVar 0) (zCons e zNil)) v c = some (.int d, c') := by
  obtain ⟨d, c', e1, l, u⟩ := take2 c (many := n) h1 (by omega)
  exact ⟨d, c', l, u, (call_at (cons_at (var_at h0) (cons_at he nil_at)) rfl).trans e1⟩
theorem spoilt2 (c : Cs) (d : DV) (hp : pl d = true) (hd : dp d ≤ 9) (hs : sz d ≤ 900) : ∃ d' c', g_law_spoilt [.tok, d] c = some (d', c') ∧ pl d' = true ∧ dp d' ≤ 2 * dp d + 3 ∧ sz d' ≤ 3 * sz d + 8 ∧ (okS d = true → okS d' = true) := by
  have hfl := fl_len d
  have hpos := sz_pos d
  have hno : nodesV d = some (.lst (fl d)) := by unfold nodesV; rw [if_pos ⟨hp, by omega, by omega⟩]
  have s1 : rAs 2 (y1 nodesV (yPk 1)) [some (.v .tok), some (.v d), none, none, none, none, none] c = some (.nx, [some (.v .tok), some (.v d), some (.v (.lst (fl d))), none, none, none, none], c) := as_at (y1_at (pk_at rfl) hno) rfl
  have hlen : lenV (.lst (fl d)) = some (.int (sz d : Int)) := by rw [← hfl]; rfl
  generalize hF : fl d = F at *
  have hF1 : ∀ e ∈ F, pl e = true ∧ dp e ≤ dp d ∧ sz e ≤ sz d ∧ (okS d = true → okS e = true) := fun e m => by
    rw [← hF] at m
    obtain ⟨a, b, c⟩ := fl_mem d e m
    exact ⟨a hp, b, c, fun h => fl_okS d e h m⟩
  obtain ⟨d1, c1, l1, u1, e1⟩ := draw_at (e := y1 lenV (yPk 2)) (n := (sz d : Int)) (c := c) [some (.v .tok), some (.v d), some (.v (.lst F)), none, none, none, none] rfl (y1_at (pk_at rfl) hlen) (by omega) (by omega)
  obtain ⟨one, m1, i1⟩ := pick_at (L := F) l1 (by omega)
  have s2 : rAs 3 (yCall 2 g_law_take (zCons (yVar 0) (zCons (y1 lenV (yPk 2)) zNil))) [some (.v .tok), some (.v d), some (.v (.lst F)), none, none, none, none] c = some (.nx, [some (.v .tok), some (.v d), some (.v (.lst F)), some (.v (.int d1)), none, none, none], c1) := as_at e1 rfl
  have s3 : rAs 4 (y2 ixV (yPk 2) (yPk 3)) [some (.v .tok), some (.v d), some (.v (.lst F)), some (.v (.int d1)), none, none, none] c1 = some (.nx, [some (.v .tok), some (.v d), some (.v (.lst F)), some (.v (.int d1)), some (.v one), none, none], c1) := as_at (y2_at (pk_at rfl) (pk_at rfl) i1) rfl
  obtain ⟨o1, o2, o3, o4⟩ := hF1 one m1
  generalize hv : [some (Sl.v .tok), some (.v d), some (.v (.lst F)), some (.v (.int d1)), some (.v one), none, none] = v at s3
  have v0 : v[0]? = some (some (.v .tok)) := by rw [← hv]; rfl
  have v2 : v[2]? = some (some (.v (.lst F))) := by rw [← hv]; rfl
  obtain ⟨d2, c2, l2, u2, e2⟩ := draw_at (e := y1 lenV (yPk 2)) (n := (sz d : Int)) (c := c1) v v0 (y1_at (pk_at v2) hlen) (by omega) (by omega)
  obtain ⟨x1, n1, i2⟩ := pick_at (L := F) l2 (by omega)
  obtain ⟨d3, c3, l3, u3, e3⟩ := draw_at (e := y1 lenV (yPk 2)) (n := (sz d : Int)) (c := c2) v v0 (y1_at (pk_at v2) hlen) (by omega) (by omega)
  obtain ⟨x2, n2, i3⟩ := pick_at (L := F) l3 (by omega)
  obtain ⟨d4, c4, l4, u4, e4⟩ := draw_at (e := yC (.int (9))) (n := 9) (c := c3) v v0 c_at (by decide) (by decide)
  obtain ⟨o, mo, i4⟩ := pick_at (L := [x1, x2, .non, .int 0, .int 1, .tup [], .tup [.tup [], .int 0], .tup [.int 0, .tup [.tup [], .int 0]], .bl true]) l4 u4
  have ho : Oth d o := by
    have w1 := hF1 x1 n1
    have w2 := hF1 x2 n2
    simp only [List.mem_cons, List.not_mem_nil, or_false] at mo
    rcases mo with rfl | rfl | rfl | rfl | rfl | rfl | rfl | rfl | rfl
    · exact ⟨w1.1, by omega, by omega, w1.2.2.2⟩
    · exact ⟨w2.1, by omega, by omega, w2.2.2.2⟩
    all_goals exact ⟨rfl, by simp [dp, dpL], by simp [sz, szL], fun _ => rfl⟩
  have s4 : rAs 5 (y2 ixV (yLst (zCons (y2 ixV (yPk 2) (yCall 2 g_law_take (zCons (yVar 0) (zCons (y1 lenV (yPk 2)) zNil)))) (zCons (y2 ixV (yPk 2) (yCall 2 g_law_take (zCons (yVar 0) (zCons (y1 lenV (yPk 2)) zNil)))) (zCons (yC .non) (zCons (yC (.int (0))) (zCons (yC (.int (1))) (zCons (yTup zNil) (zCons (yTup (zCons (yTup zNil) (zCons (yC (.int (0))) zNil))) (zCons (yTup (zCons (yC (.int (0))) (zCons (yTup (zCons (yTup zNil) (zCons (yC (.int (0))) zNil))) zNil))) (zCons (yC (.bl true)) zNil)))))))))) (yCall 2 g_law_take (zCons (yVar 0) (zCons (yC (.int (9))) zNil)))) v c1 = some (.nx, [some (.v .tok), some (.v d), some (.v (.lst F)), some (.v (.int d1)), some (.v one), some (.v o), none], c4) := by
    refine as_at (y2_at (lst_at (cons_at (y2_at (pk_at v2) e2 i2) (cons_at (y2_at (pk_at v2) e3 i3) (cons_at c_at (cons_at c_at (cons_at c_at (cons_at rfl (cons_at rfl (cons_at rfl (cons_at c_at nil_at))))))))) (by simp)) e4 i4) (by rw [← hv]; rfl)
  have hT : uTru (y1 (isV "tuple") (yPk 4)) [some (.v .tok), some (.v d), some (.v (.lst F)), some (.v (.int d1)), some (.v one), some (.v o), none] c4 = some (isTup one, c4) := utru_at (y1_at (pk_at rfl) (isT one o1)) rfl
  have s5 : ∃ o' c5, rIf (uAn (uTru (y1 (isV "tuple") (yPk 4))) (uBl (y2 V2.eqV (yCall 2 g_law_take (zCons (yVar 0) (zCons (yC (.int (2))) zNil))) (yC (.int (0)))))) (rAs 5 (y2 ixV (yLst (zCons (ySl (yPk 4) (oS2 (yC (.int (1)))) oN2) (zCons (y2 addV (yPk 4) (ySl (yPk 4) (oS2 (y1 negV (yC (.int (1))))) oN2)) (zCons (y1 revV (yPk 4)) (zCons (ySl (yPk 4) oN2 (oS2 (y1 negV (yC (.int (1)))))) zNil))))) (yCall 2 g_law_take (zCons (yVar 0) (zCons (yC (.int (4))) zNil))))) rNx [some (.v .tok), some (.v d), some (.v (.lst F)), some (.v (.int d1)), some (.v one), some (.v o), none] c4 = some (.nx, [some (.v .tok), some (.v d), some (.v (.lst F)), some (.v (.int d1)), some (.v one), some (.v o'), none], c5) ∧ Oth d o' := by
    cases one with
    | tup es =>
      obtain ⟨d5, c5, l5, u5, e5⟩ := draw_at (e := yC (.int (2))) (n := 2) (c := c4) [some (.v .tok), some (.v d), some (.v (.lst F)), some (.v (.int d1)), some (.v (.tup es)), some (.v o), none] rfl c_at (by decide) (by decide)
      have t2 : uBl (y2 V2.eqV (yCall 2 g_law_take (zCons (yVar 0) (zCons (yC (.int (2))) zNil))) (yC (.int (0)))) [some (.v .tok), some (.v d), some (.v (.lst F)), some (.v (.int d1)), some (.v (.tup es)), some (.v o), none] c4 = some (decide (d5 = 0), c5) := ubl_at (y2_at e5 c_at (eqV_int _ _))
      cases hz : decide (d5 = 0) with
      | false => rw [hz] at t2; exact ⟨o, c5, (rif_f ((uan_t hT).trans t2)).trans q_nx, ho⟩
      | true =>
        rw [hz] at t2
        obtain ⟨d6, c6, l6, u6, e6⟩ := draw_at (e := yC (.int (4))) (n := 4) (c := c5) [some (.v .tok), some (.v d), some (.v (.lst F)), some (.v (.int d1)), some (.v (.tup es)), some (.v o), none] rfl c_at (by decide) (by decide)
        obtain ⟨o', mo', i6⟩ := pick_at (L := [.tup (cutD es (some 1) none), .tup (es ++ cutD es (some (-1)) none), .tup es.reverse, .tup (cutD es none (some (-1)))]) l6 u6
        have hes := len_szL es
        have hsz : szL es + 1 ≤ sz d := by rw [sz] at o3; exact o3
        have hcl := (cut_sub es (some (-1)) none).length_le
        refine ⟨o', c6, (rif_t ((uan_t hT).trans t2)).trans (as_at (y2_at (lst_at (cons_at (slT_at' (pk_at rfl) (os_at c_at) on_at) (cons_at (y2_at (pk_at rfl) (slT_at' (pk_at rfl) (os_at (y1_at c_at rfl)) on_at) ?_) (cons_at (y1_at (pk_at rfl) rfl) (cons_at (slT_at' (pk_at rfl) on_at (os_at (y1_at c_at rfl))) nil_at)))) (by simp)) e6 i6) rfl), ?_⟩
        · show (if es.length + (cutD es (some (-1)) none).length ≤ PySem.sizeLine then _ else _) = _
          rw [if_pos (of_eq_true (zl _ (by omega)))]
        · simp only [List.mem_cons, List.not_mem_nil, or_false] at mo'
          rcases mo' with rfl | rfl | rfl | rfl
          · exact oth_sub o4 o1 o2 o3 (fun f m => (cut_sub es _ _).subset m) (by have := szL_sub (cut_sub es (some 1) none); omega)
          · refine oth_sub o4 o1 o2 o3 (fun f m => (List.mem_append.mp m).elim id fun m => (cut_sub es _ _).subset m) ?_
            rw [szL_app]
            have := szL_sub (cut_sub es (some (-1)) none); omega
          · exact oth_sub o4 o1 o2 o3 (fun f m => List.mem_reverse.mp m) (by rw [szL_rev]; omega)
          · exact oth_sub o4 o1 o2 o3 (fun f m => (cut_sub es _ _).subset m) (by have := szL_sub (cut_sub es none (some (-1))); omega)
    | lst es => cases o1
    | dic es => cases o1
    | tok => cases o1
    | _ => exact ⟨o, c4, (rif_f (uan_f hT)).trans q_nx, ho⟩
  obtain ⟨o', c5, s5, ho'⟩ := s5
  obtain ⟨g1, g2, g3, g4⟩ := ch_ok d (d1 + 1) o' ho'.1 hp
  have hdp : dp (chD d (d1 + 1) o').1 ≤ 2 * dp d + 3 := by have := ho'.2.1; omega
  have hsz : sz (chD d (d1 + 1) o').1 ≤ 3 * sz d + 8 := by have := ho'.2.2.1; split at g4 <;> omega
  have hoks : okS d = true → okS (chD d (d1 + 1) o').1 = true := fun h => ch_okS d _ _ (ho'.2.2.2 h) h
  generalize hr : (chD d (d1 + 1) o').1 = r at *
  have s6 : rAs 6 (yChg (yVar 1) (y2 addV (yPk 3) (yC (.int (1)))) (yVar 5)) [some (.v .tok), some (.v d), some (.v (.lst F)), some (.v (.int d1)), some (.v one), some (.v o'), none] c5 = some (.nx, [some (.v .tok), some (.v d), some (.v (.lst F)), some (.v (.int d1)), some (.v one), some (.v o'), some (.v r)], c5) := by
    refine as_at ?_ rfl
    show (if pl d = true ∧ dp d < 20 ∧ sz d ≤ 3000 ∧ pl o' = true then some ((chD d (d1 + 1) o').1, c5) else none) = _
    rw [if_pos ⟨hp, by omega, by omega, ho'.1⟩, hr]
  obtain ⟨z, hz⟩ := high2 r g1 (by omega) (by omega) c5
  have t7 : uBl (y2 gtV (yCall 1 g_law_high (zCons (yVar 6) zNil)) (yC (.int (120)))) [some (.v .tok), some (.v d), some (.v (.lst F)), some (.v (.int d1)), some (.v one), some (.v o'), some (.v r)] c5 = some (decide (120 < z), c5) := ubl_at (y2_at ((call1_at rfl).trans hz) c_at rfl)
  cases hq : decide (120 < z) with
  | true =>
    rw [hq] at t7
    exact ⟨d, c5, fn_at rfl ((sq_nx s1).trans ((sq_nx s2).trans ((sq_nx s3).trans ((sq_nx s4).trans ((sq_nx s5).trans ((sq_nx s6).trans (sq_rt ((rif_t t7).trans (rt_at (var_at rfl)))))))))), hp, by omega, by omega, id⟩
  | false =>
    rw [hq] at t7
    exact ⟨r, c5, fn_at rfl ((sq_nx s1).trans ((sq_nx s2).trans ((sq_nx s3).trans ((sq_nx s4).trans ((sq_nx s5).trans ((sq_nx s6).trans ((sq_nx ((rif_f t7).trans q_nx)).trans (rt_at (var_at rfl))))))))), g1, hdp, hsz, hoks⟩

end Gen
end

section
set_option maxRecDepth 100000
set_option linter.all false
set_option Elab.async false
namespace Gen
open Rf L2 V2
local macro_rules | `(tactic| walk_at "q3") => `(tactic| simp only [q_var, q_pk, q_c, q_1, q_2, q_nil, q_cons, q_call, q_tup, q_lst, q_if, q_nt, q_an, q_or, q_ubl, q_unt, q_uan, q_uor, q_uys, q_utru, q_nx, q_ct, q_bk, q_sq, q_ex, q_rt, q_rn, q_ro, q_rif, q_as, q_ao, q_ap, q_fz, q_si, q_ae, q_for, q_jany, q_jrg1, q_jrg2, q_jen, q_jzp, q_qnm, q_qtp, q_qnil, q_qcons, q_lc, q_lc0, q_lc1, q_for0, q_for1, q_fn, q_fnf, q_start, q_on, q_os, q_sl, q_mxD, q_wipe1, q_wipe2, q_wipe3,
  addV, subV, mulV, modV, divV, negV, cmpV, catV, ixV_tup, ixV_lst, lenV, intV, tupleV, listV, truV, itV, itS, isNV, notNV, nonB, eqV_int, eqV_str, neV_int, neV_str, atI_at, tne, zl0, zl1, zl2, zl3, zl4, zl5, zl6, zl7, zl8, zl12, valD, kyD,
  Option.bind_some, Option.bind_none, Option.map_some, Option.map_none, List.map_cons, List.map_nil, List.length_cons, List.length_nil, List.length_map, List.length_set, List.replicate, List.cons_append, List.nil_append, List.getElem?_cons_zero, List.getElem?_cons_succ, List.set_cons_zero, List.set_cons_succ, List.isEmpty_cons, List.isEmpty_nil, ne_eq, not_false_eq_true, not_true_eq_false, Nat.reduceAdd, Nat.reduceSub, Nat.reduceEqDiff, Nat.reduceLeDiff, Nat.reduceLT, Nat.reducePow, Int.reducePow, Int.reduceNeg, Int.reduceLT, Int.reduceLE, Int.reduceToNat, Int.toNat_natCast, anyV, allV, Int.reduceAdd, Int.reduceSub, and_self, or_true, true_or, or_false, false_or, true_and, and_true, ↓reduceIte, Nat.add_zero, Nat.zero_add, Nat.sub_self, decide_eq_true_eq, decide_true, decide_false, Bool.false_eq_true, Bool.not_true, Bool.not_false, id_eq, *])

/-! latencies, limits, the whole -/
def intO : DV → Option Int
  | .int i => some i
  | _ => none
def latF (k : PySem.Str) (d : DV) : Bool := match d with
  | .tup ds => match ds with
    | [a, b] => isWd k a && isIn b
    | _ => false
  | _ => false
theorem tupN2_of {d : DV} (h : tupN 2 d = true) : ∃ a b, d = .tup [a, b] := by
  cases d with
  | tup ds =>
    match ds, of_decide_eq_true (show decide (ds.length = 2) = true from h) with
    | [a, b], _ => exact ⟨a, b, rfl⟩
  | _ => cases h
theorem isIn_of {d : DV} (h : isIn d = true) : ∃ i, d = .int i := by cases d <;> first | exact ⟨_, rfl⟩ | cases h
theorem latF_no (k : PySem.Str) (d : DV) (h : tupN 2 d = false) : latF k d = false := by
  cases d with
  | tup ds =>
    match ds with
    | [] => rfl
    | [_] => rfl
    | [_, _] => cases h
    | _ :: _ :: _ :: _ => rfl
  | _ => rfl
theorem latency3 {n m : Nat} (k : PySem.Str) (d : DV) (h : Sm n m d) (c : Cs) : g_is_latency [d, .str k] c = some (.bl (latF k d), c) := by
  have h1 := tuple2 2 d h.hp c
  have a1 : yCall 2 g_is_tuple (zCons (yVar 0) (zCons (yC (.int (2))) zNil)) [some (.v d), some (.v (.str k))] c = some (.bl (tupN 2 d), c) := (call_at (cons_at (var_at rfl) (cons_at c_at nil_at)) rfl).trans h1
  cases hd : tupN 2 d with
  | false =>
    rw [hd] at a1
    rw [latF_no k d hd]
    exact fn_at rfl (rt_at (an_f a1))
  | true =>
    rw [hd] at a1
    obtain ⟨a, b, rfl⟩ := tupN2_of hd
    have ha := h.mem (d := a) (by simp)
    have hb := h.mem (d := b) (by simp)
    have a2 : yCall 2 g_is_word (zCons (y2 ixV (yPk 0) (yC (.int (0)))) (zCons (yVar 1) zNil)) [some (.v (.tup [a, b])), some (.v (.str k))] c = some (.bl (isWd k a), c) := (call_at (cons_at (y2_at (pk_at rfl) c_at rfl) (cons_at (var_at rfl) nil_at)) rfl).trans (word3 k a ha.hp c)
    have a3 : yCall 1 g_is_number (zCons (y2 ixV (yPk 0) (yC (.int (1)))) zNil) [some (.v (.tup [a, b])), some (.v (.str k))] c = some (.bl (isIn b), c) := (call_at (cons_at (y2_at (pk_at rfl) c_at rfl) nil_at) rfl).trans (num2 b hb.hp c)
    show _ = some (DV.bl (isWd k a && isIn b), c)
    cases hw : isWd k a with
    | false => rw [hw] at a2; exact fn_at rfl (rt_at ((an_t a1).trans (an_f a2)))
    | true => rw [hw] at a2; rw [Bool.true_and]; exact fn_at rfl (rt_at ((an_t a1).trans ((an_t a2).trans a3)))
def kAt (j : Nat) : PySem.Str := kinds8.getD j "add"
theorem kAt_mem {j : Nat} (h : j < 8) : kAt j ∈ kinds8 := by
  have : ∀ j, j < 8 → kAt j ∈ kinds8 := by decide +kernel
  exact this j h
theorem eight {α : Type} {l : List α} (h : l.length = 8) : ∃ a b d e f g i j, l = [a, b, d, e, f, g, i, j] := by
  match l, h with
  | [a, b, d, e, f, g, i, j], _ => exact ⟨a, b, d, e, f, g, i, j, rfl⟩
theorem zip8 {ls : List DV} (h : ls.length = 8) : zipD ls (kinds8.map DV.str) = (List.range 8).map fun j => DV.tup [atD0 ls j, .str (kAt j)] := by
  obtain ⟨a, b, d, e, f, g, i, j, rfl⟩ := eight h
  rfl
theorem all8 {ls : List DV} (h : ls.length = 8) : (List.range 8).map (fun j => atD0 ls j) = ls := by
  obtain ⟨a, b, d, e, f, g, i, j, rfl⟩ := eight h
  rfl
def latsF : DV → Bool
  | .tup ls => decide (ls.length = 8) && (List.range 8).all fun j => latF (kAt j) (atD0 ls j)
  | _ => false
theorem Sm.at {n m : Nat} {ls : List DV} (h : Sm n m (.tup ls)) {j : Nat} (hj : j < ls.length) : Sm n m (atD0 ls j) := h.mem (List.mem_of_getElem? (atD0_get hj))
theorem latencies3 {n m : Nat} (d : DV) (h : Sm n m d) (c : Cs) : g_are_latencies [d] c = some (.bl (latsF d), c) := by
  have h1 := tuple2 8 d h.hp c
  have t1 : uNt (uTru (yCall 2 g_is_tuple (zCons (yVar 0) (zCons (y1 lenV (yC (.tup ((["add", "and", "less", "load", "mul", "out", "store", "sub"] : List PySem.Str).map DV.str)))) zNil)))) [some (.v d), none, none] c = some (!(tupN 8 d), c) :=
    unt_at (utru_at ((call_at (cons_at (var_at rfl) (cons_at (y1_at c_at rfl) nil_at)) rfl).trans h1) rfl)
  cases hd : tupN 8 d with
  | false =>
    rw [hd] at t1
    rw [show latsF d = false by
      cases d with
      | tup ls => show (decide (ls.length = 8) && _) = false; rw [show decide (ls.length = 8) = false from hd]; rfl
      | _ => rfl]
    exact fn_at rfl (sq_rt ((rif_t t1).trans (rt_at c_at)))
  | true =>
    rw [hd] at t1
    cases d with
    | tup ls =>
      have hl : ls.length = 8 := of_decide_eq_true hd
      have hz : jZp (yPk 0) (yC (.tup ((["add", "and", "less", "load", "mul", "out", "store", "sub"] : List PySem.Str).map DV.str))) [some (.v (.tup ls)), none, none] c = some ((List.range 8).map (fun j => DV.tup [atD0 ls j, .str (kAt j)]), c) := by
        rw [← zip8 hl]; rfl
      have hc := lc_all (g := qTp 2 (qCons (qNm 1) (qCons (qNm 2) qNil))) (a := yCall 2 g_is_latency (zCons (yVar 1) (zCons (yVar 2) zNil))) (v := [some (.v (.tup ls)), none, none]) (c := c) (fun j => DV.tup [atD0 ls j, .str (kAt j)]) (fun j => .bl (latF (kAt j) (atD0 ls j))) (List.range 8) (fun j mj => ⟨_, rfl, (call2_at rfl rfl).trans (latency3 (kAt j) _ (h.at (by rw [hl]; exact List.mem_range.mp mj)) c)⟩)
      rw [show latsF (.tup ls) = (List.range 8).all fun j => latF (kAt j) (atD0 ls j) by show (decide (ls.length = 8) && _) = _; rw [show decide (ls.length = 8) = true from hd, Bool.true_and]]
      exact fn_at rfl ((sq_nx ((rif_f (r := rRt (yC (.bl false))) (s := rNx) t1).trans q_nx)).trans (rt_at (y1_at (lc_at (v' := [some (.v (.tup ls)), none, none]) hz (by simp) rfl hc) (all_map_bl (List.range 8) fun j => latF (kAt j) (atD0 ls j)))))
    | _ => cases hd
def toLat (d : DV) : Int := match d with
  | .tup ds => match ds with
    | [_, b] => (intO b).getD 0
    | _ => 0
  | _ => 0
theorem latF_form {k : PySem.Str} {d : DV} (h : latF k d = true) : d = .tup [.str k, .int (toLat d)] := by
  cases h2 : tupN 2 d with
  | false => rw [latF_no k d h2] at h; cases h
  | true =>
    obtain ⟨a, b, rfl⟩ := tupN2_of h2
    have h' : (isWd k a && isIn b) = true := h
    rw [Bool.and_eq_true] at h'
    obtain ⟨i, rfl⟩ := isIn_of h'.2
    cases a with
    | str s => rw [of_decide_eq_true (show decide (s = k) = true from h'.1)]; rfl
    | _ => cases h'.1
/-- the form of a machine, and its limits -/
def formB (d : DV) : Bool := match d with
  | .tup ds => match ds with
    | [r, s, l] => isIn r && (slotsF s && latsF l)
    | _ => false
  | _ => false
def inL (z : Int) : Bool := decide (1 ≤ z) && decide (z ≤ 9)
def lens : DV → List DV
  | .tup ds => ds
  | _ => []
def limB (d : DV) : Bool := match d with
  | .tup ds => match ds with
    | [r, s, l] => (decide (1 ≤ (intO r).getD 0) && decide ((intO r).getD 0 ≤ 16)) && (decide ((lens s).length ≤ 6) && (List.range 8).all fun j => inL (toLat (atD0 (lens l) j)))
    | _ => false
  | _ => false
theorem three {d : DV} (h : tupN 3 d = true) : ∃ r s l, d = .tup [r, s, l] := by
  cases d with
  | tup ds =>
    match ds, of_decide_eq_true (show decide (ds.length = 3) = true from h) with
    | [a, b, e], _ => exact ⟨a, b, e, rfl⟩
  | _ => cases h
theorem formB_no (d : DV) (h : tupN 3 d = false) : formB d = false := by
  cases d with
  | tup ds =>
    match ds with
    | [] => rfl
    | [_] => rfl
    | [_, _] => rfl
    | [_, _, _] => cases h
    | _ :: _ :: _ :: _ :: _ => rfl
  | _ => rfl
theorem form3 {n m : Nat} (hm : m ≤ 3000) (d : DV) (h : Sm n m d) (c : Cs) : g_has_machine_form [d] c = some (.bl (formB d), c) := by
  have h1 := tuple2 3 d h.hp c
  have t1 : uNt (uTru (yCall 2 g_is_tuple (zCons (yVar 0) (zCons (yC (.int (3))) zNil)))) [some (.v d), none, none, none] c = some (!(tupN 3 d), c) :=
    unt_at (utru_at ((call_at (cons_at (var_at rfl) (cons_at c_at nil_at)) rfl).trans h1) rfl)
  cases hd : tupN 3 d with
  | false =>
    rw [hd] at t1
    rw [formB_no d hd]
    exact fn_at rfl (sq_rt ((rif_t t1).trans (rt_at c_at)))
  | true =>
    rw [hd] at t1
    obtain ⟨r, s, l, rfl⟩ := three hd
    have hr := h.mem (d := r) (by simp)
    have hs := h.mem (d := s) (by simp)
    have hl := h.mem (d := l) (by simp)
    have s2 : rAp (qTp 3 (qCons (qNm 1) (qCons (qNm 2) (qCons (qNm 3) qNil)))) (yVar 0) [some (.v (.tup [r, s, l])), none, none, none] c = some (.nx, [some (.v (.tup [r, s, l])), some (.v r), some (.v s), some (.v l)], c) := ap_at (var_at rfl) rfl
    have a1 : yCall 1 g_is_number (zCons (yVar 1) zNil) [some (.v (.tup [r, s, l])), some (.v r), some (.v s), some (.v l)] c = some (.bl (isIn r), c) := (call1_at rfl).trans (num2 r hr.hp c)
    have a2 : yCall 1 g_are_slots (zCons (yVar 2) zNil) [some (.v (.tup [r, s, l])), some (.v r), some (.v s), some (.v l)] c = some (.bl (slotsF s), c) := (call1_at rfl).trans (slots3 hm s hs c)
    have a3 : yCall 1 g_are_latencies (zCons (yVar 3) zNil) [some (.v (.tup [r, s, l])), some (.v r), some (.v s), some (.v l)] c = some (.bl (latsF l), c) := (call1_at rfl).trans (latencies3 l hl c)
    show _ = some (DV.bl (isIn r && (slotsF s && latsF l)), c)
    refine fn_at rfl ((sq_nx ((rif_f (r := rRt (yC (.bl false))) (s := rNx) t1).trans q_nx)).trans ((sq_nx s2).trans (rt_at ?_)))
    cases h1 : isIn r with
    | false => rw [h1] at a1; exact an_f a1
    | true =>
      rw [h1] at a1
      rw [Bool.true_and]
      refine (an_t a1).trans ?_
      cases h2 : slotsF s with
      | false => rw [h2] at a2; exact an_f a2
      | true => rw [h2] at a2; rw [Bool.true_and]; exact (an_t a2).trans a3
theorem form_of {r s l : DV} (h : formB (.tup [r, s, l]) = true) : ∃ (i : Int) (ss ls : List DV), r = .int i ∧ s = .tup ss ∧ l = .tup ls ∧ slotsF s = true ∧ latsF l = true ∧ ls.length = 8 ∧ ∀ j, j < 8 → atD0 ls j = .tup [.str (kAt j), .int (toLat (atD0 ls j))] := by
  have h' : (isIn r && (slotsF s && latsF l)) = true := h
  rw [Bool.and_eq_true, Bool.and_eq_true] at h'
  obtain ⟨i, rfl⟩ := isIn_of h'.1
  cases s with
  | tup ss =>
    cases l with
    | tup ls =>
      have hl : (decide (ls.length = 8) && (List.range 8).all fun j => latF (kAt j) (atD0 ls j)) = true := h'.2.2
      rw [Bool.and_eq_true] at hl
      exact ⟨i, ss, ls, rfl, rfl, rfl, h'.2.1, h'.2.2, of_decide_eq_true hl.1, fun j hj => latF_form (List.all_eq_true.mp hl.2 j (List.mem_range.mpr hj))⟩
    | _ => exact absurd h'.2.2 (by simp [latsF])
  | _ => exact absurd h'.2.1 (by simp [slotsF])
theorem within3 {n m : Nat} (hm : m ≤ 3000) (d : DV) (h : Sm n m d) (hf : formB d = true) (c : Cs) : g_is_within_limits [d] c = some (.bl (limB d), c) := by
  have hd : tupN 3 d = true := by
    cases h3 : tupN 3 d with
    | true => rfl
    | false => rw [formB_no d h3] at hf; cases hf
  obtain ⟨r, s, l, rfl⟩ := three hd
  obtain ⟨i, ss, ls, rfl, rfl, rfl, f1, f2, f3, f4⟩ := form_of hf
  have s1 : rAp (qTp 3 (qCons (qNm 1) (qCons (qNm 2) (qCons (qNm 3) qNil)))) (yVar 0) [some (.v (.tup [.int i, .tup ss, .tup ls])), none, none, none, none, none] c = some (.nx, [some (.v (.tup [.int i, .tup ss, .tup ls])), some (.v (.int i)), some (.v (.tup ss)), some (.v (.tup ls)), none, none], c) := ap_at (var_at rfl) rfl
  have t1 : uBl (y2 ltV (yPk 1) (yC (.int (1)))) [some (.v (.tup [.int i, .tup ss, .tup ls])), some (.v (.int i)), some (.v (.tup ss)), some (.v (.tup ls)), none, none] c = some (decide (i < 1), c) := ubl_at (y2_at (pk_at rfl) c_at rfl)
  have t2 : uBl (y2 gtV (yPk 1) (yC (.int (16)))) [some (.v (.tup [.int i, .tup ss, .tup ls])), some (.v (.int i)), some (.v (.tup ss)), some (.v (.tup ls)), none, none] c = some (decide (16 < i), c) := ubl_at (y2_at (pk_at rfl) c_at rfl)
  have t3 : uBl (y2 gtV (y1 lenV (yPk 2)) (yC (.int (6)))) [some (.v (.tup [.int i, .tup ss, .tup ls])), some (.v (.int i)), some (.v (.tup ss)), some (.v (.tup ls)), none, none] c = some (decide (6 < (ss.length : Int)), c) := ubl_at (y2_at (y1_at (pk_at rfl) rfl) c_at rfl)
  have hlim : limB (.tup [.int i, .tup ss, .tup ls]) = ((decide (1 ≤ i) && decide (i ≤ 16)) && (decide (ss.length ≤ 6) && (List.range 8).all fun j => inL (toLat (atD0 ls j)))) := rfl
  rw [hlim]
  cases h1 : decide (i < 1) with
  | true =>
    rw [h1] at t1
    rw [show decide (1 ≤ i) = false from decide_eq_false (by have := of_decide_eq_true h1; omega)]
    exact fn_at rfl ((sq_nx s1).trans (sq_rt ((rif_t (uor_t t1)).trans (rt_at c_at))))
  | false =>
    rw [h1] at t1
    rw [show decide (1 ≤ i) = true from decide_eq_true (by have := of_decide_eq_false h1; omega), Bool.true_and]
    cases h2 : decide (16 < i) with
    | true =>
      rw [h2] at t2
      rw [show decide (i ≤ 16) = false from decide_eq_false (by have := of_decide_eq_true h2; omega)]
      exact fn_at rfl ((sq_nx s1).trans (sq_rt ((rif_t ((uor_f t1).trans (uor_t t2))).trans (rt_at c_at))))
    | false =>
      rw [h2] at t2
      rw [show decide (i ≤ 16) = true from decide_eq_true (by have := of_decide_eq_false h2; omega), Bool.true_and]
      cases h3 : decide (6 < (ss.length : Int)) with
      | true =>
        rw [h3] at t3
        rw [show decide (ss.length ≤ 6) = false from decide_eq_false (by have := of_decide_eq_true h3; omega)]
        exact fn_at rfl ((sq_nx s1).trans (sq_rt ((rif_t ((uor_f t1).trans ((uor_f t2).trans t3))).trans (rt_at c_at))))
      | false =>
        rw [h3] at t3
        rw [show decide (ss.length ≤ 6) = true from decide_eq_true (by have := of_decide_eq_false h3; omega), Bool.true_and]
        have hc := lc_all (g := qTp 2 (qCons (qNm 4) (qCons (qNm 5) qNil))) (a := yCh leV leV (yC (.int (1))) (yPk 5) (yC (.int (9)))) (v := [some (.v (.tup [.int i, .tup ss, .tup ls])), some (.v (.int i)), some (.v (.tup ss)), some (.v (.tup ls)), none, none]) (c := c) (fun j => atD0 ls j) (fun j => .bl (inL (toLat (atD0 ls j)))) (List.range 8) (fun j mj => by
          have e := f4 j (List.mem_range.mp mj)
          generalize hz : toLat (atD0 ls j) = z at *
          refine ⟨_, by rw [e]; rfl, ?_⟩
          rw [q_ch, c_at]
          simp only [Option.bind_some]
          rw [pk_at (d := .int z) rfl]
          simp only [Option.bind_some]
          rw [show leV (.int 1) (.int z) = some (.bl (decide (1 ≤ z))) from rfl]
          simp only [Option.bind_some]
          unfold inL
          cases decide (1 ≤ z) <;> rfl)
        rw [all8 f3] at hc
        exact fn_at rfl ((sq_nx s1).trans ((sq_nx ((rif_f (r := rRt (yC (.bl false))) (s := rNx) ((uor_f t1).trans ((uor_f t2).trans t3))).trans q_nx)).trans (rt_at (y1_at (lc_at (v' := [some (.v (.tup [.int i, .tup ss, .tup ls])), some (.v (.int i)), some (.v (.tup ss)), some (.v (.tup ls)), none, none]) (jany_at (pk_at rfl) rfl) (by omega) rfl hc) (all_map_bl (List.range 8) fun j => inL (toLat (atD0 ls j)))))))
theorem machine3 {n m : Nat} (hm : m ≤ 3000) (d : DV) (h : Sm n m d) (c : Cs) : g_is_machine [d] c = some (.bl (formB d && limB d), c) := by
  have a1 : yCall 1 g_has_machine_form (zCons (yVar 0) zNil) [some (.v d)] c = some (.bl (formB d), c) := (call1_at rfl).trans (form3 hm d h c)
  refine fn_at rfl (rt_at ?_)
  cases hf : formB d with
  | false => rw [hf] at a1; exact an_f a1
  | true => rw [hf] at a1; rw [Bool.true_and]; exact (an_t a1).trans ((call1_at rfl).trans (within3 hm d h hf c))
abbrev gEnv (d r s l : DV) (x1 x2 x6 : Option Sl) : Env2 := [some (.v d), x1, x2, some (.v r), some (.v s), some (.v l), x6, none]
theorem good_lat {n m : Nat} (hn : n ≤ 60) (d0 r s : DV) (ls : List DV) (j : Nat) (hj : j < 8) (hl : ls.length = 8) (h : Sm n m (.tup ls)) (x1 x6 : Option Sl) (c : Cs) :
    ((latF (kAt j) (atD0 ls j) && inL (toLat (atD0 ls j))) = true ∧ ∃ y6, l_law_good_0 (gEnv d0 r s (.tup ls) x1 (some (.v (.int (j : Int)))) x6) c = some (.nx, gEnv d0 r s (.tup ls) x1 (some (.v (.int (j : Int)))) y6, c)) ∨ ((latF (kAt j) (atD0 ls j) && inL (toLat (atD0 ls j))) = false ∧ ∃ v2, l_law_good_0 (gEnv d0 r s (.tup ls) x1 (some (.v (.int (j : Int)))) x6) c = some (.rt (.bl false), v2, c)) := by
  have hp := h.at (j := j) (by omega)
  have hat : ixV (.tup ls) (.int (j : Int)) = some (atD0 ls j) := by rw [ixV_tup, atI_at (by omega), Int.toNat_natCast]; exact atD0_get (by omega)
  have hkm := kAt_mem hj
  have hka : ixV (.lst (kinds8.map .str)) (.int (j : Int)) = some (.str (kAt j)) := by
    have : ∀ j, j < 8 → kinds8[j]? = some (kAt j) := by decide +kernel
    rw [ixV_lst, atI_at (by omega), Int.toNat_natCast, List.getElem?_map, this j hj]; rfl
  generalize atD0 ls j = p at *
  generalize kAt j = k at *
  have s1 : rAs 6 (y2 ixV (yPk 5) (yPk 2)) (gEnv d0 r s (.tup ls) x1 (some (.v (.int (j : Int)))) x6) c = some (.nx, gEnv d0 r s (.tup ls) x1 (some (.v (.int (j : Int)))) (some (.v p)), c) := as_at (y2_at (pk_at rfl) (pk_at rfl) hat) rfl
  have t1 : uNt (uTru (y1 (isV "tuple") (yPk 6))) (gEnv d0 r s (.tup ls) x1 (some (.v (.int (j : Int)))) (some (.v p))) c = some (!(isTup p), c) := unt_at (utru_at (y1_at (pk_at rfl) (isT p hp.hp)) rfl)
  cases hd : isTup p with
  | false =>
    rw [hd] at t1
    exact .inr ⟨by rw [latF_no k p (by cases p <;> first | rfl | cases hd)]; rfl, _, (sq_nx s1).trans (sq_rt ((rif_t (uor_t t1)).trans (rt_at c_at)))⟩
  | true =>
    rw [hd] at t1
    have t2 : uBl (y2 neV (y1 lenV (yPk 6)) (yC (.int (2)))) (gEnv d0 r s (.tup ls) x1 (some (.v (.int (j : Int)))) (some (.v p))) c = some (!(tupN 2 p), c) := by
      cases p with
      | tup es =>
        refine (ubl_at (y2_at (y1_at (pk_at rfl) (show lenV (.tup es) = some (.int (es.length : Int)) from rfl)) c_at (neV_int _ _))).trans ?_
        rw [show ((2 : Int)) = ((2 : Nat) : Int) from rfl, nat_dec]
        rfl
      | _ => cases hd
    cases h2 : tupN 2 p with
    | false =>
      rw [h2] at t2
      exact .inr ⟨by rw [latF_no k p h2]; rfl, _, (sq_nx s1).trans (sq_rt ((rif_t ((uor_f t1).trans (uor_t t2))).trans (rt_at c_at)))⟩
    | true =>
      rw [h2] at t2
      obtain ⟨a, b, rfl⟩ := tupN2_of h2
      have ha := hp.mem (d := a) (by simp)
      have hb := hp.mem (d := b) (by simp)
      have t3 : uBl (y2 neV (y2 ixV (yPk 6) (yC (.int (0)))) (y2 ixV (yCall 0 g_law_kinds zNil) (yPk 2))) (gEnv d0 r s (.tup ls) x1 (some (.v (.int (j : Int)))) (some (.v (.tup [a, b])))) c = some (!(isWd k a), c) := ubl_at (y2_at (y2_at (pk_at rfl) c_at rfl) (y2_at (kinds8_call _ c) (pk_at rfl) hka) (ne_word ha hn hkm))
      have hF : latF k (.tup [a, b]) = (isWd k a && isIn b) := rfl
      rw [hF]
      cases h3 : isWd k a with
      | false =>
        rw [h3] at t3
        exact .inr ⟨rfl, _, (sq_nx s1).trans (sq_rt ((rif_t ((uor_f t1).trans ((uor_f t2).trans t3))).trans (rt_at c_at)))⟩
      | true =>
        rw [h3] at t3
        have s2 := (rif_f (r := rRt (yC (.bl false))) (s := rNx) ((uor_f t1).trans ((uor_f t2).trans t3))).trans q_nx
        have t4 : uNt (uTru (yCall 1 g_law_whole (zCons (y2 ixV (yPk 6) (yC (.int (1)))) zNil))) (gEnv d0 r s (.tup ls) x1 (some (.v (.int (j : Int)))) (some (.v (.tup [a, b])))) c = some (!(isIn b), c) := unt_at (utru_at ((call_at (cons_at (y2_at (pk_at rfl) c_at rfl) nil_at) rfl).trans (whole2 b hb.hp c)) rfl)
        rw [Bool.true_and]
        cases h4 : isIn b with
        | false =>
          rw [h4] at t4
          exact .inr ⟨rfl, _, (sq_nx s1).trans ((sq_nx s2).trans ((rif_t (uor_t t4)).trans (rt_at c_at)))⟩
        | true =>
          rw [h4] at t4
          obtain ⟨z, rfl⟩ := isIn_of h4
          have hz : toLat (.tup [a, .int z]) = z := rfl
          rw [hz, Bool.true_and]
          unfold inL
          have t5 : uBl (y2 ltV (y2 ixV (yPk 6) (yC (.int (1)))) (yC (.int (1)))) (gEnv d0 r s (.tup ls) x1 (some (.v (.int (j : Int)))) (some (.v (.tup [a, .int z])))) c = some (decide (z < 1), c) := ubl_at (y2_at (y2_at (pk_at rfl) c_at rfl) c_at rfl)
          have t6 : uBl (y2 gtV (y2 ixV (yPk 6) (yC (.int (1)))) (yC (.int (9)))) (gEnv d0 r s (.tup ls) x1 (some (.v (.int (j : Int)))) (some (.v (.tup [a, .int z])))) c = some (decide (9 < z), c) := ubl_at (y2_at (y2_at (pk_at rfl) c_at rfl) c_at rfl)
          cases h5 : decide (z < 1) with
          | true =>
            rw [h5] at t5
            exact .inr ⟨by rw [decide_eq_false (by have := of_decide_eq_true h5; omega)]; rfl, _, (sq_nx s1).trans ((sq_nx s2).trans ((rif_t ((uor_f t4).trans (uor_t t5))).trans (rt_at c_at)))⟩
          | false =>
            rw [h5] at t5
            rw [show decide (1 ≤ z) = true from decide_eq_true (by have := of_decide_eq_false h5; omega), Bool.true_and]
            cases h6 : decide (9 < z) with
            | true =>
              rw [h6] at t6
              exact .inr ⟨decide_eq_false (by have := of_decide_eq_true h6; omega), _, (sq_nx s1).trans ((sq_nx s2).trans ((rif_t ((uor_f t4).trans ((uor_f t5).trans t6))).trans (rt_at c_at)))⟩
            | false =>
              rw [h6] at t6
              exact .inl ⟨decide_eq_true (by have := of_decide_eq_false h6; omega), some (.v (.tup [a, .int z])), (sq_nx s1).trans ((sq_nx s2).trans ((rif_f ((uor_f t4).trans ((uor_f t5).trans t6))).trans q_nx))⟩
theorem good3 {n m : Nat} (hn : n ≤ 60) (hm : m ≤ 3000) (d : DV) (h : Sm n m d) (c : Cs) : g_law_good [d] c = some (.bl (formB d && limB d), c) := by
  have t1 : uNt (uTru (y1 (isV "tuple") (yPk 0))) [some (.v d), none, none, none, none, none, none, none] c = some (!(isTup d), c) := unt_at (utru_at (y1_at (pk_at rfl) (isT d h.hp)) rfl)
  cases hd : isTup d with
  | false =>
    rw [hd] at t1
    rw [formB_no d (by cases d <;> first | rfl | cases hd)]
    exact fn_at rfl (sq_rt ((rif_t (uor_t t1)).trans (rt_at c_at)))
  | true =>
    rw [hd] at t1
    have t2 : uBl (y2 neV (y1 lenV (yPk 0)) (yC (.int (3)))) [some (.v d), none, none, none, none, none, none, none] c = some (!(tupN 3 d), c) := by
      cases d with
      | tup es =>
        refine (ubl_at (y2_at (y1_at (pk_at rfl) (show lenV (.tup es) = some (.int (es.length : Int)) from rfl)) c_at (neV_int _ _))).trans ?_
        rw [show ((3 : Int)) = ((3 : Nat) : Int) from rfl, nat_dec]
        rfl
      | _ => cases hd
    cases h3 : tupN 3 d with
    | false =>
      rw [h3] at t2
      rw [formB_no d h3]
      exact fn_at rfl (sq_rt ((rif_t ((uor_f t1).trans t2)).trans (rt_at c_at)))
    | true =>
      rw [h3] at t2
      obtain ⟨r, s, l, rfl⟩ := three h3
      have hr := h.mem (d := r) (by simp)
      have hs := h.mem (d := s) (by simp)
      have hl := h.mem (d := l) (by simp)
      have s1 := (rif_f (r := rRt (yC (.bl false))) (s := rNx) ((uor_f t1).trans t2)).trans q_nx
      have s2 : rAp (qTp 3 (qCons (qNm 3) (qCons (qNm 4) (qCons (qNm 5) qNil)))) (yVar 0) [some (.v (.tup [r, s, l])), none, none, none, none, none, none, none] c = some (.nx, gEnv (.tup [r, s, l]) r s l none none none, c) := ap_at (var_at rfl) rfl
      have t3 : uNt (uTru (yCall 1 g_law_whole (zCons (yVar 3) zNil))) (gEnv (.tup [r, s, l]) r s l none none none) c = some (!(isIn r), c) := unt_at (utru_at ((call1_at rfl).trans (whole2 r hr.hp c)) rfl)
      have hF : formB (.tup [r, s, l]) = (isIn r && (slotsF s && latsF l)) := rfl
      cases hi : isIn r with
      | false =>
        rw [hi] at t3
        rw [hF, hi]
        exact fn_at rfl ((sq_nx s1).trans ((sq_nx s2).trans (sq_rt ((rif_t (uor_t t3)).trans (rt_at c_at)))))
      | true =>
        rw [hi] at t3
        obtain ⟨i, rfl⟩ := isIn_of hi
        have hG : limB (.tup [.int i, s, l]) = ((decide (1 ≤ i) && decide (i ≤ 16)) && (decide ((lens s).length ≤ 6) && (List.range 8).all fun j => inL (toLat (atD0 (lens l) j)))) := rfl
        have t4 : uBl (y2 ltV (yPk 3) (yC (.int (1)))) (gEnv (.tup [.int i, s, l]) (.int i) s l none none none) c = some (decide (i < 1), c) := ubl_at (y2_at (pk_at rfl) c_at rfl)
        have t5 : uBl (y2 gtV (yPk 3) (yC (.int (16)))) (gEnv (.tup [.int i, s, l]) (.int i) s l none none none) c = some (decide (16 < i), c) := ubl_at (y2_at (pk_at rfl) c_at rfl)
        have t6 : uNt (uTru (y1 (isV "tuple") (yPk 4))) (gEnv (.tup [.int i, s, l]) (.int i) s l none none none) c = some (!(isTup s), c) := unt_at (utru_at (y1_at (pk_at rfl) (isT s hs.hp)) rfl)
        have t7 : uNt (uTru (y1 (isV "tuple") (yPk 5))) (gEnv (.tup [.int i, s, l]) (.int i) s l none none none) c = some (!(isTup l), c) := unt_at (utru_at (y1_at (pk_at rfl) (isT l hl.hp)) rfl)
        rw [hF, hG, hi, Bool.true_and]
        cases h4 : decide (i < 1) with
        | true =>
          rw [h4] at t4
          rw [show decide (1 ≤ i) = false from decide_eq_false (by have := of_decide_eq_true h4; omega), Bool.false_and, Bool.false_and, Bool.and_false]
          exact fn_at rfl ((sq_nx s1).trans ((sq_nx s2).trans (sq_rt ((rif_t ((uor_f t3).trans (uor_t t4))).trans (rt_at c_at)))))
        | false =>
          rw [h4] at t4
          rw [show decide (1 ≤ i) = true from decide_eq_true (by have := of_decide_eq_false h4; omega), Bool.true_and]
          cases h5 : decide (16 < i) with
          | true =>
            rw [h5] at t5
            rw [show decide (i ≤ 16) = false from decide_eq_false (by have := of_decide_eq_true h5; omega), Bool.false_and, Bool.and_false]
            exact fn_at rfl ((sq_nx s1).trans ((sq_nx s2).trans (sq_rt ((rif_t ((uor_f t3).trans ((uor_f t4).trans (uor_t t5)))).trans (rt_at c_at)))))
          | false =>
            rw [h5] at t5
            rw [show decide (i ≤ 16) = true from decide_eq_true (by have := of_decide_eq_false h5; omega), Bool.true_and]
            cases h6 : isTup s with
            | false =>
              rw [h6] at t6
              rw [show slotsF s = false by cases s <;> first | rfl | cases h6]
              exact fn_at rfl ((sq_nx s1).trans ((sq_nx s2).trans (sq_rt ((rif_t ((uor_f t3).trans ((uor_f t4).trans ((uor_f t5).trans (uor_t t6))))).trans (rt_at c_at)))))
            | true =>
              rw [h6] at t6
              cases h7 : isTup l with
              | false =>
                rw [h7] at t7
                rw [show latsF l = false by cases l <;> first | rfl | cases h7]
                rw [Bool.and_false]
                exact fn_at rfl ((sq_nx s1).trans ((sq_nx s2).trans (sq_rt ((rif_t ((uor_f t3).trans ((uor_f t4).trans ((uor_f t5).trans ((uor_f t6).trans t7))))).trans (rt_at c_at)))))
              | true =>
                rw [h7] at t7
                obtain ⟨ss, rfl⟩ : ∃ ss, s = .tup ss := by cases s <;> first | exact ⟨_, rfl⟩ | cases h6
                obtain ⟨ls, rfl⟩ : ∃ ls, l = .tup ls := by cases l <;> first | exact ⟨_, rfl⟩ | cases h7
                have s3 := (rif_f (r := rRt (yC (.bl false))) (s := rNx) ((uor_f t3).trans ((uor_f t4).trans ((uor_f t5).trans ((uor_f t6).trans t7))))).trans q_nx
                have t8 : uBl (y2 ltV (y1 lenV (yPk 4)) (yC (.int (1)))) (gEnv (.tup [.int i, .tup ss, .tup ls]) (.int i) (.tup ss) (.tup ls) none none none) c = some (decide ((ss.length : Int) < 1), c) := ubl_at (y2_at (y1_at (pk_at rfl) rfl) c_at rfl)
                have t9 : uBl (y2 gtV (y1 lenV (yPk 4)) (yC (.int (6)))) (gEnv (.tup [.int i, .tup ss, .tup ls]) (.int i) (.tup ss) (.tup ls) none none none) c = some (decide (6 < (ss.length : Int)), c) := ubl_at (y2_at (y1_at (pk_at rfl) rfl) c_at rfl)
                have t10 : uBl (y2 neV (y1 lenV (yPk 5)) (yC (.int (8)))) (gEnv (.tup [.int i, .tup ss, .tup ls]) (.int i) (.tup ss) (.tup ls) none none none) c = some (!decide (ls.length = 8), c) := by
                  refine (ubl_at (y2_at (y1_at (pk_at rfl) (show lenV (.tup ls) = some (.int (ls.length : Int)) from rfl)) c_at (neV_int _ _))).trans ?_
                  rw [show ((8 : Int)) = ((8 : Nat) : Int) from rfl, nat_dec]
                have hls : lens (.tup ss) = ss := rfl
                have hll : lens (.tup ls) = ls := rfl
                have hsF : slotsF (.tup ss) = (ss.all kindsB && kinds8.all fun k => ss.any (hasK k)) := rfl
                have hlF : latsF (.tup ls) = (decide (ls.length = 8) && (List.range 8).all fun j => latF (kAt j) (atD0 ls j)) := rfl
                rw [hls, hll, hsF, hlF]
                cases h8 : decide ((ss.length : Int) < 1) with
                | true =>
                  rw [h8] at t8
                  obtain rfl : ss = [] := List.eq_nil_of_length_eq_zero (by have := of_decide_eq_true h8; omega)
                  exact fn_at rfl ((sq_nx s1).trans ((sq_nx s2).trans ((sq_nx s3).trans (sq_rt ((rif_t (uor_t t8)).trans (rt_at c_at))))))
                | false =>
                  rw [h8] at t8
                  cases h9 : decide (6 < (ss.length : Int)) with
                  | true =>
                    rw [h9] at t9
                    rw [show decide (ss.length ≤ 6) = false from decide_eq_false (by have := of_decide_eq_true h9; omega), Bool.false_and, Bool.and_false]
                    exact fn_at rfl ((sq_nx s1).trans ((sq_nx s2).trans ((sq_nx s3).trans (sq_rt ((rif_t ((uor_f t8).trans (uor_t t9))).trans (rt_at c_at))))))
                  | false =>
                    rw [h9] at t9
                    rw [show decide (ss.length ≤ 6) = true from decide_eq_true (by have := of_decide_eq_false h9; omega), Bool.true_and]
                    cases h10 : decide (ls.length = 8) with
                    | false =>
                      rw [h10] at t10
                      rw [Bool.false_and, Bool.and_false, Bool.false_and]
                      exact fn_at rfl ((sq_nx s1).trans ((sq_nx s2).trans ((sq_nx s3).trans (sq_rt ((rif_t ((uor_f t8).trans ((uor_f t9).trans t10))).trans (rt_at c_at))))))
                    | true =>
                      rw [h10] at t10
                      have hl8 : ls.length = 8 := of_decide_eq_true h10
                      rw [Bool.true_and]
                      have s4 := (rif_f (r := rRt (yC (.bl false))) (s := rNx) ((uor_f t8).trans ((uor_f t9).trans t10))).trans q_nx
                      have w1 := forW_all (c := c) (g := qNm 1) (r := l_law_good_1) (fun d : DV => d) kindsB (fun (J : Option Sl) => gEnv (.tup [.int i, .tup ss, .tup ls]) (.int i) (.tup ss) (.tup ls) J none none) (.bl false) ss (fun d md J => by
                        refine ⟨_, rfl, ?_⟩
                        rcases good_slot hn hm d (hs.mem md) (some (.v (.tup [.int i, .tup ss, .tup ls]))) none (some (.v (.int i))) (some (.v (.tup ss))) (some (.v (.tup ls))) none c with ⟨e1, e2⟩ | ⟨e1, v2, e2⟩
                        · exact .inl ⟨e1, some (.v d), e2⟩
                        · exact .inr ⟨e1, v2, e2⟩) none
                      rw [List.map_id'] at w1
                      have hj1 : jAny (yVar 4) (gEnv (.tup [.int i, .tup ss, .tup ls]) (.int i) (.tup ss) (.tup ls) none none none) c = some (ss, c) := jany_at (var_at rfl) rfl
                      rcases w1 with ⟨e1, J, e2⟩ | ⟨e1, v2, e2⟩
                      · rw [e1, Bool.true_and]
                        have w2 := forW_all (c := c) (g := qNm 2) (r := l_law_good_0) (fun (j : Nat) => DV.int (j : Int)) (fun j => latF (kAt j) (atD0 ls j) && inL (toLat (atD0 ls j))) (fun (K : Option Sl × Option Sl) => gEnv (.tup [.int i, .tup ss, .tup ls]) (.int i) (.tup ss) (.tup ls) J K.1 K.2) (.bl false) (List.range 8) (fun j mj K => by
                          refine ⟨_, rfl, ?_⟩
                          rcases good_lat hn (.tup [.int i, .tup ss, .tup ls]) (.int i) (.tup ss) ls j (List.mem_range.mp mj) hl8 hl J K.2 c with ⟨e1, y6, e2⟩ | ⟨e1, v2, e2⟩
                          · exact .inl ⟨e1, (some (.v (.int (j : Int))), y6), e2⟩
                          · exact .inr ⟨e1, v2, e2⟩) (none, none)
                        have hj2 : jRg1 (yC (.int (8))) (gEnv (.tup [.int i, .tup ss, .tup ls]) (.int i) (.tup ss) (.tup ls) J none none) c = some ((List.range 8).map (fun (j : Nat) => DV.int (j : Int)), c) := rfl
                        have hsplit : ((List.range 8).all fun j => latF (kAt j) (atD0 ls j) && inL (toLat (atD0 ls j))) = (((List.range 8).all fun j => latF (kAt j) (atD0 ls j)) && (List.range 8).all fun j => inL (toLat (atD0 ls j))) := by
                          rw [Bool.eq_iff_iff]
                          simp only [List.all_eq_true, Bool.and_eq_true]
                          exact ⟨fun h => ⟨fun j m => (h j m).1, fun j m => (h j m).2⟩, fun h j m => ⟨h.1 j m, h.2 j m⟩⟩
                        rw [hsplit] at w2
                        rcases w2 with ⟨g1, K, g2⟩ | ⟨g1, v2, g2⟩
                        · rw [Bool.and_eq_true] at g1
                          rw [g1.1, g1.2, Bool.and_true, Bool.and_true]
                          have hk2 := lc_all (g := qNm 7) (a := y1 anyV (yLc [1] (jAny (yPk 4)) (qNm 1) uYs (y2 inV2 (yPk 7) (yPk 1)))) (v := gEnv (.tup [.int i, .tup ss, .tup ls]) (.int i) (.tup ss) (.tup ls) J K.1 K.2) (c := c) DV.str (fun k => .bl (ss.any (hasK k))) kinds8 (fun k _ => by
                            refine ⟨_, q_qnm, ?_⟩
                            have hi := lc_all (g := qNm 1) (a := y2 inV2 (yPk 7) (yPk 1)) (v := [some (.v (.tup [.int i, .tup ss, .tup ls])), none, K.1, some (.v (.int i)), some (.v (.tup ss)), some (.v (.tup ls)), K.2, some (.v (.str k))]) (c := c) (fun d : DV => d) (fun d => .bl (hasK k d)) ss (fun s ms => ⟨_, q_qnm, y2_at (pk_at rfl) (pk_at rfl) (in_slot (List.all_eq_true.mp e1 s ms) k)⟩)
                            rw [List.map_id'] at hi
                            have hsl := hs.len
                            exact y1_at (lc_at (v' := [some (.v (.tup [.int i, .tup ss, .tup ls])), none, K.1, some (.v (.int i)), some (.v (.tup ss)), some (.v (.tup ls)), K.2, some (.v (.str k))]) (jany_at (pk_at rfl) rfl) (by omega) rfl hi) (any_map_bl ss (hasK k)))
                          exact fn_at rfl ((sq_nx s1).trans ((sq_nx s2).trans ((sq_nx s3).trans ((sq_nx s4).trans ((sq_nx ((for_at hj1).trans e2)).trans ((sq_nx ((for_at hj2).trans g2)).trans (rt_at (y1_at (lc_at (v' := gEnv (.tup [.int i, .tup ss, .tup ls]) (.int i) (.tup ss) (.tup ls) J K.1 K.2) (jany_at (kinds8_call _ c) rfl) (by decide) rfl hk2) (all_map_bl kinds8 fun k => ss.any (hasK k))))))))))
                        · have : ((((kinds8.all fun k => ss.any (hasK k)) && (List.range 8).all fun j => latF (kAt j) (atD0 ls j)) && (List.range 8).all fun j => inL (toLat (atD0 ls j)))) = false := by
                            rw [Bool.and_assoc, g1, Bool.and_false]
                          rw [this]
                          exact fn_at rfl ((sq_nx s1).trans ((sq_nx s2).trans ((sq_nx s3).trans ((sq_nx s4).trans ((sq_nx ((for_at hj1).trans e2)).trans (sq_rt ((for_at hj2).trans g2)))))))
                      · rw [e1]
                        rw [Bool.false_and, Bool.false_and, Bool.false_and]
                        exact fn_at rfl ((sq_nx s1).trans ((sq_nx s2).trans ((sq_nx s3).trans ((sq_nx s4).trans (sq_rt ((for_at hj1).trans e2))))))

end Gen
end

section
set_option maxRecDepth 100000
set_option linter.all false
set_option Elab.async false
namespace Gen
open Rf L2 V2
local macro_rules | `(tactic| walk_at "q3") => `(tactic| simp only [q_var, q_pk, q_c, q_1, q_2, q_nil, q_cons, q_call, q_tup, q_lst, q_if, q_nt, q_an, q_or, q_ubl, q_unt, q_uan, q_uor, q_uys, q_utru, q_nx, q_ct, q_bk, q_sq, q_ex, q_rt, q_rn, q_ro, q_rif, q_as, q_ao, q_ap, q_fz, q_si, q_ae, q_for, q_jany, q_jrg1, q_jrg2, q_jen, q_jzp, q_qnm, q_qtp, q_qnil, q_qcons, q_lc, q_lc0, q_lc1, q_for0, q_for1, q_fn, q_fnf, q_start, q_on, q_os, q_sl, q_mxD, q_wipe1, q_wipe2, q_wipe3,
  addV, subV, mulV, modV, divV, negV, cmpV, catV, ixV_tup, ixV_lst, lenV, intV, tupleV, listV, truV, itV, itS, isNV, notNV, nonB, eqV_int, eqV_str, neV_int, neV_str, atI_at, tne, zl0, zl1, zl2, zl3, zl4, zl5, zl6, zl7, zl8, zl12, valD, kyD,
  Option.bind_some, Option.bind_none, Option.map_some, Option.map_none, List.map_cons, List.map_nil, List.length_cons, List.length_nil, List.length_map, List.length_set, List.replicate, List.cons_append, List.nil_append, List.getElem?_cons_zero, List.getElem?_cons_succ, List.set_cons_zero, List.set_cons_succ, List.isEmpty_cons, List.isEmpty_nil, ne_eq, not_false_eq_true, not_true_eq_false, Nat.reduceAdd, Nat.reduceSub, Nat.reduceEqDiff, Nat.reduceLeDiff, Nat.reduceLT, Nat.reducePow, Int.reducePow, Int.reduceNeg, Int.reduceLT, Int.reduceLE, Int.reduceToNat, Int.toNat_natCast, anyV, allV, Int.reduceAdd, Int.reduceSub, and_self, or_true, true_or, or_false, false_or, true_and, and_true, ↓reduceIte, Nat.add_zero, Nat.zero_add, Nat.sub_self, decide_eq_true_eq, decide_true, decide_false, Bool.false_eq_true, Bool.not_true, Bool.not_false, id_eq, *])

theorem drawc_at {e : E2} {i : Nat} {n : Int} {c : Cs} (v : Env2) (h0 : v[i]? = some (some (.v .tok))) (he : e v c = some (.int n, c)) (h1 : 0 < n) (h2 : n ≤ 1000000) : ∃ (d : Int) (c' : Cs), 0 ≤ d ∧ d < n ∧ yCall 2 g_law_take (zCons (yVar i) (zCons e zNil)) v c = some (.int d, c') := by
  obtain ⟨d, c', e1, l, u⟩ := take2 c (many := n) h1 (by omega)
  exact ⟨d, c', l, u, (call_at (cons_at (var_at h0) (cons_at he nil_at)) rfl).trans e1⟩
theorem tupAdd {s t : List DV} (h : s.length + t.length ≤ 100000) : addV (.tup s) (.tup t) = some (.tup (s ++ t)) := by
  show (if _ then _ else _) = _
  rw [if_pos (of_eq_true (zl _ (by omega)))]
theorem eqv_bl (b : Bool) : neV (.bl b) (.bl b) = some (.bl false) := by cases b <;> rfl
theorem szL_le {k : Nat} : ∀ ds : List DV, (∀ d ∈ ds, sz d ≤ k) → szL ds ≤ k * ds.length
  | [], _ => Nat.zero_le _
  | d :: ds, h => by
    have h1 := szL_le ds fun e m => h e (List.mem_cons_of_mem _ m)
    have h2 := h d List.mem_cons_self
    rw [szL, List.length_cons, Nat.mul_succ]; omega
theorem Sm.list {n k q m : Nat} {ds : List DV} (h : ∀ d ∈ ds, Sm n k d) (hl : ds.length ≤ q) (hm : k * q ≤ m) : Sm (n + 1) (m + 1) (.tup ds) :=
  .tup (fun d m => (h d m).hp) (fun d m => (h d m).ho) (fun d m => (h d m).hd) (by
    have h1 := szL_le ds fun d m => (h d m).hs
    have h2 := Nat.mul_le_mul_left k hl
    omega)
/-- a slot: texts alone, few -/
theorem sl_sm {ks : List DV} (h : ∀ e ∈ ks, ∃ a, e = .str a ∧ okS e = true) (hl : ks.length ≤ 18) : Sm 2 20 (.tup ks) :=
  (Sm.list (n := 0) (k := 1) (q := 18) (m := 18) (fun e m => by
    obtain ⟨a, rfl, ho⟩ := h e m
    exact ⟨rfl, ho, Nat.le_refl _, Nat.le_refl _⟩) hl (by decide)).up (by decide) (by decide)
theorem lt_sm (k : PySem.Str) (z : Int) (hk : k ∈ kinds8) : Sm 1 3 (.tup [.str k, .int z]) :=
  ⟨rfl, by show (okS (.str k) && (true && true)) = true; rw [show okS (.str k) = true from kd_ok k hk]; rfl, by simp [dp, dpL], by simp [sz, szL]⟩
theorem mk_sm (r : Int) {ss ls : List DV} (h1 : ∀ d ∈ ss, Sm 2 20 d) (h2 : ss.length ≤ 13) (h3 : ∀ d ∈ ls, Sm 1 3 d) (h4 : ls.length ≤ 17) : Sm 4 400 (.tup [.int r, .tup ss, .tup ls]) := by
  have a1 := Sm.list (q := 13) (m := 260) h1 h2 (by decide)
  have a2 := (Sm.list (q := 17) (m := 51) h3 h4 (by decide)).up (n' := 3) (m' := 52) (by decide) (by decide)
  refine Sm.tup (n := 3) (m := 399) (fun d m => ?_) (fun d m => ?_) (fun d m => ?_) ?_
  · simp only [List.mem_cons, List.not_mem_nil, or_false] at m
    rcases m with rfl | rfl | rfl
    · rfl
    · exact a1.hp
    · exact a2.hp
  · simp only [List.mem_cons, List.not_mem_nil, or_false] at m
    rcases m with rfl | rfl | rfl
    · rfl
    · exact a1.ho
    · exact a2.ho
  · simp only [List.mem_cons, List.not_mem_nil, or_false] at m
    rcases m with rfl | rfl | rfl
    · exact Nat.zero_le _
    · exact a1.hd
    · exact a2.hd
  · have := a1.hs
    have := a2.hs
    show sz (.int r) + (sz (.tup ss) + (sz (.tup ls) + 0)) ≤ 399
    rw [show sz (.int r) = 1 by simp [sz]]
    omega
abbrev SSof (S : List (List PySem.Str)) : List DV := S.map fun s => .tup (s.map .str)
theorem SS_sm {S : List (List PySem.Str)} {lat : PySem.Str → Int} (h : MOk S lat) : ∀ d ∈ SSof S, Sm 2 20 d := fun d m => by
  obtain ⟨s, ms, rfl⟩ := List.mem_map.mp m
  refine sl_sm (fun e me => ?_) ?_
  · obtain ⟨a, ma, rfl⟩ := List.mem_map.mp me
    exact ⟨a, rfl, kd_ok a ((h.sub s ms).subset ma)⟩
  · rw [List.length_map]
    have := (h.sub s ms).length_le
    simp at this; omega
theorem LL_sm (lat : PySem.Str → Int) : ∀ d ∈ kinds8.map (latE lat), Sm 1 3 d := fun d m => by
  obtain ⟨k, mk, rfl⟩ := List.mem_map.mp m
  exact lt_sm k (lat k) mk
theorem mach_sm (regs : Int) {S : List (List PySem.Str)} {lat : PySem.Str → Int} (h : MOk S lat) : Sm 3 100 (machE regs S lat) := by
  have a1 : Sm 2 61 (.tup (SSof S)) := Sm.list (n := 1) (k := 10) (q := 6) (m := 60) (fun d m => by
    obtain ⟨s, ms, rfl⟩ := List.mem_map.mp m
    have hl := (h.sub s ms).length_le
    refine (Sm.list (n := 0) (k := 1) (q := 8) (m := 8) (fun e me => ?_) (by rw [List.length_map]; simpa using hl) (by decide)).up (by decide) (by decide)
    obtain ⟨a, ma, rfl⟩ := List.mem_map.mp me
    exact ⟨rfl, kd_ok a ((h.sub s ms).subset ma), Nat.le_refl _, Nat.le_refl _⟩) (by rw [List.length_map]; exact h.len) (by decide)
  have a2 : Sm 2 25 (.tup (kinds8.map (latE lat))) := Sm.list (q := 8) (m := 24) (LL_sm lat) (by simp) (by decide)
  refine Sm.tup (n := 2) (m := 99) (fun d m => ?_) (fun d m => ?_) (fun d m => ?_) ?_
  · simp only [List.mem_cons, List.not_mem_nil, or_false] at m
    rcases m with rfl | rfl | rfl
    · rfl
    · exact a1.hp
    · exact a2.hp
  · simp only [List.mem_cons, List.not_mem_nil, or_false] at m
    rcases m with rfl | rfl | rfl
    · rfl
    · exact a1.ho
    · exact a2.ho
  · simp only [List.mem_cons, List.not_mem_nil, or_false] at m
    rcases m with rfl | rfl | rfl
    · exact Nat.zero_le _
    · exact a1.hd
    · exact a2.hd
  · have := a1.hs
    have := a2.hs
    show sz (.int regs) + (sz (.tup (SSof S)) + (sz (.tup (kinds8.map (latE lat))) + 0)) ≤ 99
    rw [show sz (.int regs) = 1 by simp [sz]]
    omega
theorem pick_atT {L : List DV} {i : Int} (h0 : 0 ≤ i) (h1 : i < (L.length : Int)) : ∃ e ∈ L, ixV (.tup L) (.int i) = some e := by
  have hl : i.toNat < L.length := by omega
  exact ⟨L[i.toNat], List.getElem_mem hl, by rw [ixV_tup, atI_at h0, List.getElem?_eq_getElem hl]⟩
abbrev oEnv (d : DV) (kd : Int) (x3 x4 x5 x6 x7 x8 : Option Sl) : Env2 := [some (.v .tok), some (.v d), some (.v (.int kd)), x3, x4, x5, x6, x7, x8]
/-- one entry in place of the k-th -/
theorem rep_at {a3 : Nat} {xs : List DV} {x : DV} {k : Int} {b : E2} {i3 : Nat} {v : Env2} {c c1 : Cs} (h7 : v[a3]? = some (some (.v (.tup xs)))) (h3 : v[i3]? = some (some (.v (.int k)))) (hb : b v c = some (x, c1)) (hl : xs.length ≤ 1000) :
    y2 addV (y2 addV (ySl (yPk a3) oN2 (oS2 (yVar i3))) (yTup (zCons b zNil))) (ySl (yPk a3) (oS2 (y2 addV (yPk i3) (yC (.int (1))))) oN2) v c = some (.tup ((cutD xs none (some k) ++ [x]) ++ cutD xs (some (k + 1)) none), c1) := by
  have l1 := (cut_sub xs none (some k)).length_le
  have l2 := (cut_sub xs (some (k + 1)) none).length_le
  exact y2_at (y2_at (slT_at' (pk_at h7) on_at (os_at (var_at h3))) (tup_at (cons_at hb nil_at) (by simp)) (tupAdd (by simp only [List.length_cons, List.length_nil]; omega))) (slT_at' (pk_at h7) (os_at (y2_at (pk_at h3) c_at rfl)) on_at) (tupAdd (by simp only [List.length_append, List.length_cons, List.length_nil]; omega))
theorem rep_mem {xs : List DV} {x : DV} {k : Int} {P : DV → Prop} (h : ∀ e ∈ xs, P e) (hx : P x) : ∀ e ∈ (cutD xs none (some k) ++ [x]) ++ cutD xs (some (k + 1)) none, P e := fun e m => by
  rcases List.mem_append.mp m with m | m
  · rcases List.mem_append.mp m with m | m
    · exact h e ((cut_sub _ _ _).subset m)
    · rw [List.mem_singleton.mp m]; exact hx
  · exact h e ((cut_sub _ _ _).subset m)
theorem rep_len {xs : List DV} {x : DV} {k : Int} : ((cutD xs none (some k) ++ [x]) ++ cutD xs (some (k + 1)) none).length ≤ 2 * xs.length + 1 := by
  have l1 := (cut_sub xs none (some k)).length_le
  have l2 := (cut_sub xs (some (k + 1)) none).length_le
  simp only [List.length_append, List.length_cons, List.length_nil]; omega
theorem sq_else {t : T2} {r s : S2} {v : Env2} {c : Cs} (h : t v c = some (false, c)) : rSq (rIf t r rNx) s v c = s v c := sq_nx ((rif_f h).trans q_nx)
theorem sq_then {t : T2} {a : E2} {s : S2} {v : Env2} {c c1 : Cs} {d : DV} (h : t v c = some (true, c)) (ha : a v c = some (d, c1)) : rSq (rIf t (rRt a) rNx) s v c = some (.rt d, v, c1) := sq_rt ((rif_t h).trans (rt_at ha))
set_option maxHeartbeats 1000000 in
theorem other03 (regs : Int) (S : List (List PySem.Str)) (lat : PySem.Str → Int) (hM : MOk S lat) (c : Cs) : ∃ d c', g_law_other [.tok, machE regs S lat] c = some (d, c') ∧ Sm 4 400 d := by
  have hS0 : 0 < S.length := by
    obtain ⟨s, ms, _⟩ := hM.all "add" (by decide)
    exact List.length_pos_of_mem ms
  have hS6 := hM.len
  have hSS := SS_sm hM
  have hLL := LL_sm lat
  have hLl : (kinds8.map (latE lat)).length = 8 := by simp
  have hSl : (SSof S).length = S.length := by rw [List.length_map]
  have hLg : ∀ e ∈ kinds8.map (latE lat), ∃ k z, e = .tup [.str k, .int z] ∧ k ∈ kinds8 := fun e m => by
    obtain ⟨k, mk, rfl⟩ := List.mem_map.mp m
    exact ⟨k, lat k, rfl, mk⟩
  have hSg : ∀ e ∈ SSof S, ∃ ks : List DV, e = .tup ks ∧ ks.length ≤ 8 ∧ ∀ f ∈ ks, ∃ a, f = .str a ∧ okS f = true := fun e m => by
    obtain ⟨s, ms, rfl⟩ := List.mem_map.mp m
    refine ⟨_, rfl, by rw [List.length_map]; have := (hM.sub s ms).length_le; simpa using this, fun f mf => ?_⟩
    obtain ⟨a, ma, rfl⟩ := List.mem_map.mp mf
    exact ⟨a, rfl, kd_ok a ((hM.sub s ms).subset ma)⟩
  have hM0 : machE regs S lat = .tup [.int regs, .tup (SSof S), .tup (kinds8.map (latE lat))] := rfl
  rw [hM0]
  generalize SSof S = SS at *
  generalize kinds8.map (latE lat) = LL at *
  obtain ⟨kd, c1, l1, u1, e1⟩ := drawc_at (e := yC (.int (8))) (i := 0) (n := 8) (c := c) [some (.v .tok), some (.v (.tup [.int regs, .tup SS, .tup LL])), none, none, none, none, none, none, none] rfl c_at (by decide) (by decide)
  have s1 : rAs 2 (yCall 2 g_law_take (zCons (yVar 0) (zCons (yC (.int (8))) zNil))) [some (.v .tok), some (.v (.tup [.int regs, .tup SS, .tup LL])), none, none, none, none, none, none, none] c = some (.nx, oEnv (.tup [.int regs, .tup SS, .tup LL]) kd none none none none none none, c1) := as_at e1 rfl
  have s2 : rAp (qTp 3 (qCons (qNm 6) (qCons (qNm 7) (qCons (qNm 8) qNil)))) (yVar 1) (oEnv (.tup [.int regs, .tup SS, .tup LL]) kd none none none none none none) c1 = some (.nx, oEnv (.tup [.int regs, .tup SS, .tup LL]) kd none none none (some (.v (.int regs))) (some (.v (.tup SS))) (some (.v (.tup LL))), c1) := ap_at (var_at rfl) rfl
  generalize DV.tup [.int regs, .tup SS, .tup LL] = M at *
  obtain ⟨k, c2, l2, u2, e2⟩ := drawc_at (e := y1 lenV (yPk 7)) (i := 0) (n := (SS.length : Int)) (c := c1) (oEnv M kd none none none (some (.v (.int regs))) (some (.v (.tup SS))) (some (.v (.tup LL)))) rfl (y1_at (pk_at rfl) rfl) (by omega) (by omega)
  obtain ⟨sl, msl, isl⟩ := pick_atT l2 u2
  have s3 : rAs 3 (yCall 2 g_law_take (zCons (yVar 0) (zCons (y1 lenV (yPk 7)) zNil))) (oEnv M kd none none none (some (.v (.int regs))) (some (.v (.tup SS))) (some (.v (.tup LL)))) c1 = some (.nx, oEnv M kd (some (.v (.int k))) none none (some (.v (.int regs))) (some (.v (.tup SS))) (some (.v (.tup LL))), c2) := as_at e2 rfl
  have s4 : rAs 4 (y2 ixV (yPk 7) (yPk 3)) (oEnv M kd (some (.v (.int k))) none none (some (.v (.int regs))) (some (.v (.tup SS))) (some (.v (.tup LL)))) c2 = some (.nx, oEnv M kd (some (.v (.int k))) (some (.v sl)) none (some (.v (.int regs))) (some (.v (.tup SS))) (some (.v (.tup LL))), c2) := as_at (y2_at (pk_at rfl) (pk_at rfl) isl) rfl
  obtain ⟨ks, rfl, kl, kg⟩ := hSg sl msl
  have tf : ∀ (v : Env2) (c : Cs) (n : Int), v[2]? = some (some (.v (.int kd))) → kd ≠ n → uBl (y2 V2.eqV (yPk 2) (yC (.int n))) v c = some (false, c) := fun v c n h hn => (ubl_at (y2_at (pk_at h) c_at (eqV_int _ _))).trans (by rw [decide_eq_false hn])
  have tt : ∀ (v : Env2) (c : Cs) (n : Int), v[2]? = some (some (.v (.int kd))) → kd = n → uBl (y2 V2.eqV (yPk 2) (yC (.int n))) v c = some (true, c) := fun v c n h hn => (ubl_at (y2_at (pk_at h) c_at (eqV_int _ _))).trans (by rw [decide_eq_true hn])
  have pre : ∀ {d : DV} {V : Env2} {c' : Cs}, (∀ hdr : True, (rSq (rIf (uBl (y2 V2.eqV (yPk 2) (yC (.int (0))))) (rRt (yTup (zCons (y2 ixV (yLst (zCons (yC (.int (0))) (zCons (yC (.int (16))) (zCons (yC (.int (17))) (zCons (y2 subV (yC (.int (0))) (yC (.int (1)))) zNil))))) (yCall 2 g_law_take (zCons (yVar 0) (zCons (yC (.int (4))) zNil)))) (zCons (yVar 7) (zCons (yVar 8) zNil))))) rNx) _ : S2) (oEnv M kd (some (.v (.int k))) (some (.v (.tup ks))) none (some (.v (.int regs))) (some (.v (.tup SS))) (some (.v (.tup LL)))) c2 = some (.rt d, V, c')) → g_law_other [.tok, M] c = some (d, c') := fun h => fn_at rfl ((sq_nx s1).trans ((sq_nx s2).trans ((sq_nx s3).trans ((sq_nx s4).trans (h trivial)))))
  have hkd : kd = 0 ∨ kd = 1 ∨ kd = 2 ∨ kd = 3 ∨ kd = 4 ∨ kd = 5 ∨ kd = 6 ∨ kd = 7 := by omega
  have v2 : (oEnv M kd (some (.v (.int k))) (some (.v (.tup ks))) none (some (.v (.int regs))) (some (.v (.tup SS))) (some (.v (.tup LL))))[2]? = some (some (.v (.int kd))) := rfl
  have ksub : ∀ {fs : List DV}, (∀ f ∈ fs, f ∈ ks) → fs.length ≤ 18 → Sm 2 20 (.tup fs) := fun h hl => sl_sm (fun e m => kg e (h e m)) hl
  rcases hkd with h | h | h | h | h | h | h | h
  · obtain ⟨d, c3, l3, u3, e3⟩ := drawc_at (e := yC (.int (4))) (i := 0) (n := 4) (c := c2) (oEnv M kd (some (.v (.int k))) (some (.v (.tup ks))) none (some (.v (.int regs))) (some (.v (.tup SS))) (some (.v (.tup LL)))) rfl c_at (by decide) (by decide)
    obtain ⟨z, mz, hz⟩ := pick_at (L := [DV.int 0, .int 16, .int 17, .int (0 - 1)]) l3 u3
    obtain ⟨r, rfl⟩ : ∃ r, z = .int r := by
      simp only [List.mem_cons, List.not_mem_nil, or_false] at mz
      rcases mz with rfl | rfl | rfl | rfl <;> exact ⟨_, rfl⟩
    exact ⟨_, c3, pre fun _ => sq_then (tt _ _ 0 v2 h) (tup_at (cons_at (y2_at (lst_at (cons_at c_at (cons_at c_at (cons_at c_at (cons_at (y2_at c_at c_at rfl) nil_at)))) (by simp)) e3 hz) (cons_at (var_at rfl) (cons_at (var_at rfl) nil_at))) (by simp)), mk_sm r hSS (by omega) hLL (by omega)⟩
  · have hcl := (cut_sub ks (some (-1)) none).length_le
    exact ⟨_, c2, pre fun _ => (sq_else (tf _ _ 0 v2 (by omega))).trans (sq_then (tt _ _ 1 v2 h) (tup_at (cons_at (var_at rfl) (cons_at (rep_at rfl rfl (y2_at (pk_at rfl) (slT_at' (pk_at rfl) (os_at (y1_at c_at rfl)) on_at) (tupAdd (by omega))) (by omega)) (cons_at (var_at rfl) nil_at))) (by simp))), mk_sm regs (rep_mem hSS (ksub (fun f m => (List.mem_append.mp m).elim id fun m => (cut_sub _ _ _).subset m) (by rw [List.length_append]; omega))) (by have := rep_len (xs := SS) (x := .tup (ks ++ cutD ks (some (-1)) none)) (k := k); omega) hLL (by omega)⟩
  · exact ⟨_, c2, pre fun _ => (sq_else (tf _ _ 0 v2 (by omega))).trans ((sq_else (tf _ _ 1 v2 (by omega))).trans (sq_then (tt _ _ 2 v2 h) (tup_at (cons_at (var_at rfl) (cons_at (rep_at rfl rfl (y1_at (pk_at rfl) rfl) (by omega)) (cons_at (var_at rfl) nil_at))) (by simp)))), mk_sm regs (rep_mem hSS (ksub (fun f m => List.mem_reverse.mp m) (by rw [List.length_reverse]; omega))) (by have := rep_len (xs := SS) (x := .tup ks.reverse) (k := k); omega) hLL (by omega)⟩
  · have hcl := (cut_sub ks (some 1) none).length_le
    exact ⟨_, c2, pre fun _ => (sq_else (tf _ _ 0 v2 (by omega))).trans ((sq_else (tf _ _ 1 v2 (by omega))).trans ((sq_else (tf _ _ 2 v2 (by omega))).trans (sq_then (tt _ _ 3 v2 h) (tup_at (cons_at (var_at rfl) (cons_at (rep_at rfl rfl (slT_at' (pk_at rfl) (os_at c_at) on_at) (by omega)) (cons_at (var_at rfl) nil_at))) (by simp))))), mk_sm regs (rep_mem hSS (ksub (fun f m => (cut_sub _ _ _).subset m) (by omega))) (by have := rep_len (xs := SS) (x := .tup (cutD ks (some 1) none)) (k := k); omega) hLL (by omega)⟩
  · obtain ⟨d, c3, l3, u3, e3⟩ := drawc_at (e := yC (.int (3))) (i := 0) (n := 3) (c := c2) (oEnv M kd (some (.v (.int k))) (some (.v (.tup ks))) none (some (.v (.int regs))) (some (.v (.tup SS))) (some (.v (.tup LL)))) rfl c_at (by decide) (by decide)
    have hmul : tmulV (.tup [.tup []]) (.int 6) = some (.tup (List.replicate 6 (.tup []))) := rfl
    have hadd : addV (.tup SS) (.tup (List.replicate 6 (.tup []))) = some (.tup (SS ++ List.replicate 6 (.tup []))) := tupAdd (by rw [List.length_replicate]; omega)
    have hcl := (cut_sub (SS ++ List.replicate 6 (.tup [])) none (some (5 + d))).length_le
    rw [List.length_append, List.length_replicate] at hcl
    refine ⟨_, c3, pre fun _ => (sq_else (tf _ _ 0 v2 (by omega))).trans ((sq_else (tf _ _ 1 v2 (by omega))).trans ((sq_else (tf _ _ 2 v2 (by omega))).trans ((sq_else (tf _ _ 3 v2 (by omega))).trans (sq_then (tt _ _ 4 v2 h) (tup_at (cons_at (var_at rfl) (cons_at (slT_at' (y2_at (pk_at rfl) (y2_at (tup_at (cons_at (tup_at nil_at (by simp)) nil_at) (by simp)) c_at hmul) hadd) on_at (os_at (y2_at c_at e3 rfl))) (cons_at (var_at rfl) nil_at))) (by simp)))))), mk_sm regs (fun e m => ?_) (by omega) hLL (by omega)⟩
    rcases List.mem_append.mp ((cut_sub _ _ _).subset m) with m | m
    · exact hSS e m
    · rw [(List.mem_replicate.mp m).2]; exact sl_sm (fun e m => by cases m) (by simp)
  all_goals
    obtain ⟨j, c3, l3, u3, e3⟩ := drawc_at (e := yC (.int (8))) (i := 0) (n := 8) (c := c2) (oEnv M kd (some (.v (.int k))) (some (.v (.tup ks))) none (some (.v (.int regs))) (some (.v (.tup SS))) (some (.v (.tup LL)))) rfl c_at (by decide) (by decide)
    have s5 : rAs 5 (yCall 2 g_law_take (zCons (yVar 0) (zCons (yC (.int (8))) zNil))) (oEnv M kd (some (.v (.int k))) (some (.v (.tup ks))) none (some (.v (.int regs))) (some (.v (.tup SS))) (some (.v (.tup LL)))) c2 = some (.nx, oEnv M kd (some (.v (.int k))) (some (.v (.tup ks))) (some (.v (.int j))) (some (.v (.int regs))) (some (.v (.tup SS))) (some (.v (.tup LL))), c3) := as_at e3 rfl
    have w2 : (oEnv M kd (some (.v (.int k))) (some (.v (.tup ks))) (some (.v (.int j))) (some (.v (.int regs))) (some (.v (.tup SS))) (some (.v (.tup LL))))[2]? = some (some (.v (.int kd))) := rfl
    obtain ⟨pr, mpr, ipr⟩ := pick_atT (L := LL) l3 (by omega)
    obtain ⟨kk, zz, rfl, mkk⟩ := hLg pr mpr
  · obtain ⟨d, c4, l4, u4, e4⟩ := drawc_at (e := yC (.int (3))) (i := 0) (n := 3) (c := c3) (oEnv M kd (some (.v (.int k))) (some (.v (.tup ks))) (some (.v (.int j))) (some (.v (.int regs))) (some (.v (.tup SS))) (some (.v (.tup LL)))) rfl c_at (by decide) (by decide)
    obtain ⟨z, mz, hz⟩ := pick_at (L := [DV.int 0, .int 9, .int 10]) l4 u4
    obtain ⟨r, rfl⟩ : ∃ r, z = .int r := by
      simp only [List.mem_cons, List.not_mem_nil, or_false] at mz
      rcases mz with rfl | rfl | rfl <;> exact ⟨_, rfl⟩
    exact ⟨_, c4, pre fun _ => (sq_else (tf _ _ 0 v2 (by omega))).trans ((sq_else (tf _ _ 1 v2 (by omega))).trans ((sq_else (tf _ _ 2 v2 (by omega))).trans ((sq_else (tf _ _ 3 v2 (by omega))).trans ((sq_else (tf _ _ 4 v2 (by omega))).trans ((sq_nx s5).trans (sq_then (tt _ _ 5 w2 h) (tup_at (cons_at (var_at rfl) (cons_at (var_at rfl) (cons_at (rep_at rfl rfl (tup_at (cons_at (y2_at (y2_at (pk_at rfl) (pk_at rfl) ipr) c_at rfl) (cons_at (y2_at (lst_at (cons_at c_at (cons_at c_at (cons_at c_at nil_at))) (by simp)) e4 hz) nil_at)) (by simp)) (by omega)) nil_at))) (by simp)))))))), mk_sm regs hSS (by omega) (rep_mem hLL (lt_sm kk r mkk)) (by have := rep_len (xs := LL) (x := .tup [.str kk, .int r]) (k := j); omega)⟩
  · obtain ⟨d, c4, l4, u4, e4⟩ := drawc_at (e := yC (.int (3))) (i := 0) (n := 3) (c := c3) (oEnv M kd (some (.v (.int k))) (some (.v (.tup ks))) (some (.v (.int j))) (some (.v (.int regs))) (some (.v (.tup SS))) (some (.v (.tup LL)))) rfl c_at (by decide) (by decide)
    have hc1 := (cut_sub LL none (some j)).length_le
    have hc2 := (cut_sub LL none (some 1)).length_le
    obtain ⟨z, mz, hz⟩ := pick_at (L := [DV.tup LL.reverse, .tup (cutD LL none (some j)), .tup (LL ++ cutD LL none (some 1))]) l4 u4
    obtain ⟨ls, rfl, hls, hll⟩ : ∃ ls, z = .tup ls ∧ (∀ e ∈ ls, Sm 1 3 e) ∧ ls.length ≤ 17 := by
      simp only [List.mem_cons, List.not_mem_nil, or_false] at mz
      rcases mz with rfl | rfl | rfl
      · exact ⟨_, rfl, fun e m => hLL e (List.mem_reverse.mp m), by rw [List.length_reverse]; omega⟩
      · exact ⟨_, rfl, fun e m => hLL e ((cut_sub _ _ _).subset m), by omega⟩
      · exact ⟨_, rfl, fun e m => (List.mem_append.mp m).elim (hLL e) fun m => hLL e ((cut_sub _ _ _).subset m), by rw [List.length_append]; omega⟩
    exact ⟨_, c4, pre fun _ => (sq_else (tf _ _ 0 v2 (by omega))).trans ((sq_else (tf _ _ 1 v2 (by omega))).trans ((sq_else (tf _ _ 2 v2 (by omega))).trans ((sq_else (tf _ _ 3 v2 (by omega))).trans ((sq_else (tf _ _ 4 v2 (by omega))).trans ((sq_nx s5).trans ((sq_else (tf _ _ 5 w2 (by omega))).trans (sq_then (tt _ _ 6 w2 h) (tup_at (cons_at (var_at rfl) (cons_at (var_at rfl) (cons_at (y2_at (lst_at (cons_at (y1_at (pk_at rfl) rfl) (cons_at (slT_at' (pk_at rfl) on_at (os_at (var_at rfl))) (cons_at (y2_at (pk_at rfl) (slT_at' (pk_at rfl) on_at (os_at c_at)) (tupAdd (by omega))) nil_at))) (by simp)) e4 hz) nil_at))) (by simp))))))))), mk_sm regs hSS (by omega) hls hll⟩
  · exact ⟨_, c3, pre fun _ => (sq_else (tf _ _ 0 v2 (by omega))).trans ((sq_else (tf _ _ 1 v2 (by omega))).trans ((sq_else (tf _ _ 2 v2 (by omega))).trans ((sq_else (tf _ _ 3 v2 (by omega))).trans ((sq_else (tf _ _ 4 v2 (by omega))).trans ((sq_nx s5).trans ((sq_else (tf _ _ 5 w2 (by omega))).trans ((sq_else (tf _ _ 6 w2 (by omega))).trans (rt_at (tup_at (cons_at (var_at rfl) (cons_at (rep_at rfl rfl (y2_at (pk_at rfl) (tup_at (cons_at c_at nil_at) (by simp)) (tupAdd (by simp only [List.length_cons, List.length_nil]; omega))) (by omega)) (cons_at (var_at rfl) nil_at))) (by simp)))))))))), mk_sm regs (rep_mem hSS (sl_sm (fun e m => (List.mem_append.mp m).elim (kg e) fun m => by rw [List.mem_singleton.mp m]; exact ⟨_, rfl, by decide +kernel⟩) (by rw [List.length_append, List.length_cons, List.length_nil]; omega))) (by have := rep_len (xs := SS) (x := .tup (ks ++ [.str "nop"])) (k := k); omega) hLL (by omega)⟩

end Gen
end

section
set_option maxRecDepth 100000
set_option linter.all false
set_option Elab.async false
namespace Gen
open Rf L2 V2
local macro_rules | `(tactic| walk_at "q3") => `(tactic| simp only [q_var, q_pk, q_c, q_1, q_2, q_nil, q_cons, q_call, q_tup, q_lst, q_if, q_nt, q_an, q_or, q_ubl, q_unt, q_uan, q_uor, q_uys, q_utru, q_nx, q_ct, q_bk, q_sq, q_ex, q_rt, q_rn, q_ro, q_rif, q_as, q_ao, q_ap, q_fz, q_si, q_ae, q_for, q_jany, q_jrg1, q_jrg2, q_jen, q_jzp, q_qnm, q_qtp, q_qnil, q_qcons, q_lc, q_lc0, q_lc1, q_for0, q_for1, q_fn, q_fnf, q_start, q_on, q_os, q_sl, q_mxD, q_wipe1, q_wipe2, q_wipe3,
  addV, subV, mulV, modV, divV, negV, cmpV, catV, ixV_tup, ixV_lst, lenV, intV, tupleV, listV, truV, itV, itS, isNV, notNV, nonB, eqV_int, eqV_str, neV_int, neV_str, atI_at, tne, zl0, zl1, zl2, zl3, zl4, zl5, zl6, zl7, zl8, zl12, valD, kyD,
  Option.bind_some, Option.bind_none, Option.map_some, Option.map_none, List.map_cons, List.map_nil, List.length_cons, List.length_nil, List.length_map, List.length_set, List.replicate, List.cons_append, List.nil_append, List.getElem?_cons_zero, List.getElem?_cons_succ, List.set_cons_zero, List.set_cons_succ, List.isEmpty_cons, List.isEmpty_nil, ne_eq, not_false_eq_true, not_true_eq_false, Nat.reduceAdd, Nat.reduceSub, Nat.reduceEqDiff, Nat.reduceLeDiff, Nat.reduceLT, Nat.reducePow, Int.reducePow, Int.reduceNeg, Int.reduceLT, Int.reduceLE, Int.reduceToNat, Int.toNat_natCast, anyV, allV, Int.reduceAdd, Int.reduceSub, and_self, or_true, true_or, or_false, false_or, true_and, and_true, ↓reduceIte, Nat.add_zero, Nat.zero_add, Nat.sub_self, decide_eq_true_eq, decide_true, decide_false, Bool.false_eq_true, Bool.not_true, Bool.not_false, id_eq, *])

abbrev mEnv (M : DV) (x3 x4 x5 x6 : Option Sl) : Env2 := [none, some (.v .tok), some (.v M), x3, x4, x5, x6]
theorem sp_sm {n m : Nat} {d : DV} (h : Sm n m d) (hn : n ≤ 9) (hm : m ≤ 900) (c : Cs) : ∃ d' c', g_law_spoilt [.tok, d] c = some (d', c') ∧ Sm (2 * n + 3) (3 * m + 8) d' := by
  have h1 := h.hd
  have h2 := h.hs
  obtain ⟨d', c', e, f1, f2, f3, f4⟩ := spoilt2 c d h.hp (by omega) (by omega)
  exact ⟨d', c', e, f1, f4 h.ho, by omega, by omega⟩
section
variable (regs : Int) (S : List (List PySem.Str)) (lat : PySem.Str → Int) (hM : MOk S lat)
include hM
theorem law_turn (x3 x4 x5 x6 : Option Sl) (c : Cs) : ∃ (c' : Cs) (y4 y5 y6 : Option Sl), l_law_1 (mEnv (machE regs S lat) x3 x4 x5 x6) c = some (.nx, mEnv (machE regs S lat) x3 y4 y5 y6, c') := by
  have hms := mach_sm regs hM
  obtain ⟨d1, c1, l1, u1, e1⟩ := drawc_at (e := yC (.int (2))) (i := 1) (n := 2) (c := c) (mEnv (machE regs S lat) x3 (some (.v (machE regs S lat))) x5 x6) rfl c_at (by decide) (by decide)
  have mk : ∃ (d : DV) (c2 : Cs) (y6 : Option Sl), Sm 60 3000 d ∧ rIf (uBl (y2 V2.eqV (yCall 2 g_law_take (zCons (yVar 1) (zCons (yC (.int (2))) zNil))) (yC (.int (0))))) (rAs 4 (yCall 2 g_law_other (zCons (yVar 1) (zCons (yVar 4) zNil)))) (rFor (jRg1 (y2 addV (yC (.int (1))) (yCall 2 g_law_take (zCons (yVar 1) (zCons (yC (.int (2))) zNil))))) (qNm 6) (l_law_0)) (mEnv (machE regs S lat) x3 (some (.v (machE regs S lat))) x5 x6) c = some (.nx, mEnv (machE regs S lat) x3 (some (.v d)) x5 y6, c2) := by
    have t1 : uBl (y2 V2.eqV (yCall 2 g_law_take (zCons (yVar 1) (zCons (yC (.int (2))) zNil))) (yC (.int (0)))) (mEnv (machE regs S lat) x3 (some (.v (machE regs S lat))) x5 x6) c = some (decide (d1 = 0), c1) := ubl_at (y2_at e1 c_at (eqV_int _ _))
    by_cases h0 : d1 = 0
    · rw [decide_eq_true h0] at t1
      obtain ⟨d, c2, e2, hd⟩ := other03 regs S lat hM c1
      exact ⟨d, c2, x6, hd.up (by decide) (by decide), (rif_t t1).trans (as_at ((call2_at rfl rfl).trans e2) rfl)⟩
    · rw [decide_eq_false h0] at t1
      obtain ⟨d2, c2, l2, u2, e2⟩ := drawc_at (e := yC (.int (2))) (i := 1) (n := 2) (c := c1) (mEnv (machE regs S lat) x3 (some (.v (machE regs S lat))) x5 x6) rfl c_at (by decide) (by decide)
      have hj := jrg1_at (a := y2 addV (yC (.int (1))) (yCall 2 g_law_take (zCons (yVar 1) (zCons (yC (.int (2))) zNil)))) (v := mEnv (machE regs S lat) x3 (some (.v (machE regs S lat))) x5 x6) (c := c1) (c1 := c2) (z := 1 + d2) (by omega) (by omega) (y2_at c_at e2 rfl)
      obtain ⟨a1, c3, f1, f2⟩ := sp_sm hms (by decide) (by decide) c2
      have g1 : l_law_0 (mEnv (machE regs S lat) x3 (some (.v (machE regs S lat))) x5 (some (.v (.int 0)))) c2 = some (.nx, mEnv (machE regs S lat) x3 (some (.v a1)) x5 (some (.v (.int 0))), c3) := as_at ((call2_at rfl rfl).trans f1) rfl
      have hd : d2 = 0 ∨ d2 = 1 := by omega
      rcases hd with rfl | rfl
      · exact ⟨a1, c3, some (.v (.int 0)), f2.up (by decide) (by decide), (rif_f t1).trans ((for_at hj).trans (forW_one rfl g1))⟩
      · obtain ⟨a2, c4, k1, k2⟩ := sp_sm f2 (by decide) (by decide) c3
        have g2 : l_law_0 (mEnv (machE regs S lat) x3 (some (.v a1)) x5 (some (.v (.int 1)))) c3 = some (.nx, mEnv (machE regs S lat) x3 (some (.v a2)) x5 (some (.v (.int 1))), c4) := as_at ((call2_at rfl rfl).trans k1) rfl
        exact ⟨a2, c4, some (.v (.int 1)), k2.up (by decide) (by decide), (rif_f t1).trans ((for_at hj).trans ((forW_one rfl g1).trans (forW_one rfl g2)))⟩
  obtain ⟨d, c2, y6, hd, h2⟩ := mk
  have h3 := machine3 (by decide) d hd c2
  have h4 := good3 (by decide) (by decide) d hd c2
  generalize (formB d && limB d) = b at *
  generalize machE regs S lat = M at *
  refine ⟨c2, some (.v d), some (.v (.bl b)), y6, ?_⟩
  have s1 : rAs 4 (yVar 2) (mEnv M x3 x4 x5 x6) c = some (.nx, mEnv M x3 (some (.v M)) x5 x6, c) := as_at (var_at rfl) rfl
  have s3 : rAs 5 (yCall 1 g_is_machine (zCons (yVar 4) zNil)) (mEnv M x3 (some (.v d)) x5 y6) c2 = some (.nx, mEnv M x3 (some (.v d)) (some (.v (.bl b))) y6, c2) := as_at ((call1_at rfl).trans h3) rfl
  have t1 : uNt (uTru (y1 (isV "bool") (yPk 5))) (mEnv M x3 (some (.v d)) (some (.v (.bl b))) y6) c2 = some (false, c2) := unt_at (b := true) (utru_at (y1_at (pk_at rfl) (show isV "bool" (.bl b) = some (.bl true) from rfl)) rfl)
  have t2 : uBl (y2 neV (yPk 5) (yCall 1 g_law_good (zCons (yVar 4) zNil))) (mEnv M x3 (some (.v d)) (some (.v (.bl b))) y6) c2 = some (false, c2) := ubl_at (y2_at (pk_at rfl) ((call1_at rfl).trans h4) (eqv_bl b))
  exact (sq_nx s1).trans ((sq_nx h2).trans ((sq_nx s3).trans ((rif_f ((uor_f t1).trans t2)).trans q_nx)))
theorem law_turns : ∀ (is : List Int) (x3 x4 x5 x6 : Option Sl) (c : Cs), ∃ v c', forW (qNm 3) l_law_1 (is.map DV.int) (mEnv (machE regs S lat) x3 x4 x5 x6) c = some (.nx, v, c')
  | [], x3, x4, x5, x6, c => ⟨_, c, rfl⟩
  | i :: is, x3, x4, x5, x6, c => by
    obtain ⟨c1, y4, y5, y6, h1⟩ := law_turn regs S lat hM (some (.v (.int i))) x4 x5 x6 c
    obtain ⟨v, c2, h2⟩ := law_turns is (some (.v (.int i))) y4 y5 y6 c1
    exact ⟨v, c2, (forW_one rfl h1).trans h2⟩
/-- what is drawn is a machine -/
theorem form_true (hr : 1 ≤ regs ∧ regs ≤ 16) : (formB (machE regs S lat) && limB (machE regs S lat)) = true := by
  have srt : ∀ s ∈ S, kindsB (.tup (s.map .str)) = true := fun s m => by
    rw [kindsB_tup s fun y my => (hM.sub s m).subset my, RY.dd_of_nodup (kinds_nodup.sublist (hM.sub s m)), RY.srtS_perm (List.reverse_perm s), srt_kinds (hM.sub s m)]
    exact decide_eq_true rfl
  have hs : slotsF (slT S) = true := by
    show ((S.map fun s => DV.tup (s.map .str)).all kindsB && kinds8.all fun k => (S.map fun s => DV.tup (s.map .str)).any (hasK k)) = true
    rw [Bool.and_eq_true]
    refine ⟨List.all_eq_true.mpr fun d m => ?_, List.all_eq_true.mpr fun k mk => ?_⟩
    · obtain ⟨s, ms, rfl⟩ := List.mem_map.mp m
      exact srt s ms
    · obtain ⟨s, ms, hk⟩ := hM.all k mk
      refine List.any_eq_true.mpr ⟨_, List.mem_map.mpr ⟨s, ms, rfl⟩, ?_⟩
      obtain ⟨ys, e, e2⟩ := kindsB_form (srt s ms)
      rw [e2 k]
      have : ys = s := by
        have h1 := strsD_map s
        have h2 := strsD_map ys
        rw [DV.tup.inj e, h2] at h1
        exact Option.some.inj h1
      rw [this]
      exact decide_eq_true hk
  have hl : latsF (.tup (kinds8.map (latE lat))) = true := by
    show (decide ((kinds8.map (latE lat)).length = 8) && _) = true
    rw [Bool.and_eq_true]
    refine ⟨by simp, List.all_eq_true.mpr fun j m => ?_⟩
    have hj := List.mem_range.mp m
    have : j = 0 ∨ j = 1 ∨ j = 2 ∨ j = 3 ∨ j = 4 ∨ j = 5 ∨ j = 6 ∨ j = 7 := by omega
    rcases this with rfl | rfl | rfl | rfl | rfl | rfl | rfl | rfl <;> rfl
  have hz : ((List.range 8).all fun j => inL (toLat (atD0 (kinds8.map (latE lat)) j))) = true := List.all_eq_true.mpr fun j m => by
    have hj := List.mem_range.mp m
    have hk := hM.lat (kAt j) (kAt_mem hj)
    have e : toLat (atD0 (kinds8.map (latE lat)) j) = lat (kAt j) := by
      have : j = 0 ∨ j = 1 ∨ j = 2 ∨ j = 3 ∨ j = 4 ∨ j = 5 ∨ j = 6 ∨ j = 7 := by omega
      rcases this with rfl | rfl | rfl | rfl | rfl | rfl | rfl | rfl <;> rfl
    rw [e]
    unfold inL
    rw [decide_eq_true hk.1, decide_eq_true hk.2]; rfl
  have h6 : decide ((S.map fun s => DV.tup (s.map .str)).length ≤ 6) = true := decide_eq_true (by rw [List.length_map]; exact hM.len)
  show ((true && (slotsF (slT S) && latsF (.tup (kinds8.map (latE lat))))) && ((decide (1 ≤ regs) && decide (regs ≤ 16)) && (decide ((S.map fun s => DV.tup (s.map .str)).length ≤ 6) && (List.range 8).all fun j => inL (toLat (atD0 (kinds8.map (latE lat)) j))))) = true
  rw [hs, hl, hz, h6, decide_eq_true hr.1, decide_eq_true hr.2]
  rfl
end
theorem final2 (c : Cs) : ∃ v c', gb_law (none :: some (.v .tok) :: List.replicate (7 - 2) none) c = some (.rt (.bl true), v, c') := by
  obtain ⟨d1, c1, e1, l1, u1⟩ := take2 c (many := 16) (by decide) (by decide)
  obtain ⟨S, lat, c2, e2, hM⟩ := machine2 c1 (1 + d1)
  have h3 := machine3 (by decide) _ (mach_sm (1 + d1) hM) c2
  rw [form_true (1 + d1) S lat hM (by omega)] at h3
  obtain ⟨v, c3, h4⟩ := law_turns (1 + d1) S lat hM [0, 1, 2, 3, 4, 5] none none none none c2
  refine ⟨v, c3, ?_⟩
  generalize machE (1 + d1) S lat = M at *
  have s1 : rAs 2 (yCall 2 g_law_machine (zCons (yVar 1) (zCons (y2 addV (yC (.int (1))) (yCall 2 g_law_take (zCons (yVar 1) (zCons (yC (.int (16))) zNil)))) zNil))) (none :: some (.v .tok) :: List.replicate (7 - 2) none) c = some (.nx, mEnv M none none none none, c2) := as_at ((call_at (cons_at (var_at rfl) (cons_at (y2_at c_at ((call_at (cons_at (var_at rfl) (cons_at c_at nil_at)) rfl).trans e1) rfl) nil_at)) rfl).trans e2) rfl
  have t4 : uBl (y2 notBV (yCall 1 g_is_machine (zCons (yVar 2) zNil)) (yC (.bl true))) (mEnv M none none none none) c2 = some (false, c2) := ubl_at (y2_at ((call1_at rfl).trans h3) c_at rfl)
  have hj : jRg1 (yC (.int (6))) (mEnv M none none none none) c2 = some ([0, 1, 2, 3, 4, 5].map DV.int, c2) := rfl
  exact (sq_nx s1).trans ((sq_nx ((rif_f t4).trans q_nx)).trans ((sq_nx ((for_at hj).trans h4)).trans (rt_at c_at)))

end Gen
end

section
set_option maxRecDepth 100000
set_option linter.all false
set_option Elab.async false
namespace Gen
open Rf L2 V2
/-- the law's own script -/
theorem law_of (k : ∀ c : Cs, ∃ v c', gb_law (none :: some (.v .tok) :: List.replicate (7 - 2) none) c = some (.rt (.bl true), v, c')) (ns : List Int) (h : ns.length ≤ 63) : ∃ m, f_law [.ref 0] [.rol (ns.map PV.int)] = some (.bl true, m) := by
  obtain ⟨A, m1, e1, w⟩ := start_ok ns h
  obtain ⟨v, c', e2⟩ := k ⟨ns, 0, 0, 0, Int.le_refl _, Int.le_refl _, Int.le_refl _⟩
  have E : EnvR T0 A m1 m1.length (none :: some (.v .tok) :: List.replicate (7 - 2) none) (some (.ref 0) :: some (.ref T0.c) :: List.replicate (7 - 2) none) := by
    refine ⟨by simp, fun i s q => ?_, fun i j ds es k q => ?_⟩
    · match i with
      | 0 => cases q
      | 1 =>
        cases q
        exact ⟨.ref T0.c, rfl, by show D2 T0 A m1 .tok _; rw [D2]⟩
      | i + 2 =>
        simp only [List.getElem?_cons_succ] at q
        rw [List.getElem?_replicate] at q
        split at q <;> cases q
    · match i with
      | 0 => cases q
      | 1 => cases q
      | i + 2 =>
        simp only [List.getElem?_cons_succ] at q
        rw [List.getElem?_replicate] at q
        split at q <;> cases q
  obtain ⟨f, v', m', A', r1, r2, r3, r4, r5⟩ := m_law (T := T0) A m1 _ m1.length _ _ w E (Nat.le_refl _) _ _ _ e2
  obtain ⟨p, rfl, hp⟩ := r5
  rw [if_neg Bool.false_ne_true, d2_bl] at hp
  subst hp
  refine ⟨m', ?_⟩
  have eb : b_law = sSq (sAs (xCall 1 f_law_start (aCons (xVar 0) aNil)) (gNm 1)) b_law_rest := rfl
  have r1' : b_law_rest (some (.ref 0) :: some (.ref T0.c) :: List.replicate (7 - 2) none) m1 = some (.rt (.bl true), v', m') := r1
  unfold f_law
  rw [eb]
  simp only [e_fn, e_sq, e_as, e_call, e_aCons, e_aNil, e_var, startE, List.map_cons, List.map_nil, List.length_cons, List.length_nil, Nat.zero_add, List.cons_append, List.nil_append, List.getElem?_cons_zero, Option.bind_some, if_true, e1, e_nm]
  rw [show (some (PV.ref 0) :: List.replicate (7 - 1) none).set 1 (some (.ref T0.c)) = some (.ref 0) :: some (.ref T0.c) :: List.replicate (7 - 2) none from rfl, r1']
  rfl
end Gen
end

section
set_option Elab.async false
set_option linter.all false
set_option maxRecDepth 100000
set_option maxHeartbeats 4000000
namespace Gen
open PySem PySem.Spec L2 Rf
def top (i : Nat) : Stmt := PySem.Challenge.pw_trireme_k03_machines.main.body.getD i (.Pass ⟨0, 0, 0, 0⟩)
abbrev s_law_start : Stmt := (top 18)
abbrev N_law_start : List PySem.Str := ["script", "cell"]
theorem sc_law_start : FnScope N_law_start ["script"] (defScope s_law_start) := ⟨rfl, rfl, rfl, by decide +kernel, rfl, by decide +kernel, by decide +kernel⟩
abbrev s_law_kinds : Stmt := (top 21)
abbrev N_law_kinds : List PySem.Str := []
theorem sc_law_kinds : FnScope N_law_kinds [] (defScope s_law_kinds) := ⟨rfl, rfl, rfl, by decide +kernel, rfl, by decide +kernel, by decide +kernel⟩
abbrev s_law_whole : Stmt := (top 33)
abbrev N_law_whole : List PySem.Str := ["n"]
theorem sc_law_whole : FnScope N_law_whole ["n"] (defScope s_law_whole) := ⟨rfl, rfl, rfl, by decide +kernel, rfl, by decide +kernel, by decide +kernel⟩
abbrev s_law_good : Stmt := (top 34)
abbrev N_law_good : List PySem.Str := ["machine", "slot", "k", "registers", "slots", "latencies", "pair", "kind"]
theorem sc_law_good : FnScope N_law_good ["machine"] (defScope s_law_good) := ⟨rfl, rfl, rfl, by decide +kernel, rfl, by decide +kernel, by decide +kernel⟩
abbrev s_is_number : Stmt := (top 2)
abbrev N_is_number : List PySem.Str := ["value"]
theorem sc_is_number : FnScope N_is_number ["value"] (defScope s_is_number) := ⟨rfl, rfl, rfl, by decide +kernel, rfl, by decide +kernel, by decide +kernel⟩
abbrev s_is_kind : Stmt := (top 5)
abbrev N_is_kind : List PySem.Str := ["value"]
theorem sc_is_kind : FnScope N_is_kind ["value"] (defScope s_is_kind) := ⟨rfl, rfl, rfl, by decide +kernel, rfl, by decide +kernel, by decide +kernel⟩
abbrev s_are_kinds : Stmt := (top 6)
abbrev N_are_kinds : List PySem.Str := ["value", "kind"]
theorem sc_are_kinds : FnScope N_are_kinds ["value"] (defScope s_are_kinds) := ⟨rfl, rfl, rfl, by decide +kernel, rfl, by decide +kernel, by decide +kernel⟩
abbrev s_are_slots : Stmt := (top 13)
abbrev N_are_slots : List PySem.Str := ["slots", "kind", "slot"]
theorem sc_are_slots : FnScope N_are_slots ["slots"] (defScope s_are_slots) := ⟨rfl, rfl, rfl, by decide +kernel, rfl, by decide +kernel, by decide +kernel⟩
abbrev s_is_tuple : Stmt := (top 3)
abbrev N_is_tuple : List PySem.Str := ["value", "size"]
theorem sc_is_tuple : FnScope N_is_tuple ["value", "size"] (defScope s_is_tuple) := ⟨rfl, rfl, rfl, by decide +kernel, rfl, by decide +kernel, by decide +kernel⟩
abbrev s_is_word : Stmt := (top 4)
abbrev N_is_word : List PySem.Str := ["value", "word"]
theorem sc_is_word : FnScope N_is_word ["value", "word"] (defScope s_is_word) := ⟨rfl, rfl, rfl, by decide +kernel, rfl, by decide +kernel, by decide +kernel⟩
abbrev s_is_latency : Stmt := (top 15)
abbrev N_is_latency : List PySem.Str := ["pair", "kind"]
theorem sc_is_latency : FnScope N_is_latency ["pair", "kind"] (defScope s_is_latency) := ⟨rfl, rfl, rfl, by decide +kernel, rfl, by decide +kernel, by decide +kernel⟩
abbrev s_are_latencies : Stmt := (top 14)
abbrev N_are_latencies : List PySem.Str := ["latencies", "pair", "kind"]
theorem sc_are_latencies : FnScope N_are_latencies ["latencies"] (defScope s_are_latencies) := ⟨rfl, rfl, rfl, by decide +kernel, rfl, by decide +kernel, by decide +kernel⟩
abbrev s_has_machine_form : Stmt := (top 12)
abbrev N_has_machine_form : List PySem.Str := ["machine", "registers", "slots", "latencies"]
theorem sc_has_machine_form : FnScope N_has_machine_form ["machine"] (defScope s_has_machine_form) := ⟨rfl, rfl, rfl, by decide +kernel, rfl, by decide +kernel, by decide +kernel⟩
abbrev s_is_within_limits : Stmt := (top 16)
abbrev N_is_within_limits : List PySem.Str := ["machine", "registers", "slots", "latencies", "kind", "latency"]
theorem sc_is_within_limits : FnScope N_is_within_limits ["machine"] (defScope s_is_within_limits) := ⟨rfl, rfl, rfl, by decide +kernel, rfl, by decide +kernel, by decide +kernel⟩
abbrev s_is_machine : Stmt := (top 11)
abbrev N_is_machine : List PySem.Str := ["machine"]
theorem sc_is_machine : FnScope N_is_machine ["machine"] (defScope s_is_machine) := ⟨rfl, rfl, rfl, by decide +kernel, rfl, by decide +kernel, by decide +kernel⟩
abbrev s_law_fill : Stmt := (top 19)
abbrev N_law_fill : List PySem.Str := ["c", "number"]
theorem sc_law_fill : FnScope N_law_fill ["c"] (defScope s_law_fill) := ⟨rfl, rfl, rfl, by decide +kernel, rfl, by decide +kernel, by decide +kernel⟩
abbrev s_law_take : Stmt := (top 20)
abbrev N_law_take : List PySem.Str := ["c", "many", "digit"]
theorem sc_law_take : FnScope N_law_take ["c", "many"] (defScope s_law_take) := ⟨rfl, rfl, rfl, by decide +kernel, rfl, by decide +kernel, by decide +kernel⟩
abbrev s_law_other : Stmt := (top 35)
abbrev N_law_other : List PySem.Str := ["c", "machine", "kind", "k", "slot", "j", "registers", "slots", "latencies"]
theorem sc_law_other : FnScope N_law_other ["c", "machine"] (defScope s_law_other) := ⟨rfl, rfl, rfl, by decide +kernel, rfl, by decide +kernel, by decide +kernel⟩
abbrev s_law_high : Stmt := (top 31)
abbrev N_law_high : List PySem.Str := ["value", "level", "high", "count", "deeper", "one"]
theorem sc_law_high : FnScope N_law_high ["value"] (defScope s_law_high) := ⟨rfl, rfl, rfl, by decide +kernel, rfl, by decide +kernel, by decide +kernel⟩
abbrev s_law_changed : Stmt := (top 30)
abbrev N_law_changed : List PySem.Str := ["value", "box", "other", "part"]
theorem sc_law_changed : FnScope N_law_changed ["value", "box", "other"] (defScope s_law_changed) := ⟨rfl, rfl, rfl, by decide +kernel, rfl, by decide +kernel, by decide +kernel⟩
abbrev s_law_nodes_of : Stmt := (top 29)
abbrev N_law_nodes_of : List PySem.Str := ["value", "found", "part"]
theorem sc_law_nodes_of : FnScope N_law_nodes_of ["value", "found"] (defScope s_law_nodes_of) := ⟨rfl, rfl, rfl, by decide +kernel, rfl, by decide +kernel, by decide +kernel⟩
abbrev s_law_spoilt : Stmt := (top 32)
abbrev N_law_spoilt : List PySem.Str := ["c", "value", "found", "at", "one", "other", "changed"]
theorem sc_law_spoilt : FnScope N_law_spoilt ["c", "value"] (defScope s_law_spoilt) := ⟨rfl, rfl, rfl, by decide +kernel, rfl, by decide +kernel, by decide +kernel⟩
abbrev s_law_machine : Stmt := (top 22)
abbrev N_law_machine : List PySem.Str := ["c", "registers", "many", "slots", "rich", "kind", "most", "latencies", "k", "slot"]
theorem sc_law_machine : FnScope N_law_machine ["c", "registers"] (defScope s_law_machine) := ⟨rfl, rfl, rfl, by decide +kernel, rfl, by decide +kernel, by decide +kernel⟩
abbrev s_law : Stmt := (top 36)
abbrev N_law : List PySem.Str := ["script", "c", "machine", "k", "other", "told", "j"]
theorem sc_law : FnScope N_law ["script"] (defScope s_law) := ⟨rfl, rfl, rfl, by decide +kernel, rfl, by decide +kernel, by decide +kernel⟩
structure Txt (w : World) (K : PySem.W.Frag) (mg : PySem.Str → Option Value) (cl : Nat → Addr) : Prop where
  g_KINDS : GTup K mg "KINDS" ["add", "and", "less", "load", "mul", "out", "store", "sub"]
  g_MOST_LATENCY : ∃ t, mg "MOST_LATENCY" = some (.int (9) t)
  g_MOST_SLOTS : ∃ t, mg "MOST_SLOTS" = some (.int (6) t)
  g_REGISTERS : ∃ t, mg "REGISTERS" = some (.int (16) t)
  z_all : mg "all" = none
  z_any : mg "any" = none
  z_bool : mg "bool" = none
  z_int : mg "int" = none
  z_isinstance : mg "isinstance" = none
  z_len : mg "len" = none
  z_list : mg "list" = none
  z_range : mg "range" = none
  z_set : mg "set" = none
  z_sorted : mg "sorted" = none
  z_str : mg "str" = none
  z_tuple : mg "tuple" = none
  z_zip : mg "zip" = none
section
variable {P : Program} {w : World} {K : PySem.W.Frag} {mg : PySem.Str → Option Value} {base : Heap} {cl : Nat → Addr}
theorem ok_law_start {f : Addr} {fd : FuncData} (T : Txt w K mg cl) (F : L2.Fun K "_law_start" "_law_start" s_law_start f fd)  : FnOk P w K mg base CX0 1 f fd ["script"] (SpF K cl 1 f_law_start) :=
  fn_ok (N := N_law_start) F sc_law_start rfl fun cdv A outer s H E hr =>
    (rss_one (rs_ret (rx_lst (ra_cons (rx_lcP (own := [("cell", 1)]) (g := (pNm 1)) (pat_nm (by decide)) rfl sc_law_start.nd (ri_any (rx_sl (rv 0) ro_none (ro_some rx_int))) (blkOk_by (own := [("cell", 1)]) (N := N_law_start) (sc := defScope s_law_start) (by decide +kernel)) (fun _ _ _ _ _ => (pgn 1 sc_law_start.nd)) (fun _ _ _ _ _ => rts_nil) (fun _ _ _ _ _ => (rx_callTy (id := "int") cx_int (by rfl) T.z_int (by decide +kernel) (ra_cons (rv 1) ra_nil)))) (ra_cons rx_int (ra_cons rx_int (ra_cons rx_int (ra_cons rx_int ra_nil))))))))
theorem ok_law_kinds {f : Addr} {fd : FuncData} (T : Txt w K mg cl) (F : L2.Fun K "_law_kinds" "_law_kinds" s_law_kinds f fd)  : FnOk P w K mg base CX0 1 f fd [] (SpF K cl 0 f_law_kinds) :=
  fn_ok (N := N_law_kinds) F sc_law_kinds rfl fun cdv A outer s H E hr =>
    (rss_one (rs_ret (rx_lst (ra_cons rx_str (ra_cons rx_str (ra_cons rx_str (ra_cons rx_str (ra_cons rx_str (ra_cons rx_str (ra_cons rx_str (ra_cons rx_str ra_nil)))))))))))
theorem ok_law_whole {f : Addr} {fd : FuncData} (T : Txt w K mg cl) (F : L2.Fun K "_law_whole" "_law_whole" s_law_whole f fd)  : FnOk P w K mg base CX0 1 f fd ["n"] (SpF K cl 1 f_law_whole) :=
  fn_ok (N := N_law_whole) F sc_law_whole rfl fun cdv A outer s H E hr =>
    (rss_one (rs_ret (rx_and (rx_isinst (T := "int") (by rfl) T.z_isinstance (by rfl) T.z_int (by decide +kernel) (rv 0)) (rx_one (rx_not (rx_isinst (T := "bool") (by rfl) T.z_isinstance (by rfl) T.z_bool (by decide +kernel) (rv 0)))))))
theorem ok_law_good {f : Addr} {fd : FuncData} (T : Txt w K mg cl) (F : L2.Fun K "_law_good" "_law_good" s_law_good f fd) (c_law_kinds : C8.Cal P w K mg base 1 "_law_kinds" (SpF K cl 0 f_law_kinds) []) (c_law_whole : C8.Cal P w K mg base 1 "_law_whole" (SpF K cl 1 f_law_whole) []) : FnOk P w K mg base CX0 2 f fd ["machine"] (SpF K cl 1 f_law_good) :=
  fn_ok (N := N_law_good) F sc_law_good rfl fun cdv A outer s H E hr =>
    (rss_cons (rs_if (rt_w (rw_or (rt_not (rt_tru (rx_isinst (T := "tuple") (by rfl) T.z_isinstance (by rfl) T.z_tuple (by decide +kernel) (rv 0)))) (rw_or1 (rt_cmp (ox_ne hr.units) (rx_callB (id := "len") cx_len (by rfl) T.z_len (by decide +kernel) (ra_cons (rv 0) ra_nil)) rx_int (nomark _))))) (rss_one (rs_ret rx_bl)) rss_nil)
      (rss_cons (rs_asg (rv 0) (rg_seq (n := 3) rfl (rgs_cons (rg_name (i := 3) sc_law_good.nd rfl (by first | exact Or.inl rfl | exact Or.inr rfl)) (rgs_cons (rg_name (i := 4) sc_law_good.nd rfl (by first | exact Or.inl rfl | exact Or.inr rfl)) (rgs_cons (rg_name (i := 5) sc_law_good.nd rfl (by first | exact Or.inl rfl | exact Or.inr rfl)) rgs_nil)))))
      (rss_cons (rs_if (rt_w (rw_or (rt_not (rt_tru (rx_call c_law_whole hr (by decide) (by rfl) (ra_cons (rv 3) ra_nil)))) (rw_or (rt_cmp ox_lt (rv 3) rx_int (nomark _)) (rw_or (rt_cmp ox_gt (rv 3) rx_int (nomark _)) (rw_or (rt_not (rt_tru (rx_isinst (T := "tuple") (by rfl) T.z_isinstance (by rfl) T.z_tuple (by decide +kernel) (rv 4)))) (rw_or1 (rt_not (rt_tru (rx_isinst (T := "tuple") (by rfl) T.z_isinstance (by rfl) T.z_tuple (by decide +kernel) (rv 5)))))))))) (rss_one (rs_ret rx_bl)) rss_nil)
      (rss_cons (rs_if (rt_w (rw_or (rt_cmp ox_lt (rx_callB (id := "len") cx_len (by rfl) T.z_len (by decide +kernel) (ra_cons (rv 4) ra_nil)) rx_int (nomark _)) (rw_or (rt_cmp ox_gt (rx_callB (id := "len") cx_len (by rfl) T.z_len (by decide +kernel) (ra_cons (rv 4) ra_nil)) rx_int (nomark _)) (rw_or1 (rt_cmp (ox_ne hr.units) (rx_callB (id := "len") cx_len (by rfl) T.z_len (by decide +kernel) (ra_cons (rv 5) ra_nil)) rx_int (nomark _)))))) (rss_one (rs_ret rx_bl)) rss_nil)
      (rss_cons (rs_for PassesOwn.never rfl (ri_any (rv 4)) (rg_name (i := 1) sc_law_good.nd rfl (by first | exact Or.inl rfl | exact Or.inr rfl)) (rss_one (rs_if (rt_w (rw_or (rt_not (rt_tru (rx_isinst (T := "tuple") (by rfl) T.z_isinstance (by rfl) T.z_tuple (by decide +kernel) (rv 1)))) (rw_or (rt_not (rt_tru (rx_callB (id := "all") (cx_all rfl) (by rfl) T.z_all (by decide +kernel) (ra_cons (rx_lcP (own := [("kind", 7)]) (g := (pNm 7)) (pat_nm (by decide)) rfl sc_law_good.nd (ri_any (rv 1)) (blkOk_by (own := [("kind", 7)]) (N := N_law_good) (sc := defScope s_law_good) (by decide +kernel)) (fun _ _ _ _ _ => (pgn 7 sc_law_good.nd)) (fun _ _ _ _ _ => rts_nil) (fun _ _ _ _ _ => (rx_cmp (ox_inT hr.u65) (rv 7) (rx_call0 c_law_kinds hr (by first | decide | omega) (by rfl)) (by rfl)))) ra_nil)))) (rw_or1 (rt_cmp (ox_ne hr.units) (rx_callTy (id := "list") cx_list (by rfl) T.z_list (by decide +kernel) (ra_cons (rv 1) ra_nil)) (rx_sortedSetD rfl hr.units (by rfl) T.z_sorted (by rfl) T.z_set (rv 1)) (nomark _)))))) (rss_one (rs_ret rx_bl)) rss_nil)))
      (rss_cons (rs_for PassesOwn.never rfl (ri_range1 (by rfl) T.z_range rx_int) (rg_name (i := 2) sc_law_good.nd rfl (by first | exact Or.inl rfl | exact Or.inr rfl)) (rss_cons (rs_set (i := 6) sc_law_good.nd rfl (by first | exact Or.inl rfl | exact Or.inr rfl) (rx_ix (hu_of hr) (rv 5) (rv 2) (fun _ _ => rfl)))
      (rss_cons (rs_if (rt_w (rw_or (rt_not (rt_tru (rx_isinst (T := "tuple") (by rfl) T.z_isinstance (by rfl) T.z_tuple (by decide +kernel) (rv 6)))) (rw_or (rt_cmp (ox_ne hr.units) (rx_callB (id := "len") cx_len (by rfl) T.z_len (by decide +kernel) (ra_cons (rv 6) ra_nil)) rx_int (nomark _)) (rw_or1 (rt_cmp (ox_ne hr.units) (rx_ix (hu_of hr) (rv 6) rx_int (fun _ _ => rfl)) (rx_ix (hu_of hr) (rx_call0 c_law_kinds hr (by first | decide | omega) (by rfl)) (rv 2) (fun _ _ => rfl)) (nomark _)))))) (rss_one (rs_ret rx_bl)) rss_nil)
      (rss_one (rs_if (rt_w (rw_or (rt_not (rt_tru (rx_call c_law_whole hr (by decide) (by rfl) (ra_cons (rx_ix (hu_of hr) (rv 6) rx_int (fun _ _ => rfl)) ra_nil)))) (rw_or (rt_cmp ox_lt (rx_ix (hu_of hr) (rv 6) rx_int (fun _ _ => rfl)) rx_int (nomark _)) (rw_or1 (rt_cmp ox_gt (rx_ix (hu_of hr) (rv 6) rx_int (fun _ _ => rfl)) rx_int (nomark _)))))) (rss_one (rs_ret rx_bl)) rss_nil)))))
      (rss_one (rs_ret (rx_callB (id := "all") (cx_all rfl) (by rfl) T.z_all (by decide +kernel) (ra_cons (rx_lcP (own := [("kind", 7)]) (g := (pNm 7)) (pat_nm (by decide)) rfl sc_law_good.nd (ri_any (rx_call0 c_law_kinds hr (by first | decide | omega) (by rfl))) (blkOk_by (own := [("kind", 7)]) (N := N_law_good) (sc := defScope s_law_good) (by decide +kernel)) (fun _ _ _ _ _ => (pgn 7 sc_law_good.nd)) (fun _ _ _ _ _ => rts_nil) (fun _ _ _ _ _ => (rx_callB (id := "any") (cx_any rfl) (by rfl) T.z_any (by decide +kernel) (ra_cons (rx_lcP (own := [("slot", 1)]) (g := (pNm 1)) (pat_nm (by decide)) rfl sc_law_good.nd (ri_any (rv 4)) (blkOk_by (own := [("slot", 1)]) (by first | rfl | decide +kernel)) (fun _ _ _ _ _ => (pgn 1 sc_law_good.nd)) (fun _ _ _ _ _ => rts_nil) (fun _ _ _ _ _ => (rx_cmp ox_in (rv 7) (rv 1) (by rfl)))) ra_nil)))) ra_nil))))))))))
theorem ok_is_number {f : Addr} {fd : FuncData} (T : Txt w K mg cl) (F : L2.Fun K "is_number" "is_number" s_is_number f fd)  : FnOk P w K mg base CX0 1 f fd ["value"] (SpF K cl 1 f_is_number) :=
  fn_ok (N := N_is_number) F sc_is_number rfl fun cdv A outer s H E hr =>
    (rss_one (rs_ret (rx_and (rx_isinst (T := "int") (by rfl) T.z_isinstance (by rfl) T.z_int (by decide +kernel) (rv 0)) (rx_one (rx_not (rx_isinst (T := "bool") (by rfl) T.z_isinstance (by rfl) T.z_bool (by decide +kernel) (rv 0)))))))
theorem ok_is_kind {f : Addr} {fd : FuncData} (T : Txt w K mg cl) (F : L2.Fun K "is_kind" "is_kind" s_is_kind f fd)  : FnOk P w K mg base CX0 1 f fd ["value"] (SpF K cl 1 f_is_kind) :=
  fn_ok (N := N_is_kind) F sc_is_kind rfl fun cdv A outer s H E hr =>
    (rss_one (rs_ret (rx_and (rx_isinst (T := "str") (by rfl) T.z_isinstance (by rfl) T.z_str (by decide +kernel) (rv 0)) (rx_one (rx_cmp ox_in (rv 0) (rx_gtup T.g_KINDS (by rfl)) (by rfl))))))
theorem ok_are_kinds {f : Addr} {fd : FuncData} (T : Txt w K mg cl) (F : L2.Fun K "are_kinds" "are_kinds" s_are_kinds f fd) (c_is_kind : C8.Cal P w K mg base 1 "is_kind" (SpF K cl 1 f_is_kind) []) : FnOk P w K mg base CX0 2 f fd ["value"] (SpF K cl 1 f_are_kinds) :=
  fn_ok (N := N_are_kinds) F sc_are_kinds rfl fun cdv A outer s H E hr =>
    (rss_cons (rs_if (rt_w (rw_or (rt_not (rt_tru (rx_isinst (T := "tuple") (by rfl) T.z_isinstance (by rfl) T.z_tuple (by decide +kernel) (rv 0)))) (rw_or1 (rt_not (rt_tru (rx_callB (id := "all") (cx_all rfl) (by rfl) T.z_all (by decide +kernel) (ra_cons (rx_lcP (own := [("kind", 1)]) (g := (pNm 1)) (pat_nm (by decide)) rfl sc_are_kinds.nd (ri_any (rv 0)) (blkOk_by (own := [("kind", 1)]) (N := N_are_kinds) (sc := defScope s_are_kinds) (by decide +kernel)) (fun _ _ _ _ _ => (pgn 1 sc_are_kinds.nd)) (fun _ _ _ _ _ => rts_nil) (fun _ _ _ _ _ => (rx_call c_is_kind hr (by decide) (by rfl) (ra_cons (rv 1) ra_nil)))) ra_nil))))))) (rss_one (rs_ret rx_bl)) rss_nil)
      (rss_one (rs_ret (rx_cmp (ox_eq hr.units) (rx_callTy (id := "list") cx_list (by rfl) T.z_list (by decide +kernel) (ra_cons (rv 0) ra_nil)) (rx_sortedSetD rfl hr.units (by rfl) T.z_sorted (by rfl) T.z_set (rv 0)) (nomark _)))))
theorem ok_are_slots {f : Addr} {fd : FuncData} (T : Txt w K mg cl) (F : L2.Fun K "are_slots" "are_slots" s_are_slots f fd) (c_are_kinds : C8.Cal P w K mg base 2 "are_kinds" (SpF K cl 1 f_are_kinds) []) : FnOk P w K mg base CX0 3 f fd ["slots"] (SpF K cl 1 f_are_slots) :=
  fn_ok (N := N_are_slots) F sc_are_slots rfl fun cdv A outer s H E hr =>
    (rss_cons (rs_if (rt_w (rw_or (rt_not (rt_tru (rx_isinst (T := "tuple") (by rfl) T.z_isinstance (by rfl) T.z_tuple (by decide +kernel) (rv 0)))) (rw_or1 (rt_not (rt_tru (rx_callB (id := "all") (cx_all rfl) (by rfl) T.z_all (by decide +kernel) (ra_cons (rx_lcP (own := [("slot", 2)]) (g := (pNm 2)) (pat_nm (by decide)) rfl sc_are_slots.nd (ri_any (rv 0)) (blkOk_by (own := [("slot", 2)]) (N := N_are_slots) (sc := defScope s_are_slots) (by decide +kernel)) (fun _ _ _ _ _ => (pgn 2 sc_are_slots.nd)) (fun _ _ _ _ _ => rts_nil) (fun _ _ _ _ _ => (rx_call c_are_kinds hr (by decide) (by rfl) (ra_cons (rv 2) ra_nil)))) ra_nil))))))) (rss_one (rs_ret rx_bl)) rss_nil)
      (rss_one (rs_ret (rx_callB (id := "all") (cx_all rfl) (by rfl) T.z_all (by decide +kernel) (ra_cons (rx_lcP (own := [("kind", 1)]) (g := (pNm 1)) (pat_nm (by decide)) rfl sc_are_slots.nd (ri_any (rx_gtup T.g_KINDS (by rfl))) (blkOk_by (own := [("kind", 1)]) (N := N_are_slots) (sc := defScope s_are_slots) (by decide +kernel)) (fun _ _ _ _ _ => (pgn 1 sc_are_slots.nd)) (fun _ _ _ _ _ => rts_nil) (fun _ _ _ _ _ => (rx_callB (id := "any") (cx_any rfl) (by rfl) T.z_any (by decide +kernel) (ra_cons (rx_lcP (own := [("slot", 2)]) (g := (pNm 2)) (pat_nm (by decide)) rfl sc_are_slots.nd (ri_any (rv 0)) (blkOk_by (own := [("slot", 2)]) (by first | rfl | decide +kernel)) (fun _ _ _ _ _ => (pgn 2 sc_are_slots.nd)) (fun _ _ _ _ _ => rts_nil) (fun _ _ _ _ _ => (rx_cmp ox_in (rv 1) (rv 2) (by rfl)))) ra_nil)))) ra_nil)))))
theorem ok_is_tuple {f : Addr} {fd : FuncData} (T : Txt w K mg cl) (F : L2.Fun K "is_tuple" "is_tuple" s_is_tuple f fd)  : FnOk P w K mg base CX0 1 f fd ["value", "size"] (SpF K cl 2 f_is_tuple) :=
  fn_ok (N := N_is_tuple) F sc_is_tuple rfl fun cdv A outer s H E hr =>
    (rss_one (rs_ret (rx_and (rx_isinst (T := "tuple") (by rfl) T.z_isinstance (by rfl) T.z_tuple (by decide +kernel) (rv 0)) (rx_one (rx_cmp (ox_eq hr.units) (rx_callB (id := "len") cx_len (by rfl) T.z_len (by decide +kernel) (ra_cons (rv 0) ra_nil)) (rv 1) (nomark _))))))
theorem ok_is_word {f : Addr} {fd : FuncData} (T : Txt w K mg cl) (F : L2.Fun K "is_word" "is_word" s_is_word f fd)  : FnOk P w K mg base CX0 1 f fd ["value", "word"] (SpF K cl 2 f_is_word) :=
  fn_ok (N := N_is_word) F sc_is_word rfl fun cdv A outer s H E hr =>
    (rss_one (rs_ret (rx_and (rx_isinst (T := "str") (by rfl) T.z_isinstance (by rfl) T.z_str (by decide +kernel) (rv 0)) (rx_one (rx_cmp (ox_eq hr.units) (rv 0) (rv 1) (nomark _))))))
theorem ok_is_latency {f : Addr} {fd : FuncData} (T : Txt w K mg cl) (F : L2.Fun K "is_latency" "is_latency" s_is_latency f fd) (c_is_tuple : C8.Cal P w K mg base 1 "is_tuple" (SpF K cl 2 f_is_tuple) []) (c_is_word : C8.Cal P w K mg base 1 "is_word" (SpF K cl 2 f_is_word) []) (c_is_number : C8.Cal P w K mg base 1 "is_number" (SpF K cl 1 f_is_number) []) : FnOk P w K mg base CX0 2 f fd ["pair", "kind"] (SpF K cl 2 f_is_latency) :=
  fn_ok (N := N_is_latency) F sc_is_latency rfl fun cdv A outer s H E hr =>
    (rss_one (rs_ret (rx_and (rx_call c_is_tuple hr (by decide) (by rfl) (ra_cons (rv 0) (ra_cons rx_int ra_nil))) (rx_and (rx_call c_is_word hr (by decide) (by rfl) (ra_cons (rx_ix (hu_of hr) (rv 0) rx_int (fun _ _ => rfl)) (ra_cons (rv 1) ra_nil))) (rx_one (rx_call c_is_number hr (by decide) (by rfl) (ra_cons (rx_ix (hu_of hr) (rv 0) rx_int (fun _ _ => rfl)) ra_nil)))))))
theorem ok_are_latencies {f : Addr} {fd : FuncData} (T : Txt w K mg cl) (F : L2.Fun K "are_latencies" "are_latencies" s_are_latencies f fd) (c_is_latency : C8.Cal P w K mg base 2 "is_latency" (SpF K cl 2 f_is_latency) []) (c_is_tuple : C8.Cal P w K mg base 1 "is_tuple" (SpF K cl 2 f_is_tuple) []) : FnOk P w K mg base CX0 3 f fd ["latencies"] (SpF K cl 1 f_are_latencies) :=
  fn_ok (N := N_are_latencies) F sc_are_latencies rfl fun cdv A outer s H E hr =>
    (rss_cons (rs_if (rt_not (rt_tru (rx_call c_is_tuple hr (by decide) (by rfl) (ra_cons (rv 0) (ra_cons (rx_callB (id := "len") cx_len (by rfl) T.z_len (by decide +kernel) (ra_cons (rx_gtup T.g_KINDS (by rfl)) ra_nil)) ra_nil))))) (rss_one (rs_ret rx_bl)) rss_nil)
      (rss_one (rs_ret (rx_callB (id := "all") (cx_all rfl) (by rfl) T.z_all (by decide +kernel) (ra_cons (rx_lcP (own := [("pair", 1), ("kind", 2)]) (g := (pTp 2 (pCons (pNm 1) (pCons (pNm 2) pNil)))) (pat_tp (n := 2) (pats_cons (pat_nm (by decide)) (pats_cons (pat_nm (by decide)) pats_nil))) rfl sc_are_latencies.nd (ri_zipX (by rfl) T.z_zip (ra_cons (rv 0) (ra_cons (rx_gtup T.g_KINDS (by rfl)) ra_nil))) (blkOk_by (own := [("pair", 1), ("kind", 2)]) (N := N_are_latencies) (sc := defScope s_are_latencies) (by decide +kernel)) (fun _ _ _ _ _ => (pg_tup (n := 2) rfl (pgs_cons (pgn 1 sc_are_latencies.nd) (pgs_cons (pgn 2 sc_are_latencies.nd) pgs_nil)))) (fun _ _ _ _ _ => rts_nil) (fun _ _ _ _ _ => (rx_call c_is_latency hr (by decide) (by rfl) (ra_cons (rv 1) (ra_cons (rv 2) ra_nil))))) ra_nil)))))
theorem ok_has_machine_form {f : Addr} {fd : FuncData} (T : Txt w K mg cl) (F : L2.Fun K "has_machine_form" "has_machine_form" s_has_machine_form f fd) (c_is_number : C8.Cal P w K mg base 1 "is_number" (SpF K cl 1 f_is_number) []) (c_are_slots : C8.Cal P w K mg base 3 "are_slots" (SpF K cl 1 f_are_slots) []) (c_are_latencies : C8.Cal P w K mg base 3 "are_latencies" (SpF K cl 1 f_are_latencies) []) (c_is_tuple : C8.Cal P w K mg base 1 "is_tuple" (SpF K cl 2 f_is_tuple) []) : FnOk P w K mg base CX0 4 f fd ["machine"] (SpF K cl 1 f_has_machine_form) :=
  fn_ok (N := N_has_machine_form) F sc_has_machine_form rfl fun cdv A outer s H E hr =>
    (rss_cons (rs_if (rt_not (rt_tru (rx_call c_is_tuple hr (by decide) (by rfl) (ra_cons (rv 0) (ra_cons rx_int ra_nil))))) (rss_one (rs_ret rx_bl)) rss_nil)
      (rss_cons (rs_asg (rv 0) (rg_seq (n := 3) rfl (rgs_cons (rg_name (i := 1) sc_has_machine_form.nd rfl (by first | exact Or.inl rfl | exact Or.inr rfl)) (rgs_cons (rg_name (i := 2) sc_has_machine_form.nd rfl (by first | exact Or.inl rfl | exact Or.inr rfl)) (rgs_cons (rg_name (i := 3) sc_has_machine_form.nd rfl (by first | exact Or.inl rfl | exact Or.inr rfl)) rgs_nil)))))
      (rss_one (rs_ret (rx_and (rx_call c_is_number hr (by decide) (by rfl) (ra_cons (rv 1) ra_nil)) (rx_and (rx_call c_are_slots hr (by decide) (by rfl) (ra_cons (rv 2) ra_nil)) (rx_one (rx_call c_are_latencies hr (by decide) (by rfl) (ra_cons (rv 3) ra_nil)))))))))
theorem ok_is_within_limits {f : Addr} {fd : FuncData} (T : Txt w K mg cl) (F : L2.Fun K "is_within_limits" "is_within_limits" s_is_within_limits f fd)  : FnOk P w K mg base CX0 1 f fd ["machine"] (SpF K cl 1 f_is_within_limits) :=
  fn_ok (N := N_is_within_limits) F sc_is_within_limits rfl fun cdv A outer s H E hr =>
    (rss_cons (rs_asg (rv 0) (rg_seq (n := 3) rfl (rgs_cons (rg_name (i := 1) sc_is_within_limits.nd rfl (by first | exact Or.inl rfl | exact Or.inr rfl)) (rgs_cons (rg_name (i := 2) sc_is_within_limits.nd rfl (by first | exact Or.inl rfl | exact Or.inr rfl)) (rgs_cons (rg_name (i := 3) sc_is_within_limits.nd rfl (by first | exact Or.inl rfl | exact Or.inr rfl)) rgs_nil)))))
      (rss_cons (rs_if (rt_w (rw_or (rt_cmp ox_lt (rv 1) rx_int (nomark _)) (rw_or (rt_cmp ox_gt (rv 1) (rx_gint T.g_REGISTERS (by rfl)) (nomark _)) (rw_or1 (rt_cmp ox_gt (rx_callB (id := "len") cx_len (by rfl) T.z_len (by decide +kernel) (ra_cons (rv 2) ra_nil)) (rx_gint T.g_MOST_SLOTS (by rfl)) (nomark _)))))) (rss_one (rs_ret rx_bl)) rss_nil)
      (rss_one (rs_ret (rx_callB (id := "all") (cx_all rfl) (by rfl) T.z_all (by decide +kernel) (ra_cons (rx_lcP (own := [("kind", 4), ("latency", 5)]) (g := (pTp 2 (pCons (pNm 4) (pCons (pNm 5) pNil)))) (pat_tp (n := 2) (pats_cons (pat_nm (by decide)) (pats_cons (pat_nm (by decide)) pats_nil))) rfl sc_is_within_limits.nd (ri_any (rv 3)) (blkOk_by (own := [("kind", 4), ("latency", 5)]) (N := N_is_within_limits) (sc := defScope s_is_within_limits) (by decide +kernel)) (fun _ _ _ _ _ => (pg_tup (n := 2) rfl (pgs_cons (pgn 4 sc_is_within_limits.nd) (pgs_cons (pgn 5 sc_is_within_limits.nd) pgs_nil)))) (fun _ _ _ _ _ => rts_nil) (fun _ _ _ _ _ => (rx_chain ox_le ox_le rx_int (rv 5) (rx_gint T.g_MOST_LATENCY (by rfl))))) ra_nil))))))
theorem ok_is_machine {f : Addr} {fd : FuncData} (T : Txt w K mg cl) (F : L2.Fun K "is_machine" "is_machine" s_is_machine f fd) (c_has_machine_form : C8.Cal P w K mg base 4 "has_machine_form" (SpF K cl 1 f_has_machine_form) []) (c_is_within_limits : C8.Cal P w K mg base 1 "is_within_limits" (SpF K cl 1 f_is_within_limits) []) : FnOk P w K mg base CX0 5 f fd ["machine"] (SpF K cl 1 f_is_machine) :=
  fn_ok (N := N_is_machine) F sc_is_machine rfl fun cdv A outer s H E hr =>
    (rss_one (rs_ret (rx_and (rx_call c_has_machine_form hr (by decide) (by rfl) (ra_cons (rv 0) ra_nil)) (rx_one (rx_call c_is_within_limits hr (by decide) (by rfl) (ra_cons (rv 0) ra_nil))))))
theorem ok_law_fill {f : Addr} {fd : FuncData} (T : Txt w K mg cl) (F : L2.Fun K "_law_fill" "_law_fill" s_law_fill f fd)  : FnOk P w K mg base CX0 1 f fd ["c"] (SpF K cl 1 f_law_fill) :=
  fn_ok (N := N_law_fill) F sc_law_fill rfl fun cdv A outer s H E hr =>
    (rss_cons (rs_asg (rx_bin ox_add (rx_ix (hu_of hr) (rv 0) rx_int (fun _ _ => rfl)) rx_int) (rg_ix (hu_of hr) (rv 0) rx_int))
      (rss_cons (rs_set (i := 1) sc_law_fill.nd rfl (by first | exact Or.inl rfl | exact Or.inr rfl) (rx_bin ox_add (rx_bin ox_mul (rx_ix (hu_of hr) (rv 0) rx_int (fun _ _ => rfl)) rx_int) rx_int))
      (rss_cons (rs_if (rt_cmp ox_lt (rx_ix (hu_of hr) (rv 0) rx_int (fun _ _ => rfl)) (rx_callB (id := "len") cx_len (by rfl) T.z_len (by decide +kernel) (ra_cons (rx_ix (hu_of hr) (rv 0) rx_int (fun _ _ => rfl)) ra_nil)) (nomark _)) (rss_cons (rs_set (i := 1) sc_law_fill.nd rfl (by first | exact Or.inl rfl | exact Or.inr rfl) (rx_ix (hu_of hr) (rx_ix (hu_of hr) (rv 0) rx_int (fun _ _ => rfl)) (rx_ix (hu_of hr) (rv 0) rx_int (fun _ _ => rfl)) (fun _ _ => rfl)))
      (rss_cons (rs_asg (rx_bin ox_add (rx_ix (hu_of hr) (rv 0) rx_int (fun _ _ => rfl)) rx_int) (rg_ix (hu_of hr) (rv 0) rx_int))
      (rss_cons (rs_if (rt_cmp ox_lt (rv 1) rx_int (nomark _)) (rss_one (rs_set (i := 1) sc_law_fill.nd rfl (by first | exact Or.inl rfl | exact Or.inr rfl) (rx_bin ox_sub (rx_bin ox_sub rx_int rx_int) (rv 1)))) rss_nil)
      (rss_one (rs_if (rt_cmp ox_ge (rv 1) (rx_bin ox_pow rx_int rx_int) (nomark _)) (rss_one (rs_ret (rv 1))) rss_nil))))) rss_nil)
      (rss_cons (rs_if (rt_w (rw_and (rt_tru (rx_ix (hu_of hr) (rv 0) rx_int (fun _ _ => rfl))) (rw_and1 (rt_cmp ox_ge (rx_ix (hu_of hr) (rv 0) rx_int (fun _ _ => rfl)) (rx_callB (id := "len") cx_len (by rfl) T.z_len (by decide +kernel) (ra_cons (rx_ix (hu_of hr) (rv 0) rx_int (fun _ _ => rfl)) ra_nil)) (nomark _))))) (rss_one (rs_set (i := 1) sc_law_fill.nd rfl (by first | exact Or.inl rfl | exact Or.inr rfl) (rx_bin ox_add (rv 1) (rx_bin ox_mod (rx_callTy (id := "int") cx_int (by rfl) T.z_int (by decide +kernel) (ra_cons (rx_ix (hu_of hr) (rx_ix (hu_of hr) (rv 0) rx_int (fun _ _ => rfl)) (rx_un ox_neg rx_int) (fun _ _ => rfl)) ra_nil)) rx_int)))) rss_nil)
      (rss_cons (rs_set (i := 1) sc_law_fill.nd rfl (by first | exact Or.inl rfl | exact Or.inr rfl) (rx_bin ox_mod (rx_callTy (id := "int") cx_int (by rfl) T.z_int (by decide +kernel) (ra_cons (rx_bin ox_add (rx_bin ox_mul (rv 1) rx_int) (rx_bin ox_mul (rx_ix (hu_of hr) (rv 0) rx_int (fun _ _ => rfl)) rx_int)) ra_nil)) rx_int))
      (rss_one (rs_ret (rx_bin ox_add (rx_bin ox_mod (rx_callTy (id := "int") cx_int (by rfl) T.z_int (by decide +kernel) (ra_cons (rx_bin ox_add (rx_bin ox_add (rx_bin ox_mul (rv 1) (rv 1)) (rx_bin ox_mul (rx_ix (hu_of hr) (rv 0) rx_int (fun _ _ => rfl)) rx_int)) rx_int) ra_nil)) rx_int) rx_int))))))))
theorem ok_law_take {f : Addr} {fd : FuncData} (T : Txt w K mg cl) (F : L2.Fun K "_law_take" "_law_take" s_law_take f fd) (c_law_fill : C8.Cal P w K mg base 1 "_law_fill" (SpF K cl 1 f_law_fill) []) : FnOk P w K mg base CX0 2 f fd ["c", "many"] (SpF K cl 2 f_law_take) :=
  fn_ok (N := N_law_take) F sc_law_take rfl fun cdv A outer s H E hr =>
    (rss_cons (rs_if (rt_cmp ox_lt (rx_ix (hu_of hr) (rv 0) rx_int (fun _ _ => rfl)) (rv 1) (nomark _)) (rss_one (rs_asg (rx_call c_law_fill hr (by decide) (by rfl) (ra_cons (rv 0) ra_nil)) (rg_ix (hu_of hr) (rv 0) rx_int))) rss_nil)
      (rss_cons (rs_set (i := 2) sc_law_take.nd rfl (by first | exact Or.inl rfl | exact Or.inr rfl) (rx_bin ox_mod (rx_callTy (id := "int") cx_int (by rfl) T.z_int (by decide +kernel) (ra_cons (rx_ix (hu_of hr) (rv 0) rx_int (fun _ _ => rfl)) ra_nil)) (rv 1)))
      (rss_cons (rs_asg (rx_bin ox_div (rx_ix (hu_of hr) (rv 0) rx_int (fun _ _ => rfl)) (rv 1)) (rg_ix (hu_of hr) (rv 0) rx_int))
      (rss_one (rs_ret (rv 2))))))
theorem ok_law_other {f : Addr} {fd : FuncData} (T : Txt w K mg cl) (F : L2.Fun K "_law_other" "_law_other" s_law_other f fd) (c_law_take : C8.Cal P w K mg base 2 "_law_take" (SpF K cl 2 f_law_take) []) : FnOk P w K mg base CX0 3 f fd ["c", "machine"] (SpF K cl 2 f_law_other) :=
  fn_ok (N := N_law_other) F sc_law_other rfl fun cdv A outer s H E hr =>
    (rss_cons (rs_set (i := 2) sc_law_other.nd rfl (by first | exact Or.inl rfl | exact Or.inr rfl) (rx_call c_law_take hr (by decide) (by rfl) (ra_cons (rv 0) (ra_cons rx_int ra_nil))))
      (rss_cons (rs_asg (rv 1) (rg_seq (n := 3) rfl (rgs_cons (rg_name (i := 6) sc_law_other.nd rfl (by first | exact Or.inl rfl | exact Or.inr rfl)) (rgs_cons (rg_name (i := 7) sc_law_other.nd rfl (by first | exact Or.inl rfl | exact Or.inr rfl)) (rgs_cons (rg_name (i := 8) sc_law_other.nd rfl (by first | exact Or.inl rfl | exact Or.inr rfl)) rgs_nil)))))
      (rss_cons (rs_set (i := 3) sc_law_other.nd rfl (by first | exact Or.inl rfl | exact Or.inr rfl) (rx_call c_law_take hr (by decide) (by rfl) (ra_cons (rv 0) (ra_cons (rx_callB (id := "len") cx_len (by rfl) T.z_len (by decide +kernel) (ra_cons (rv 7) ra_nil)) ra_nil))))
      (rss_cons (rs_set (i := 4) sc_law_other.nd rfl (by first | exact Or.inl rfl | exact Or.inr rfl) (rx_ix (hu_of hr) (rv 7) (rv 3) (fun _ _ => rfl)))
      (rss_cons (rs_if (rt_cmp (ox_eq hr.units) (rv 2) rx_int (nomark _)) (rss_one (rs_ret (rx_tup (ra_cons (rx_ix (hu_of hr) (rx_lst (ra_cons rx_int (ra_cons rx_int (ra_cons rx_int (ra_cons (rx_bin ox_sub rx_int rx_int) ra_nil))))) (rx_call c_law_take hr (by decide) (by rfl) (ra_cons (rv 0) (ra_cons rx_int ra_nil))) (fun _ _ => rfl)) (ra_cons (rv 7) (ra_cons (rv 8) ra_nil)))))) rss_nil)
      (rss_cons (rs_if (rt_cmp (ox_eq hr.units) (rv 2) rx_int (nomark _)) (rss_one (rs_ret (rx_tup (ra_cons (rv 6) (ra_cons (rx_bin ox_add (rx_bin ox_add (rx_sl (rv 7) ro_none (ro_some (rv 3))) (rx_tup (ra_cons (rx_bin ox_add (rv 4) (rx_sl (rv 4) (ro_some (rx_un ox_neg rx_int)) ro_none)) ra_nil))) (rx_sl (rv 7) (ro_some (rx_bin ox_add (rv 3) rx_int)) ro_none)) (ra_cons (rv 8) ra_nil)))))) rss_nil)
      (rss_cons (rs_if (rt_cmp (ox_eq hr.units) (rv 2) rx_int (nomark _)) (rss_one (rs_ret (rx_tup (ra_cons (rv 6) (ra_cons (rx_bin ox_add (rx_bin ox_add (rx_sl (rv 7) ro_none (ro_some (rv 3))) (rx_tup (ra_cons (rx_rev (rv 4)) ra_nil))) (rx_sl (rv 7) (ro_some (rx_bin ox_add (rv 3) rx_int)) ro_none)) (ra_cons (rv 8) ra_nil)))))) rss_nil)
      (rss_cons (rs_if (rt_cmp (ox_eq hr.units) (rv 2) rx_int (nomark _)) (rss_one (rs_ret (rx_tup (ra_cons (rv 6) (ra_cons (rx_bin ox_add (rx_bin ox_add (rx_sl (rv 7) ro_none (ro_some (rv 3))) (rx_tup (ra_cons (rx_sl (rv 4) (ro_some rx_int) ro_none) ra_nil))) (rx_sl (rv 7) (ro_some (rx_bin ox_add (rv 3) rx_int)) ro_none)) (ra_cons (rv 8) ra_nil)))))) rss_nil)
      (rss_cons (rs_if (rt_cmp (ox_eq hr.units) (rv 2) rx_int (nomark _)) (rss_one (rs_ret (rx_tup (ra_cons (rv 6) (ra_cons (rx_sl (rx_bin ox_add (rv 7) (rx_bin ox_tmul (rx_tup (ra_cons (rx_tup ra_nil) ra_nil)) rx_int)) ro_none (ro_some (rx_bin ox_add rx_int (rx_call c_law_take hr (by decide) (by rfl) (ra_cons (rv 0) (ra_cons rx_int ra_nil)))))) (ra_cons (rv 8) ra_nil)))))) rss_nil)
      (rss_cons (rs_set (i := 5) sc_law_other.nd rfl (by first | exact Or.inl rfl | exact Or.inr rfl) (rx_call c_law_take hr (by decide) (by rfl) (ra_cons (rv 0) (ra_cons rx_int ra_nil))))
      (rss_cons (rs_if (rt_cmp (ox_eq hr.units) (rv 2) rx_int (nomark _)) (rss_one (rs_ret (rx_tup (ra_cons (rv 6) (ra_cons (rv 7) (ra_cons (rx_bin ox_add (rx_bin ox_add (rx_sl (rv 8) ro_none (ro_some (rv 5))) (rx_tup (ra_cons (rx_tup (ra_cons (rx_ix (hu_of hr) (rx_ix (hu_of hr) (rv 8) (rv 5) (fun _ _ => rfl)) rx_int (fun _ _ => rfl)) (ra_cons (rx_ix (hu_of hr) (rx_lst (ra_cons rx_int (ra_cons rx_int (ra_cons rx_int ra_nil)))) (rx_call c_law_take hr (by decide) (by rfl) (ra_cons (rv 0) (ra_cons rx_int ra_nil))) (fun _ _ => rfl)) ra_nil))) ra_nil))) (rx_sl (rv 8) (ro_some (rx_bin ox_add (rv 5) rx_int)) ro_none)) ra_nil)))))) rss_nil)
      (rss_cons (rs_if (rt_cmp (ox_eq hr.units) (rv 2) rx_int (nomark _)) (rss_one (rs_ret (rx_tup (ra_cons (rv 6) (ra_cons (rv 7) (ra_cons (rx_ix (hu_of hr) (rx_lst (ra_cons (rx_rev (rv 8)) (ra_cons (rx_sl (rv 8) ro_none (ro_some (rv 5))) (ra_cons (rx_bin ox_add (rv 8) (rx_sl (rv 8) ro_none (ro_some rx_int))) ra_nil)))) (rx_call c_law_take hr (by decide) (by rfl) (ra_cons (rv 0) (ra_cons rx_int ra_nil))) (fun _ _ => rfl)) ra_nil)))))) rss_nil)
      (rss_one (rs_ret (rx_tup (ra_cons (rv 6) (ra_cons (rx_bin ox_add (rx_bin ox_add (rx_sl (rv 7) ro_none (ro_some (rv 3))) (rx_tup (ra_cons (rx_bin ox_add (rv 4) (rx_tup (ra_cons rx_str ra_nil))) ra_nil))) (rx_sl (rv 7) (ro_some (rx_bin ox_add (rv 3) rx_int)) ro_none)) (ra_cons (rv 8) ra_nil))))))))))))))))))
theorem ok_law_high {f : Addr} {fd : FuncData} (T : Txt w K mg cl) (F : L2.Fun K "_law_high" "_law_high" s_law_high f fd)  : FnOk P w K mg base CX0 1 f fd ["value"] (SpF K cl 1 f_law_high) :=
  fn_ok (N := N_law_high) F sc_law_high rfl fun cdv A outer s H E hr =>
    (rss_cons (rs_set (i := 1) sc_law_high.nd rfl (by first | exact Or.inl rfl | exact Or.inr rfl) (rx_lst (ra_cons (rv 0) ra_nil)))
      (rss_cons (rs_set (i := 2) sc_law_high.nd rfl (by first | exact Or.inl rfl | exact Or.inr rfl) rx_int)
      (rss_cons (rs_set (i := 3) sc_law_high.nd rfl (by first | exact Or.inl rfl | exact Or.inr rfl) rx_int)
      (rss_cons (rs_while (n := 1000000) PassesOwn.never (rt_w (rw_and (rt_tru (rv 1)) (rw_and1 (rt_cmp ox_lt (rv 3) rx_int (nomark _))))) (rss_cons (rs_set (i := 2) sc_law_high.nd rfl (by first | exact Or.inl rfl | exact Or.inr rfl) (rx_bin ox_add (rv 2) rx_int))
      (rss_cons (rs_set (i := 3) sc_law_high.nd rfl (by first | exact Or.inl rfl | exact Or.inr rfl) (rx_bin ox_add (rv 3) (rx_callB (id := "len") cx_len (by rfl) T.z_len (by decide +kernel) (ra_cons (rv 1) ra_nil))))
      (rss_cons (rs_set (i := 4) sc_law_high.nd rfl (by first | exact Or.inl rfl | exact Or.inr rfl) (rx_lst ra_nil))
      (rss_cons (rs_for PassesOwn.never rfl (ri_any (rv 1)) (rg_name (i := 5) sc_law_high.nd rfl (by first | exact Or.inl rfl | exact Or.inr rfl)) (rss_one (rs_if (rt_tru (rx_isinst (T := "tuple") (by rfl) T.z_isinstance (by rfl) T.z_tuple (by decide +kernel) (rv 5))) (rss_one (rs_expr (rx_extendA (rv 4) (rv 5)))) rss_nil)))
      (rss_one (rs_set (i := 1) sc_law_high.nd rfl (by first | exact Or.inl rfl | exact Or.inr rfl) (rv 4))))))))
      (rss_cons (rs_if (rt_tru (rv 1)) (rss_one (rs_ret rx_int)) rss_nil)
      (rss_one (rs_ret (rv 2))))))))
theorem okr_law_changed {f : Addr} {fd : FuncData} (T : Txt w K mg cl) (F : L2.Fun K "_law_changed" "_law_changed" s_law_changed f fd) (hm : mg "_law_changed" = some (.ref f)) (bi : Binds K fd ["value", "box", "other"] [])  : ∀ n : Nat, FnOk P w K mg base CX0 (1 + n) f fd ["value", "box", "other"] (SpF K cl 3 (f_law_changed_ n))
  | 0 => ⟨fun vs H Q E h => (by obtain ⟨_, _, _, _, _, _, _, h, _⟩ := h; cases h), fun A outer s H args us vs Q E _ _ _ _ h => (by obtain ⟨_, _, _, _, _, _, _, h, _⟩ := h; cases h)⟩
  | n + 1 => fn_ok (N := N_law_changed) F sc_law_changed rfl fun cdv A outer s H E hr =>
    have c_law_changed : C8.Cal P w K mg base (1 + n) "_law_changed" (SpF K cl 3 (f_law_changed_ n)) [] := cal_of (okr_law_changed T F hm bi  n) hm F.kp bi
    have lee : 1 + n ≤ 1 + n := Nat.le_refl _
    (rss_cons (rs_asg (rx_bin ox_sub (rx_ix (hu_of hr) (rv 1) rx_int (fun _ _ => rfl)) rx_int) (rg_ix (hu_of hr) (rv 1) rx_int))
      (rss_cons (rs_if (rt_cmp (ox_eq hr.units) (rx_ix (hu_of hr) (rv 1) rx_int (fun _ _ => rfl)) rx_int (nomark _)) (rss_one (rs_ret (rv 2))) rss_nil)
      (rss_cons (rs_if (rt_not (rt_tru (rx_isinst (T := "tuple") (by rfl) T.z_isinstance (by rfl) T.z_tuple (by decide +kernel) (rv 0)))) (rss_one (rs_ret (rv 0))) rss_nil)
      (rss_one (rs_ret (rx_callTy (id := "tuple") cx_tuple (by rfl) T.z_tuple (by decide +kernel) (ra_cons (rx_lcP (own := [("part", 3)]) (g := (pNm 3)) (pat_nm (by decide)) rfl sc_law_changed.nd (ri_any (rv 0)) (blkOk_by (own := [("part", 3)]) (N := N_law_changed) (sc := defScope s_law_changed) (by decide +kernel)) (fun _ _ _ _ _ => (pgn 3 sc_law_changed.nd)) (fun _ _ _ _ _ => rts_nil) (fun _ _ _ _ _ => (rx_call c_law_changed hr lee (by rfl) (ra_cons (rv 3) (ra_cons (rv 1) (ra_cons (rv 2) ra_nil)))))) ra_nil)))))))
theorem okr_law_nodes_of {f : Addr} {fd : FuncData} (T : Txt w K mg cl) (F : L2.Fun K "_law_nodes_of" "_law_nodes_of" s_law_nodes_of f fd) (hm : mg "_law_nodes_of" = some (.ref f)) (bi : Binds K fd ["value", "found"] [])  : ∀ n : Nat, FnOk P w K mg base CX0 (1 + n) f fd ["value", "found"] (SpF K cl 2 (f_law_nodes_of_ n))
  | 0 => ⟨fun vs H Q E h => (by obtain ⟨_, _, _, _, _, _, _, h, _⟩ := h; cases h), fun A outer s H args us vs Q E _ _ _ _ h => (by obtain ⟨_, _, _, _, _, _, _, h, _⟩ := h; cases h)⟩
  | n + 1 => fn_ok (N := N_law_nodes_of) F sc_law_nodes_of rfl fun cdv A outer s H E hr =>
    have c_law_nodes_of : C8.Cal P w K mg base (1 + n) "_law_nodes_of" (SpF K cl 2 (f_law_nodes_of_ n)) [] := cal_of (okr_law_nodes_of T F hm bi  n) hm F.kp bi
    have lee : 1 + n ≤ 1 + n := Nat.le_refl _
    (rss_cons (rs_if (rt_cmp ox_lt (rx_callB (id := "len") cx_len (by rfl) T.z_len (by decide +kernel) (ra_cons (rv 1) ra_nil)) rx_int (nomark _)) (rss_one (rs_expr (rx_append (rv 1) (rv 0)))) rss_nil)
      (rss_cons (rs_if (rt_tru (rx_isinst (T := "tuple") (by rfl) T.z_isinstance (by rfl) T.z_tuple (by decide +kernel) (rv 0))) (rss_one (rs_for PassesOwn.never rfl (ri_any (rv 0)) (rg_name (i := 2) sc_law_nodes_of.nd rfl (by first | exact Or.inl rfl | exact Or.inr rfl)) (rss_one (rs_expr (rx_call c_law_nodes_of hr lee (by rfl) (ra_cons (rv 2) (ra_cons (rv 1) ra_nil))))))) rss_nil)
      (rss_one (rs_ret (rv 1)))))
theorem ok_law_spoilt {f : Addr} {fd : FuncData} (T : Txt w K mg cl) (F : L2.Fun K "_law_spoilt" "_law_spoilt" s_law_spoilt f fd) (c_law_high : C8.Cal P w K mg base 1 "_law_high" (SpF K cl 1 f_law_high) []) (c_law_changed : C8.Cal P w K mg base 21 "_law_changed" (SpF K cl 3 f_law_changed) []) (c_law_take : C8.Cal P w K mg base 2 "_law_take" (SpF K cl 2 f_law_take) []) (c_law_nodes_of : C8.Cal P w K mg base 21 "_law_nodes_of" (SpF K cl 2 f_law_nodes_of) []) : FnOk P w K mg base CX0 22 f fd ["c", "value"] (SpF K cl 2 f_law_spoilt) :=
  fn_ok (N := N_law_spoilt) F sc_law_spoilt rfl fun cdv A outer s H E hr =>
    (rss_cons (rs_set (i := 2) sc_law_spoilt.nd rfl (by first | exact Or.inl rfl | exact Or.inr rfl) (rx_call c_law_nodes_of hr (by decide) (by rfl) (ra_cons (rv 1) (ra_cons (rx_lst ra_nil) ra_nil))))
      (rss_cons (rs_set (i := 3) sc_law_spoilt.nd rfl (by first | exact Or.inl rfl | exact Or.inr rfl) (rx_call c_law_take hr (by decide) (by rfl) (ra_cons (rv 0) (ra_cons (rx_callB (id := "len") cx_len (by rfl) T.z_len (by decide +kernel) (ra_cons (rv 2) ra_nil)) ra_nil))))
      (rss_cons (rs_set (i := 4) sc_law_spoilt.nd rfl (by first | exact Or.inl rfl | exact Or.inr rfl) (rx_ix (hu_of hr) (rv 2) (rv 3) (fun _ _ => rfl)))
      (rss_cons (rs_set (i := 5) sc_law_spoilt.nd rfl (by first | exact Or.inl rfl | exact Or.inr rfl) (rx_ix (hu_of hr) (rx_lst (ra_cons (rx_ix (hu_of hr) (rv 2) (rx_call c_law_take hr (by decide) (by rfl) (ra_cons (rv 0) (ra_cons (rx_callB (id := "len") cx_len (by rfl) T.z_len (by decide +kernel) (ra_cons (rv 2) ra_nil)) ra_nil))) (fun _ _ => rfl)) (ra_cons (rx_ix (hu_of hr) (rv 2) (rx_call c_law_take hr (by decide) (by rfl) (ra_cons (rv 0) (ra_cons (rx_callB (id := "len") cx_len (by rfl) T.z_len (by decide +kernel) (ra_cons (rv 2) ra_nil)) ra_nil))) (fun _ _ => rfl)) (ra_cons rx_non (ra_cons rx_int (ra_cons rx_int (ra_cons (rx_tup ra_nil) (ra_cons (rx_tup (ra_cons (rx_tup ra_nil) (ra_cons rx_int ra_nil))) (ra_cons (rx_tup (ra_cons rx_int (ra_cons (rx_tup (ra_cons (rx_tup ra_nil) (ra_cons rx_int ra_nil))) ra_nil))) (ra_cons rx_bl ra_nil)))))))))) (rx_call c_law_take hr (by decide) (by rfl) (ra_cons (rv 0) (ra_cons rx_int ra_nil))) (fun _ _ => rfl)))
      (rss_cons (rs_if (rt_w (rw_and (rt_tru (rx_isinst (T := "tuple") (by rfl) T.z_isinstance (by rfl) T.z_tuple (by decide +kernel) (rv 4))) (rw_and1 (rt_cmp (ox_eq hr.units) (rx_call c_law_take hr (by decide) (by rfl) (ra_cons (rv 0) (ra_cons rx_int ra_nil))) rx_int (nomark _))))) (rss_one (rs_set (i := 5) sc_law_spoilt.nd rfl (by first | exact Or.inl rfl | exact Or.inr rfl) (rx_ix (hu_of hr) (rx_lst (ra_cons (rx_sl (rv 4) (ro_some rx_int) ro_none) (ra_cons (rx_bin ox_add (rv 4) (rx_sl (rv 4) (ro_some (rx_un ox_neg rx_int)) ro_none)) (ra_cons (rx_rev (rv 4)) (ra_cons (rx_sl (rv 4) ro_none (ro_some (rx_un ox_neg rx_int))) ra_nil))))) (rx_call c_law_take hr (by decide) (by rfl) (ra_cons (rv 0) (ra_cons rx_int ra_nil))) (fun _ _ => rfl)))) rss_nil)
      (rss_cons (rs_set (i := 6) sc_law_spoilt.nd rfl (by first | exact Or.inl rfl | exact Or.inr rfl) (rx_call c_law_changed hr (by decide) (by rfl) (ra_cons (rv 1) (ra_cons (rx_lst (ra_cons (rx_bin ox_add (rv 3) rx_int) ra_nil)) (ra_cons (rv 5) ra_nil)))))
      (rss_cons (rs_if (rt_cmp ox_gt (rx_call c_law_high hr (by decide) (by rfl) (ra_cons (rv 6) ra_nil)) rx_int (nomark _)) (rss_one (rs_ret (rv 1))) rss_nil)
      (rss_one (rs_ret (rv 6))))))))))
theorem ok_law_machine {f : Addr} {fd : FuncData} (T : Txt w K mg cl) (F : L2.Fun K "_law_machine" "_law_machine" s_law_machine f fd) (c_law_kinds : C8.Cal P w K mg base 1 "_law_kinds" (SpF K cl 0 f_law_kinds) []) (c_law_take : C8.Cal P w K mg base 2 "_law_take" (SpF K cl 2 f_law_take) []) : FnOk P w K mg base CX0 3 f fd ["c", "registers"] (SpF K cl 2 f_law_machine) :=
  fn_ok (N := N_law_machine) F sc_law_machine rfl fun cdv A outer s H E hr =>
    (rss_cons (rs_set (i := 2) sc_law_machine.nd rfl (by first | exact Or.inl rfl | exact Or.inr rfl) (rx_bin ox_add rx_int (rx_call c_law_take hr (by decide) (by rfl) (ra_cons (rv 0) (ra_cons (rx_ix (hu_of hr) (rx_lst (ra_cons rx_int (ra_cons rx_int ra_nil))) (rx_call c_law_take hr (by decide) (by rfl) (ra_cons (rv 0) (ra_cons rx_int ra_nil))) (fun _ _ => rfl)) ra_nil)))))
      (rss_cons (rs_setLcP (j := 3) (own := [("k", 8)]) (g := (pNm 8)) (pat_nm (by decide)) rfl sc_law_machine.nd rfl rfl (sw_true rfl rfl rfl (by decide +kernel)) (ri_range1 (by rfl) T.z_range (rv 2)) (blkOk_by (own := [("k", 8)]) (N := N_law_machine) (sc := defScope s_law_machine) (by decide +kernel)) (fun _ _ _ _ _ => (pgn 8 sc_law_machine.nd)) (fun _ _ _ _ _ => rts_nil) (fun _ _ _ _ _ => (rx_lst ra_nil)))
      (rss_cons (rs_set (i := 4) sc_law_machine.nd rfl (by first | exact Or.inl rfl | exact Or.inr rfl) (rx_call c_law_take hr (by decide) (by rfl) (ra_cons (rv 0) (ra_cons rx_int ra_nil))))
      (rss_cons (rs_for PassesOwn.never rfl (ri_any (rx_call0 c_law_kinds hr (by first | decide | omega) (by rfl))) (rg_name (i := 5) sc_law_machine.nd rfl (by first | exact Or.inl rfl | exact Or.inr rfl)) (rss_cons (rs_for PassesOwn.never rfl (ri_range1 (by rfl) T.z_range (rv 2)) (rg_name (i := 8) sc_law_machine.nd rfl (by first | exact Or.inl rfl | exact Or.inr rfl)) (rss_one (rs_if (rt_cmp ox_lt (rx_call c_law_take hr (by decide) (by rfl) (ra_cons (rv 0) (ra_cons rx_int ra_nil))) (rx_bin ox_add (rv 4) (rx_callTy (id := "int") cx_int (by rfl) T.z_int (by decide +kernel) (ra_cons (rx_cmp (ox_eq hr.units) (rv 8) rx_int (nomark _)) ra_nil))) (nomark _)) (rss_one (rs_asg (rx_bin ox_add (rx_ix (hu_of hr) (rv 3) (rv 8) (fun _ _ => rfl)) (rx_lst (ra_cons (rv 5) ra_nil))) (rg_ix (hu_of hr) (rv 3) (rv 8)))) rss_nil)))
      (rss_one (rs_if (rt_not (rt_tru (rx_callB (id := "any") (cx_any rfl) (by rfl) T.z_any (by decide +kernel) (ra_cons (rx_lcP (own := [("slot", 9)]) (g := (pNm 9)) (pat_nm (by decide)) rfl sc_law_machine.nd (ri_any (rv 3)) (blkOk_by (own := [("slot", 9)]) (N := N_law_machine) (sc := defScope s_law_machine) (by decide +kernel)) (fun _ _ _ _ _ => (pgn 9 sc_law_machine.nd)) (fun _ _ _ _ _ => rts_nil) (fun _ _ _ _ _ => (rx_cmp ox_in (rv 5) (rv 9) (by rfl)))) ra_nil)))) (rss_cons (rs_set (i := 8) sc_law_machine.nd rfl (by first | exact Or.inl rfl | exact Or.inr rfl) (rx_call c_law_take hr (by decide) (by rfl) (ra_cons (rv 0) (ra_cons (rv 2) ra_nil))))
      (rss_one (rs_asg (rx_bin ox_add (rx_ix (hu_of hr) (rv 3) (rv 8) (fun _ _ => rfl)) (rx_lst (ra_cons (rv 5) ra_nil))) (rg_ix (hu_of hr) (rv 3) (rv 8))))) rss_nil))))
      (rss_cons (rs_set (i := 6) sc_law_machine.nd rfl (by first | exact Or.inl rfl | exact Or.inr rfl) (rx_ix (hu_of hr) (rx_lst (ra_cons rx_int (ra_cons rx_int (ra_cons rx_int (ra_cons rx_int ra_nil))))) (rx_call c_law_take hr (by decide) (by rfl) (ra_cons (rv 0) (ra_cons rx_int ra_nil))) (fun _ _ => rfl)))
      (rss_cons (rs_set (i := 7) sc_law_machine.nd rfl (by first | exact Or.inl rfl | exact Or.inr rfl) (rx_callTy (id := "tuple") cx_tuple (by rfl) T.z_tuple (by decide +kernel) (ra_cons (rx_lcP (own := [("kind", 5)]) (g := (pNm 5)) (pat_nm (by decide)) rfl sc_law_machine.nd (ri_any (rx_call0 c_law_kinds hr (by first | decide | omega) (by rfl))) (blkOk_by (own := [("kind", 5)]) (N := N_law_machine) (sc := defScope s_law_machine) (by decide +kernel)) (fun _ _ _ _ _ => (pgn 5 sc_law_machine.nd)) (fun _ _ _ _ _ => rts_nil) (fun _ _ _ _ _ => (rx_tup (ra_cons (rv 5) (ra_cons (rx_bin ox_add rx_int (rx_call c_law_take hr (by decide) (by rfl) (ra_cons (rv 0) (ra_cons (rv 6) ra_nil)))) ra_nil))))) ra_nil)))
      (rss_one (rs_ret (rx_tup (ra_cons (rv 1) (ra_cons (rx_callTy (id := "tuple") cx_tuple (by rfl) T.z_tuple (by decide +kernel) (ra_cons (rx_lcP (own := [("slot", 9)]) (g := (pNm 9)) (pat_nm (by decide)) rfl sc_law_machine.nd (ri_any (rv 3)) (blkOk_by (own := [("slot", 9)]) (N := N_law_machine) (sc := defScope s_law_machine) (by decide +kernel)) (fun _ _ _ _ _ => (pgn 9 sc_law_machine.nd)) (fun _ _ _ _ _ => rts_nil) (fun _ _ _ _ _ => (rx_callTy (id := "tuple") cx_tuple (by rfl) T.z_tuple (by decide +kernel) (ra_cons (rv 9) ra_nil)))) ra_nil)) (ra_cons (rv 7) ra_nil))))))))))))
theorem ok_law {f : Addr} {fd : FuncData} (T : Txt w K mg cl) (F : L2.Fun K "law" "law" s_law f fd) (c_law_start : C8.Cal P w K mg base 1 "_law_start" (SpF K cl 1 f_law_start) []) (c_law_good : C8.Cal P w K mg base 2 "_law_good" (SpF K cl 1 f_law_good) []) (c_is_machine : C8.Cal P w K mg base 5 "is_machine" (SpF K cl 1 f_is_machine) []) (c_law_take : C8.Cal P w K mg base 2 "_law_take" (SpF K cl 2 f_law_take) []) (c_law_other : C8.Cal P w K mg base 3 "_law_other" (SpF K cl 2 f_law_other) []) (c_law_spoilt : C8.Cal P w K mg base 22 "_law_spoilt" (SpF K cl 2 f_law_spoilt) []) (c_law_machine : C8.Cal P w K mg base 3 "_law_machine" (SpF K cl 2 f_law_machine) []) : FnOk P w K mg base CX0 23 f fd ["script"] (SpF K cl 1 f_law) :=
  fn_ok (N := N_law) F sc_law rfl fun cdv A outer s H E hr =>
    (rss_cons (rs_set (i := 1) sc_law.nd rfl (by first | exact Or.inl rfl | exact Or.inr rfl) (rx_call c_law_start hr (by decide) (by rfl) (ra_cons (rv 0) ra_nil)))
      (rss_cons (rs_set (i := 2) sc_law.nd rfl (by first | exact Or.inl rfl | exact Or.inr rfl) (rx_call c_law_machine hr (by decide) (by rfl) (ra_cons (rv 1) (ra_cons (rx_bin ox_add rx_int (rx_call c_law_take hr (by decide) (by rfl) (ra_cons (rv 1) (ra_cons rx_int ra_nil)))) ra_nil))))
      (rss_cons (rs_if (rt_cmp ox_notB (rx_call c_is_machine hr (by decide) (by rfl) (ra_cons (rv 2) ra_nil)) rx_bl (nomark _)) (rss_one (rs_ret rx_bl)) rss_nil)
      (rss_cons (rs_for PassesOwn.never rfl (ri_range1 (by rfl) T.z_range rx_int) (rg_name (i := 3) sc_law.nd rfl (by first | exact Or.inl rfl | exact Or.inr rfl)) (rss_cons (rs_set (i := 4) sc_law.nd rfl (by first | exact Or.inl rfl | exact Or.inr rfl) (rv 2))
      (rss_cons (rs_if (rt_cmp (ox_eq hr.units) (rx_call c_law_take hr (by decide) (by rfl) (ra_cons (rv 1) (ra_cons rx_int ra_nil))) rx_int (nomark _)) (rss_one (rs_set (i := 4) sc_law.nd rfl (by first | exact Or.inl rfl | exact Or.inr rfl) (rx_call c_law_other hr (by decide) (by rfl) (ra_cons (rv 1) (ra_cons (rv 4) ra_nil))))) (rss_one (rs_for PassesOwn.never rfl (ri_range1 (by rfl) T.z_range (rx_bin ox_add rx_int (rx_call c_law_take hr (by decide) (by rfl) (ra_cons (rv 1) (ra_cons rx_int ra_nil))))) (rg_name (i := 6) sc_law.nd rfl (by first | exact Or.inl rfl | exact Or.inr rfl)) (rss_one (rs_set (i := 4) sc_law.nd rfl (by first | exact Or.inl rfl | exact Or.inr rfl) (rx_call c_law_spoilt hr (by decide) (by rfl) (ra_cons (rv 1) (ra_cons (rv 4) ra_nil))))))))
      (rss_cons (rs_set (i := 5) sc_law.nd rfl (by first | exact Or.inl rfl | exact Or.inr rfl) (rx_call c_is_machine hr (by decide) (by rfl) (ra_cons (rv 4) ra_nil)))
      (rss_one (rs_if (rt_w (rw_or (rt_not (rt_tru (rx_isinst (T := "bool") (by rfl) T.z_isinstance (by rfl) T.z_bool (by decide +kernel) (rv 5)))) (rw_or1 (rt_cmp (ox_ne hr.units) (rv 5) (rx_call c_law_good hr (by decide) (by rfl) (ra_cons (rv 4) ra_nil)) (nomark _))))) (rss_one (rs_ret rx_bl)) rss_nil))))))
      (rss_one (rs_ret rx_bl))))))
end
theorem all_mk {l : PySem.W.OpenLaw} {w : World} {K : PySem.W.Frag} {h : Heap} {mg : PySem.Str → Option Value} {fa : Addr} (hF : ∀ ns : List Int, ns.length ≤ 63 → ∃ m, f_law [.ref 0] [.rol (ns.map PV.int)] = some (.bl true, m)) (X : K.In h) (G : h.Ns mainGlobals mg) (hfa : mg "law" = some (.ref fa))
    {f0 f1 f2 f3 f4 f5 f6 f7 f8 f9 f10 f11 f12 f13 f14 f15 f16 f17 f18 f19 f20 f21 f22 f23 : Addr}
    {od0 an0 od1 an1 od2 an2 od3 an3 od4 an4 od5 an5 od6 an6 od7 an7 od8 an8 od9 an9 od10 an10 od11 an11 od12 an12 od13 an13 od14 an14 od15 an15 od16 an16 od17 an17 od18 an18 od19 an19 od20 an20 od21 an21 od22 an22 od23 an23 : Option Addr} {sl0 sl1 sl2 sl3 sl4 sl5 sl6 sl7 sl8 sl9 sl10 sl11 sl12 sl13 sl14 sl15 sl16 sl17 sl18 sl19 sl20 sl21 sl22 sl23 : Array (Option Value)} {oc0 kV0 dc0 pm0 cd0 ct0 oc1 kV1 dc1 pm1 cd1 ct1 oc2 kV2 dc2 pm2 cd2 ct2 oc3 kV3 dc3 pm3 cd3 ct3 oc4 kV4 dc4 pm4 cd4 ct4 oc5 kV5 dc5 pm5 cd5 ct5 oc6 kV6 dc6 pm6 cd6 ct6 oc7 kV7 dc7 pm7 cd7 ct7 oc8 kV8 dc8 pm8 cd8 ct8 oc9 kV9 dc9 pm9 cd9 ct9 oc10 kV10 dc10 pm10 cd10 ct10 oc11 kV11 dc11 pm11 cd11 ct11 oc12 kV12 dc12 pm12 cd12 ct12 oc13 kV13 dc13 pm13 cd13 ct13 oc14 kV14 dc14 pm14 cd14 ct14 oc15 kV15 dc15 pm15 cd15 ct15 oc16 kV16 dc16 pm16 cd16 ct16 oc17 kV17 dc17 pm17 cd17 ct17 oc18 kV18 dc18 pm18 cd18 ct18 oc19 kV19 dc19 pm19 cd19 ct19 oc20 kV20 dc20 pm20 cd20 ct20 oc21 kV21 dc21 pm21 cd21 ct21 oc22 kV22 dc22 pm22 cd22 ct22 oc23 kV23 dc23 pm23 cd23 ct23 : Value}
    (a0 : PySem.W.nsIn K mainGlobals "_law_start" = some (some (.ref f0)))
    (l0 : K.lookup f0 = some ⟨oc0, od0, .func (PySem.W.fnOf "_law_start" "_law_start" (defArgs s_law_start) (defBody s_law_start) (defScope s_law_start) .none kV0 dc0 pm0 an0 cd0 ct0), sl0⟩)
    (c0 : PySem.W.codeIn K cd0 "_law_start" = true)
    (k0 : PySem.W.keepIn K (.ref f0) = true)
    (a1 : PySem.W.nsIn K mainGlobals "_law_kinds" = some (some (.ref f1)))
    (l1 : K.lookup f1 = some ⟨oc1, od1, .func (PySem.W.fnOf "_law_kinds" "_law_kinds" (defArgs s_law_kinds) (defBody s_law_kinds) (defScope s_law_kinds) .none kV1 dc1 pm1 an1 cd1 ct1), sl1⟩)
    (c1 : PySem.W.codeIn K cd1 "_law_kinds" = true)
    (k1 : PySem.W.keepIn K (.ref f1) = true)
    (a2 : PySem.W.nsIn K mainGlobals "_law_whole" = some (some (.ref f2)))
    (l2 : K.lookup f2 = some ⟨oc2, od2, .func (PySem.W.fnOf "_law_whole" "_law_whole" (defArgs s_law_whole) (defBody s_law_whole) (defScope s_law_whole) .none kV2 dc2 pm2 an2 cd2 ct2), sl2⟩)
    (c2 : PySem.W.codeIn K cd2 "_law_whole" = true)
    (k2 : PySem.W.keepIn K (.ref f2) = true)
    (a3 : PySem.W.nsIn K mainGlobals "_law_good" = some (some (.ref f3)))
    (l3 : K.lookup f3 = some ⟨oc3, od3, .func (PySem.W.fnOf "_law_good" "_law_good" (defArgs s_law_good) (defBody s_law_good) (defScope s_law_good) .none kV3 dc3 pm3 an3 cd3 ct3), sl3⟩)
    (c3 : PySem.W.codeIn K cd3 "_law_good" = true)
    (k3 : PySem.W.keepIn K (.ref f3) = true)
    (a4 : PySem.W.nsIn K mainGlobals "is_number" = some (some (.ref f4)))
    (l4 : K.lookup f4 = some ⟨oc4, od4, .func (PySem.W.fnOf "is_number" "is_number" (defArgs s_is_number) (defBody s_is_number) (defScope s_is_number) .none kV4 dc4 pm4 an4 cd4 ct4), sl4⟩)
    (c4 : PySem.W.codeIn K cd4 "is_number" = true)
    (k4 : PySem.W.keepIn K (.ref f4) = true)
    (a5 : PySem.W.nsIn K mainGlobals "is_kind" = some (some (.ref f5)))
    (l5 : K.lookup f5 = some ⟨oc5, od5, .func (PySem.W.fnOf "is_kind" "is_kind" (defArgs s_is_kind) (defBody s_is_kind) (defScope s_is_kind) .none kV5 dc5 pm5 an5 cd5 ct5), sl5⟩)
    (c5 : PySem.W.codeIn K cd5 "is_kind" = true)
    (k5 : PySem.W.keepIn K (.ref f5) = true)
    (a6 : PySem.W.nsIn K mainGlobals "are_kinds" = some (some (.ref f6)))
    (l6 : K.lookup f6 = some ⟨oc6, od6, .func (PySem.W.fnOf "are_kinds" "are_kinds" (defArgs s_are_kinds) (defBody s_are_kinds) (defScope s_are_kinds) .none kV6 dc6 pm6 an6 cd6 ct6), sl6⟩)
    (c6 : PySem.W.codeIn K cd6 "are_kinds" = true)
    (k6 : PySem.W.keepIn K (.ref f6) = true)
    (a7 : PySem.W.nsIn K mainGlobals "are_slots" = some (some (.ref f7)))
    (l7 : K.lookup f7 = some ⟨oc7, od7, .func (PySem.W.fnOf "are_slots" "are_slots" (defArgs s_are_slots) (defBody s_are_slots) (defScope s_are_slots) .none kV7 dc7 pm7 an7 cd7 ct7), sl7⟩)
    (c7 : PySem.W.codeIn K cd7 "are_slots" = true)
    (k7 : PySem.W.keepIn K (.ref f7) = true)
    (a8 : PySem.W.nsIn K mainGlobals "is_tuple" = some (some (.ref f8)))
    (l8 : K.lookup f8 = some ⟨oc8, od8, .func (PySem.W.fnOf "is_tuple" "is_tuple" (defArgs s_is_tuple) (defBody s_is_tuple) (defScope s_is_tuple) .none kV8 dc8 pm8 an8 cd8 ct8), sl8⟩)
    (c8 : PySem.W.codeIn K cd8 "is_tuple" = true)
    (k8 : PySem.W.keepIn K (.ref f8) = true)
    (a9 : PySem.W.nsIn K mainGlobals "is_word" = some (some (.ref f9)))
    (l9 : K.lookup f9 = some ⟨oc9, od9, .func (PySem.W.fnOf "is_word" "is_word" (defArgs s_is_word) (defBody s_is_word) (defScope s_is_word) .none kV9 dc9 pm9 an9 cd9 ct9), sl9⟩)
    (c9 : PySem.W.codeIn K cd9 "is_word" = true)
    (k9 : PySem.W.keepIn K (.ref f9) = true)
    (a10 : PySem.W.nsIn K mainGlobals "is_latency" = some (some (.ref f10)))
    (l10 : K.lookup f10 = some ⟨oc10, od10, .func (PySem.W.fnOf "is_latency" "is_latency" (defArgs s_is_latency) (defBody s_is_latency) (defScope s_is_latency) .none kV10 dc10 pm10 an10 cd10 ct10), sl10⟩)
    (c10 : PySem.W.codeIn K cd10 "is_latency" = true)
    (k10 : PySem.W.keepIn K (.ref f10) = true)
    (a11 : PySem.W.nsIn K mainGlobals "are_latencies" = some (some (.ref f11)))
    (l11 : K.lookup f11 = some ⟨oc11, od11, .func (PySem.W.fnOf "are_latencies" "are_latencies" (defArgs s_are_latencies) (defBody s_are_latencies) (defScope s_are_latencies) .none kV11 dc11 pm11 an11 cd11 ct11), sl11⟩)
    (c11 : PySem.W.codeIn K cd11 "are_latencies" = true)
    (k11 : PySem.W.keepIn K (.ref f11) = true)
    (a12 : PySem.W.nsIn K mainGlobals "has_machine_form" = some (some (.ref f12)))
    (l12 : K.lookup f12 = some ⟨oc12, od12, .func (PySem.W.fnOf "has_machine_form" "has_machine_form" (defArgs s_has_machine_form) (defBody s_has_machine_form) (defScope s_has_machine_form) .none kV12 dc12 pm12 an12 cd12 ct12), sl12⟩)
    (c12 : PySem.W.codeIn K cd12 "has_machine_form" = true)
    (k12 : PySem.W.keepIn K (.ref f12) = true)
    (a13 : PySem.W.nsIn K mainGlobals "is_within_limits" = some (some (.ref f13)))
    (l13 : K.lookup f13 = some ⟨oc13, od13, .func (PySem.W.fnOf "is_within_limits" "is_within_limits" (defArgs s_is_within_limits) (defBody s_is_within_limits) (defScope s_is_within_limits) .none kV13 dc13 pm13 an13 cd13 ct13), sl13⟩)
    (c13 : PySem.W.codeIn K cd13 "is_within_limits" = true)
    (k13 : PySem.W.keepIn K (.ref f13) = true)
    (a14 : PySem.W.nsIn K mainGlobals "is_machine" = some (some (.ref f14)))
    (l14 : K.lookup f14 = some ⟨oc14, od14, .func (PySem.W.fnOf "is_machine" "is_machine" (defArgs s_is_machine) (defBody s_is_machine) (defScope s_is_machine) .none kV14 dc14 pm14 an14 cd14 ct14), sl14⟩)
    (c14 : PySem.W.codeIn K cd14 "is_machine" = true)
    (k14 : PySem.W.keepIn K (.ref f14) = true)
    (a15 : PySem.W.nsIn K mainGlobals "_law_fill" = some (some (.ref f15)))
    (l15 : K.lookup f15 = some ⟨oc15, od15, .func (PySem.W.fnOf "_law_fill" "_law_fill" (defArgs s_law_fill) (defBody s_law_fill) (defScope s_law_fill) .none kV15 dc15 pm15 an15 cd15 ct15), sl15⟩)
    (c15 : PySem.W.codeIn K cd15 "_law_fill" = true)
    (k15 : PySem.W.keepIn K (.ref f15) = true)
    (a16 : PySem.W.nsIn K mainGlobals "_law_take" = some (some (.ref f16)))
    (l16 : K.lookup f16 = some ⟨oc16, od16, .func (PySem.W.fnOf "_law_take" "_law_take" (defArgs s_law_take) (defBody s_law_take) (defScope s_law_take) .none kV16 dc16 pm16 an16 cd16 ct16), sl16⟩)
    (c16 : PySem.W.codeIn K cd16 "_law_take" = true)
    (k16 : PySem.W.keepIn K (.ref f16) = true)
    (a17 : PySem.W.nsIn K mainGlobals "_law_other" = some (some (.ref f17)))
    (l17 : K.lookup f17 = some ⟨oc17, od17, .func (PySem.W.fnOf "_law_other" "_law_other" (defArgs s_law_other) (defBody s_law_other) (defScope s_law_other) .none kV17 dc17 pm17 an17 cd17 ct17), sl17⟩)
    (c17 : PySem.W.codeIn K cd17 "_law_other" = true)
    (k17 : PySem.W.keepIn K (.ref f17) = true)
    (a18 : PySem.W.nsIn K mainGlobals "_law_high" = some (some (.ref f18)))
    (l18 : K.lookup f18 = some ⟨oc18, od18, .func (PySem.W.fnOf "_law_high" "_law_high" (defArgs s_law_high) (defBody s_law_high) (defScope s_law_high) .none kV18 dc18 pm18 an18 cd18 ct18), sl18⟩)
    (c18 : PySem.W.codeIn K cd18 "_law_high" = true)
    (k18 : PySem.W.keepIn K (.ref f18) = true)
    (a19 : PySem.W.nsIn K mainGlobals "_law_changed" = some (some (.ref f19)))
    (l19 : K.lookup f19 = some ⟨oc19, od19, .func (PySem.W.fnOf "_law_changed" "_law_changed" (defArgs s_law_changed) (defBody s_law_changed) (defScope s_law_changed) .none kV19 dc19 pm19 an19 cd19 ct19), sl19⟩)
    (c19 : PySem.W.codeIn K cd19 "_law_changed" = true)
    (k19 : PySem.W.keepIn K (.ref f19) = true)
    (a20 : PySem.W.nsIn K mainGlobals "_law_nodes_of" = some (some (.ref f20)))
    (l20 : K.lookup f20 = some ⟨oc20, od20, .func (PySem.W.fnOf "_law_nodes_of" "_law_nodes_of" (defArgs s_law_nodes_of) (defBody s_law_nodes_of) (defScope s_law_nodes_of) .none kV20 dc20 pm20 an20 cd20 ct20), sl20⟩)
    (c20 : PySem.W.codeIn K cd20 "_law_nodes_of" = true)
    (k20 : PySem.W.keepIn K (.ref f20) = true)
    (a21 : PySem.W.nsIn K mainGlobals "_law_spoilt" = some (some (.ref f21)))
    (l21 : K.lookup f21 = some ⟨oc21, od21, .func (PySem.W.fnOf "_law_spoilt" "_law_spoilt" (defArgs s_law_spoilt) (defBody s_law_spoilt) (defScope s_law_spoilt) .none kV21 dc21 pm21 an21 cd21 ct21), sl21⟩)
    (c21 : PySem.W.codeIn K cd21 "_law_spoilt" = true)
    (k21 : PySem.W.keepIn K (.ref f21) = true)
    (a22 : PySem.W.nsIn K mainGlobals "_law_machine" = some (some (.ref f22)))
    (l22 : K.lookup f22 = some ⟨oc22, od22, .func (PySem.W.fnOf "_law_machine" "_law_machine" (defArgs s_law_machine) (defBody s_law_machine) (defScope s_law_machine) .none kV22 dc22 pm22 an22 cd22 ct22), sl22⟩)
    (c22 : PySem.W.codeIn K cd22 "_law_machine" = true)
    (k22 : PySem.W.keepIn K (.ref f22) = true)
    (a23 : PySem.W.nsIn K mainGlobals "law" = some (some (.ref f23)))
    (l23 : K.lookup f23 = some ⟨oc23, od23, .func (PySem.W.fnOf "law" "law" (defArgs s_law) (defBody s_law) (defScope s_law) .none kV23 dc23 pm23 an23 cd23 ct23), sl23⟩)
    (c23 : PySem.W.codeIn K cd23 "law" = true)
    (k23 : PySem.W.keepIn K (.ref f23) = true)
    {t_KINDS : Addr} (g_KINDS : PySem.W.nsIn K mainGlobals "KINDS" = some (some (.ref t_KINDS)))
    {its_KINDS : Array Value} {nn_KINDS : Nat} {sl_KINDS : Array (Option Value)} (w_KINDS : K.lookup t_KINDS = some ⟨.type "tuple", none, .seq its_KINDS nn_KINDS, sl_KINDS⟩)
    (e_KINDS : Vals ((["add", "and", "less", "load", "mul", "out", "store", "sub"] : List PySem.Str).map V.str) its_KINDS.toList)
    (s_KINDS : its_KINDS.size ≤ sizeLine)
    {tk_MOST_LATENCY : Tok} (g_MOST_LATENCY : PySem.W.nsIn K mainGlobals "MOST_LATENCY" = some (some (.int (9) tk_MOST_LATENCY)))
    {tk_MOST_SLOTS : Tok} (g_MOST_SLOTS : PySem.W.nsIn K mainGlobals "MOST_SLOTS" = some (some (.int (6) tk_MOST_SLOTS)))
    {tk_REGISTERS : Tok} (g_REGISTERS : PySem.W.nsIn K mainGlobals "REGISTERS" = some (some (.int (16) tk_REGISTERS)))
    (z_all : PySem.W.nsIn K mainGlobals "all" = some none)
    (z_any : PySem.W.nsIn K mainGlobals "any" = some none)
    (z_bool : PySem.W.nsIn K mainGlobals "bool" = some none)
    (z_int : PySem.W.nsIn K mainGlobals "int" = some none)
    (z_isinstance : PySem.W.nsIn K mainGlobals "isinstance" = some none)
    (z_len : PySem.W.nsIn K mainGlobals "len" = some none)
    (z_list : PySem.W.nsIn K mainGlobals "list" = some none)
    (z_range : PySem.W.nsIn K mainGlobals "range" = some none)
    (z_set : PySem.W.nsIn K mainGlobals "set" = some none)
    (z_sorted : PySem.W.nsIn K mainGlobals "sorted" = some none)
    (z_str : PySem.W.nsIn K mainGlobals "str" = some none)
    (z_tuple : PySem.W.nsIn K mainGlobals "tuple" = some none)
    (z_zip : PySem.W.nsIn K mainGlobals "zip" = some none)
    : ∃ fd : FuncData, (∀ (s : Shared) (v : Value), BindsTo s fd ⟨[v], []⟩ [("script", v)]) ∧ ∀ base : Heap, K.In base → base.Ns mainGlobals mg → FnOk l.prog w K mg base CX0 23 fa fd ["script"] (SpLaw K) := by
  have e := hfa.symm.trans (PySem.W.mg_of X G a23)
  cases e
  let cl : Nat → Addr := fun _ => 0
  have T : Txt w K mg cl := ⟨gtup_mk (PySem.W.mg_of X G g_KINDS) w_KINDS e_KINDS s_KINDS, ⟨_, PySem.W.mg_of X G g_MOST_LATENCY⟩, ⟨_, PySem.W.mg_of X G g_MOST_SLOTS⟩, ⟨_, PySem.W.mg_of X G g_REGISTERS⟩, PySem.W.mg_none_of X G z_all, PySem.W.mg_none_of X G z_any, PySem.W.mg_none_of X G z_bool, PySem.W.mg_none_of X G z_int, PySem.W.mg_none_of X G z_isinstance, PySem.W.mg_none_of X G z_len, PySem.W.mg_none_of X G z_list, PySem.W.mg_none_of X G z_range, PySem.W.mg_none_of X G z_set, PySem.W.mg_none_of X G z_sorted, PySem.W.mg_none_of X G z_str, PySem.W.mg_none_of X G z_tuple, PySem.W.mg_none_of X G z_zip⟩
  have F0 := L2.fun_mk (st := s_law_start) l0 c0 k0
  have b0 := F0.binds (ps := ["script"]) fun _ _ _ _ _ _ us hl => match us, hl with | [_], _ => rfl
  have F1 := L2.fun_mk (st := s_law_kinds) l1 c1 k1
  have b1 := F1.binds (ps := []) fun _ _ _ _ _ _ us hl => match us, hl with | [], _ => rfl
  have F2 := L2.fun_mk (st := s_law_whole) l2 c2 k2
  have b2 := F2.binds (ps := ["n"]) fun _ _ _ _ _ _ us hl => match us, hl with | [_], _ => rfl
  have F3 := L2.fun_mk (st := s_law_good) l3 c3 k3
  have b3 := F3.binds (ps := ["machine"]) fun _ _ _ _ _ _ us hl => match us, hl with | [_], _ => rfl
  have F4 := L2.fun_mk (st := s_is_number) l4 c4 k4
  have b4 := F4.binds (ps := ["value"]) fun _ _ _ _ _ _ us hl => match us, hl with | [_], _ => rfl
  have F5 := L2.fun_mk (st := s_is_kind) l5 c5 k5
  have b5 := F5.binds (ps := ["value"]) fun _ _ _ _ _ _ us hl => match us, hl with | [_], _ => rfl
  have F6 := L2.fun_mk (st := s_are_kinds) l6 c6 k6
  have b6 := F6.binds (ps := ["value"]) fun _ _ _ _ _ _ us hl => match us, hl with | [_], _ => rfl
  have F7 := L2.fun_mk (st := s_are_slots) l7 c7 k7
  have b7 := F7.binds (ps := ["slots"]) fun _ _ _ _ _ _ us hl => match us, hl with | [_], _ => rfl
  have F8 := L2.fun_mk (st := s_is_tuple) l8 c8 k8
  have b8 := F8.binds (ps := ["value", "size"]) fun _ _ _ _ _ _ us hl => match us, hl with | [_, _], _ => rfl
  have F9 := L2.fun_mk (st := s_is_word) l9 c9 k9
  have b9 := F9.binds (ps := ["value", "word"]) fun _ _ _ _ _ _ us hl => match us, hl with | [_, _], _ => rfl
  have F10 := L2.fun_mk (st := s_is_latency) l10 c10 k10
  have b10 := F10.binds (ps := ["pair", "kind"]) fun _ _ _ _ _ _ us hl => match us, hl with | [_, _], _ => rfl
  have F11 := L2.fun_mk (st := s_are_latencies) l11 c11 k11
  have b11 := F11.binds (ps := ["latencies"]) fun _ _ _ _ _ _ us hl => match us, hl with | [_], _ => rfl
  have F12 := L2.fun_mk (st := s_has_machine_form) l12 c12 k12
  have b12 := F12.binds (ps := ["machine"]) fun _ _ _ _ _ _ us hl => match us, hl with | [_], _ => rfl
  have F13 := L2.fun_mk (st := s_is_within_limits) l13 c13 k13
  have b13 := F13.binds (ps := ["machine"]) fun _ _ _ _ _ _ us hl => match us, hl with | [_], _ => rfl
  have F14 := L2.fun_mk (st := s_is_machine) l14 c14 k14
  have b14 := F14.binds (ps := ["machine"]) fun _ _ _ _ _ _ us hl => match us, hl with | [_], _ => rfl
  have F15 := L2.fun_mk (st := s_law_fill) l15 c15 k15
  have b15 := F15.binds (ps := ["c"]) fun _ _ _ _ _ _ us hl => match us, hl with | [_], _ => rfl
  have F16 := L2.fun_mk (st := s_law_take) l16 c16 k16
  have b16 := F16.binds (ps := ["c", "many"]) fun _ _ _ _ _ _ us hl => match us, hl with | [_, _], _ => rfl
  have F17 := L2.fun_mk (st := s_law_other) l17 c17 k17
  have b17 := F17.binds (ps := ["c", "machine"]) fun _ _ _ _ _ _ us hl => match us, hl with | [_, _], _ => rfl
  have F18 := L2.fun_mk (st := s_law_high) l18 c18 k18
  have b18 := F18.binds (ps := ["value"]) fun _ _ _ _ _ _ us hl => match us, hl with | [_], _ => rfl
  have F19 := L2.fun_mk (st := s_law_changed) l19 c19 k19
  have b19 := F19.binds (ps := ["value", "box", "other"]) fun _ _ _ _ _ _ us hl => match us, hl with | [_, _, _], _ => rfl
  have F20 := L2.fun_mk (st := s_law_nodes_of) l20 c20 k20
  have b20 := F20.binds (ps := ["value", "found"]) fun _ _ _ _ _ _ us hl => match us, hl with | [_, _], _ => rfl
  have F21 := L2.fun_mk (st := s_law_spoilt) l21 c21 k21
  have b21 := F21.binds (ps := ["c", "value"]) fun _ _ _ _ _ _ us hl => match us, hl with | [_, _], _ => rfl
  have F22 := L2.fun_mk (st := s_law_machine) l22 c22 k22
  have b22 := F22.binds (ps := ["c", "registers"]) fun _ _ _ _ _ _ us hl => match us, hl with | [_, _], _ => rfl
  have F23 := L2.fun_mk (st := s_law) l23 c23 k23
  have b23 := F23.binds (ps := ["script"]) fun _ _ _ _ _ _ us hl => match us, hl with | [_], _ => rfl
  refine ⟨PySem.W.fnOf "law" "law" (defArgs s_law) (defBody s_law) (defScope s_law) .none kV23 dc23 pm23 an23 cd23 ct23, fun s v => .of_eq rfl, fun base _ _ => ?_⟩
  have o0 : FnOk l.prog w K mg base CX0 1 f0 _ ["script"] (SpF K cl 1 f_law_start) := ok_law_start T F0 
  have c_law_start : C8.Cal l.prog w K mg base 1 "_law_start" (SpF K cl 1 f_law_start) [] := cal_of o0 (PySem.W.mg_of X G a0) k0 b0
  have o1 : FnOk l.prog w K mg base CX0 1 f1 _ [] (SpF K cl 0 f_law_kinds) := ok_law_kinds T F1 
  have c_law_kinds : C8.Cal l.prog w K mg base 1 "_law_kinds" (SpF K cl 0 f_law_kinds) [] := cal_of o1 (PySem.W.mg_of X G a1) k1 b1
  have o2 : FnOk l.prog w K mg base CX0 1 f2 _ ["n"] (SpF K cl 1 f_law_whole) := ok_law_whole T F2 
  have c_law_whole : C8.Cal l.prog w K mg base 1 "_law_whole" (SpF K cl 1 f_law_whole) [] := cal_of o2 (PySem.W.mg_of X G a2) k2 b2
  have o3 : FnOk l.prog w K mg base CX0 2 f3 _ ["machine"] (SpF K cl 1 f_law_good) := ok_law_good T F3 c_law_kinds c_law_whole
  have c_law_good : C8.Cal l.prog w K mg base 2 "_law_good" (SpF K cl 1 f_law_good) [] := cal_of o3 (PySem.W.mg_of X G a3) k3 b3
  have o4 : FnOk l.prog w K mg base CX0 1 f4 _ ["value"] (SpF K cl 1 f_is_number) := ok_is_number T F4 
  have c_is_number : C8.Cal l.prog w K mg base 1 "is_number" (SpF K cl 1 f_is_number) [] := cal_of o4 (PySem.W.mg_of X G a4) k4 b4
  have o5 : FnOk l.prog w K mg base CX0 1 f5 _ ["value"] (SpF K cl 1 f_is_kind) := ok_is_kind T F5 
  have c_is_kind : C8.Cal l.prog w K mg base 1 "is_kind" (SpF K cl 1 f_is_kind) [] := cal_of o5 (PySem.W.mg_of X G a5) k5 b5
  have o6 : FnOk l.prog w K mg base CX0 2 f6 _ ["value"] (SpF K cl 1 f_are_kinds) := ok_are_kinds T F6 c_is_kind
  have c_are_kinds : C8.Cal l.prog w K mg base 2 "are_kinds" (SpF K cl 1 f_are_kinds) [] := cal_of o6 (PySem.W.mg_of X G a6) k6 b6
  have o7 : FnOk l.prog w K mg base CX0 3 f7 _ ["slots"] (SpF K cl 1 f_are_slots) := ok_are_slots T F7 c_are_kinds
  have c_are_slots : C8.Cal l.prog w K mg base 3 "are_slots" (SpF K cl 1 f_are_slots) [] := cal_of o7 (PySem.W.mg_of X G a7) k7 b7
  have o8 : FnOk l.prog w K mg base CX0 1 f8 _ ["value", "size"] (SpF K cl 2 f_is_tuple) := ok_is_tuple T F8 
  have c_is_tuple : C8.Cal l.prog w K mg base 1 "is_tuple" (SpF K cl 2 f_is_tuple) [] := cal_of o8 (PySem.W.mg_of X G a8) k8 b8
  have o9 : FnOk l.prog w K mg base CX0 1 f9 _ ["value", "word"] (SpF K cl 2 f_is_word) := ok_is_word T F9 
  have c_is_word : C8.Cal l.prog w K mg base 1 "is_word" (SpF K cl 2 f_is_word) [] := cal_of o9 (PySem.W.mg_of X G a9) k9 b9
  have o10 : FnOk l.prog w K mg base CX0 2 f10 _ ["pair", "kind"] (SpF K cl 2 f_is_latency) := ok_is_latency T F10 c_is_tuple c_is_word c_is_number
  have c_is_latency : C8.Cal l.prog w K mg base 2 "is_latency" (SpF K cl 2 f_is_latency) [] := cal_of o10 (PySem.W.mg_of X G a10) k10 b10
  have o11 : FnOk l.prog w K mg base CX0 3 f11 _ ["latencies"] (SpF K cl 1 f_are_latencies) := ok_are_latencies T F11 c_is_latency c_is_tuple
  have c_are_latencies : C8.Cal l.prog w K mg base 3 "are_latencies" (SpF K cl 1 f_are_latencies) [] := cal_of o11 (PySem.W.mg_of X G a11) k11 b11
  have o12 : FnOk l.prog w K mg base CX0 4 f12 _ ["machine"] (SpF K cl 1 f_has_machine_form) := ok_has_machine_form T F12 c_is_number c_are_slots c_are_latencies c_is_tuple
  have c_has_machine_form : C8.Cal l.prog w K mg base 4 "has_machine_form" (SpF K cl 1 f_has_machine_form) [] := cal_of o12 (PySem.W.mg_of X G a12) k12 b12
  have o13 : FnOk l.prog w K mg base CX0 1 f13 _ ["machine"] (SpF K cl 1 f_is_within_limits) := ok_is_within_limits T F13 
  have c_is_within_limits : C8.Cal l.prog w K mg base 1 "is_within_limits" (SpF K cl 1 f_is_within_limits) [] := cal_of o13 (PySem.W.mg_of X G a13) k13 b13
  have o14 : FnOk l.prog w K mg base CX0 5 f14 _ ["machine"] (SpF K cl 1 f_is_machine) := ok_is_machine T F14 c_has_machine_form c_is_within_limits
  have c_is_machine : C8.Cal l.prog w K mg base 5 "is_machine" (SpF K cl 1 f_is_machine) [] := cal_of o14 (PySem.W.mg_of X G a14) k14 b14
  have o15 : FnOk l.prog w K mg base CX0 1 f15 _ ["c"] (SpF K cl 1 f_law_fill) := ok_law_fill T F15 
  have c_law_fill : C8.Cal l.prog w K mg base 1 "_law_fill" (SpF K cl 1 f_law_fill) [] := cal_of o15 (PySem.W.mg_of X G a15) k15 b15
  have o16 : FnOk l.prog w K mg base CX0 2 f16 _ ["c", "many"] (SpF K cl 2 f_law_take) := ok_law_take T F16 c_law_fill
  have c_law_take : C8.Cal l.prog w K mg base 2 "_law_take" (SpF K cl 2 f_law_take) [] := cal_of o16 (PySem.W.mg_of X G a16) k16 b16
  have o17 : FnOk l.prog w K mg base CX0 3 f17 _ ["c", "machine"] (SpF K cl 2 f_law_other) := ok_law_other T F17 c_law_take
  have c_law_other : C8.Cal l.prog w K mg base 3 "_law_other" (SpF K cl 2 f_law_other) [] := cal_of o17 (PySem.W.mg_of X G a17) k17 b17
  have o18 : FnOk l.prog w K mg base CX0 1 f18 _ ["value"] (SpF K cl 1 f_law_high) := ok_law_high T F18 
  have c_law_high : C8.Cal l.prog w K mg base 1 "_law_high" (SpF K cl 1 f_law_high) [] := cal_of o18 (PySem.W.mg_of X G a18) k18 b18
  have o19 : FnOk l.prog w K mg base CX0 21 f19 _ ["value", "box", "other"] (SpF K cl 3 f_law_changed) := okr_law_changed T F19 (PySem.W.mg_of X G a19) b19  20
  have c_law_changed : C8.Cal l.prog w K mg base 21 "_law_changed" (SpF K cl 3 f_law_changed) [] := cal_of o19 (PySem.W.mg_of X G a19) k19 b19
  have o20 : FnOk l.prog w K mg base CX0 21 f20 _ ["value", "found"] (SpF K cl 2 f_law_nodes_of) := okr_law_nodes_of T F20 (PySem.W.mg_of X G a20) b20  20
  have c_law_nodes_of : C8.Cal l.prog w K mg base 21 "_law_nodes_of" (SpF K cl 2 f_law_nodes_of) [] := cal_of o20 (PySem.W.mg_of X G a20) k20 b20
  have o21 : FnOk l.prog w K mg base CX0 22 f21 _ ["c", "value"] (SpF K cl 2 f_law_spoilt) := ok_law_spoilt T F21 c_law_high c_law_changed c_law_take c_law_nodes_of
  have c_law_spoilt : C8.Cal l.prog w K mg base 22 "_law_spoilt" (SpF K cl 2 f_law_spoilt) [] := cal_of o21 (PySem.W.mg_of X G a21) k21 b21
  have o22 : FnOk l.prog w K mg base CX0 3 f22 _ ["c", "registers"] (SpF K cl 2 f_law_machine) := ok_law_machine T F22 c_law_kinds c_law_take
  have c_law_machine : C8.Cal l.prog w K mg base 3 "_law_machine" (SpF K cl 2 f_law_machine) [] := cal_of o22 (PySem.W.mg_of X G a22) k22 b22
  have o23 : FnOk l.prog w K mg base CX0 23 _ _ ["script"] (SpF K cl 1 f_law) := ok_law T F23 c_law_start c_law_good c_is_machine c_law_take c_law_other c_law_spoilt c_law_machine
  exact o23.imp (law_sp hF)
end Gen
end

section
set_option Elab.async false
/-- what is left of the law -/
theorem Gen.law_true (ns : List Int) (h : ns.length ≤ 63) : ∃ m, Gen.f_law [.ref 0] [.rol (ns.map Rf.PV.int)] = some (.bl true, m) := Gen.law_of (fun c => Gen.final2 c) ns h
end

open PySem PySem.W PyProof.Rows
set_option maxRecDepth 100000 in
set_option maxHeartbeats 0 in
theorem PySem.Challenge.cw_trireme_k03_machines_holds : PySem.Challenge.rw_trireme_k03_machines.Holds := by
  w_on; o_law; k_head; (case hw => w_witness2)
  k_fill
  refine L2.walk_ofK (l := PySem.Challenge.rw_trireme_k03_machines) (n := 63) (k := 23) (x := "script") (CX := L2.CX0) (sp := fun K vs H Q E => Rf.SpLaw K vs H Q E) rfl (by decide) rfl ⟨rfl, by decide, by decide⟩ (fun w h Y => PySem.W.kIn_of Y) ?F (fun _ _ a ns hl hO hS => ⟨a, ns, rfl, hS, hO, hl, fun _ => rfl⟩) (fun _ _ _ _ h => h)
  case F =>
    intro w mg fa h KX G hmg
    refine' Gen.all_mk Gen.law_true KX G hmg ?a0 ?l0 ?c0 ?k0 ?a1 ?l1 ?c1 ?k1 ?a2 ?l2 ?c2 ?k2 ?a3 ?l3 ?c3 ?k3 ?a4 ?l4 ?c4 ?k4 ?a5 ?l5 ?c5 ?k5 ?a6 ?l6 ?c6 ?k6 ?a7 ?l7 ?c7 ?k7 ?a8 ?l8 ?c8 ?k8 ?a9 ?l9 ?c9 ?k9 ?a10 ?l10 ?c10 ?k10 ?a11 ?l11 ?c11 ?k11 ?a12 ?l12 ?c12 ?k12 ?a13 ?l13 ?c13 ?k13 ?a14 ?l14 ?c14 ?k14 ?a15 ?l15 ?c15 ?k15 ?a16 ?l16 ?c16 ?k16 ?a17 ?l17 ?c17 ?k17 ?a18 ?l18 ?c18 ?k18 ?a19 ?l19 ?c19 ?k19 ?a20 ?l20 ?c20 ?k20 ?a21 ?l21 ?c21 ?k21 ?a22 ?l22 ?c22 ?k22 ?a23 ?l23 ?c23 ?k23 ?g_KINDS ?w_KINDS ?e_KINDS ?s_KINDS ?g_MOST_LATENCY ?g_MOST_SLOTS ?g_REGISTERS ?z_all ?z_any ?z_bool ?z_int ?z_isinstance ?z_len ?z_list ?z_range ?z_set ?z_sorted ?z_str ?z_tuple ?z_zip
    (case a0 => k_is)
    (case l0 => k_is)
    (case c0 => k_is)
    (case k0 => k_is)
    (case a1 => k_is)
    (case l1 => k_is)
    (case c1 => k_is)
    (case k1 => k_is)
    (case a2 => k_is)
    (case l2 => k_is)
    (case c2 => k_is)
    (case k2 => k_is)
    (case a3 => k_is)
    (case l3 => k_is)
    (case c3 => k_is)
    (case k3 => k_is)
    (case a4 => k_is)
    (case l4 => k_is)
    (case c4 => k_is)
    (case k4 => k_is)
    (case a5 => k_is)
    (case l5 => k_is)
    (case c5 => k_is)
    (case k5 => k_is)
    (case a6 => k_is)
    (case l6 => k_is)
    (case c6 => k_is)
    (case k6 => k_is)
    (case a7 => k_is)
    (case l7 => k_is)
    (case c7 => k_is)
    (case k7 => k_is)
    (case a8 => k_is)
    (case l8 => k_is)
    (case c8 => k_is)
    (case k8 => k_is)
    (case a9 => k_is)
    (case l9 => k_is)
    (case c9 => k_is)
    (case k9 => k_is)
    (case a10 => k_is)
    (case l10 => k_is)
    (case c10 => k_is)
    (case k10 => k_is)
    (case a11 => k_is)
    (case l11 => k_is)
    (case c11 => k_is)
    (case k11 => k_is)
    (case a12 => k_is)
    (case l12 => k_is)
    (case c12 => k_is)
    (case k12 => k_is)
    (case a13 => k_is)
    (case l13 => k_is)
    (case c13 => k_is)
    (case k13 => k_is)
    (case a14 => k_is)
    (case l14 => k_is)
    (case c14 => k_is)
    (case k14 => k_is)
    (case a15 => k_is)
    (case l15 => k_is)
    (case c15 => k_is)
    (case k15 => k_is)
    (case a16 => k_is)
    (case l16 => k_is)
    (case c16 => k_is)
    (case k16 => k_is)
    (case a17 => k_is)
    (case l17 => k_is)
    (case c17 => k_is)
    (case k17 => k_is)
    (case a18 => k_is)
    (case l18 => k_is)
    (case c18 => k_is)
    (case k18 => k_is)
    (case a19 => k_is)
    (case l19 => k_is)
    (case c19 => k_is)
    (case k19 => k_is)
    (case a20 => k_is)
    (case l20 => k_is)
    (case c20 => k_is)
    (case k20 => k_is)
    (case a21 => k_is)
    (case l21 => k_is)
    (case c21 => k_is)
    (case k21 => k_is)
    (case a22 => k_is)
    (case l22 => k_is)
    (case c22 => k_is)
    (case k22 => k_is)
    (case a23 => k_is)
    (case l23 => k_is)
    (case c23 => k_is)
    (case k23 => k_is)
    (case g_KINDS => k_is)
    (case w_KINDS => k_is)
    (case e_KINDS => repeat' (first | exact .nil | refine .cons ⟨_, rfl⟩ ?_))
    (case s_KINDS => decide)
    (case g_MOST_LATENCY => k_is)
    (case g_MOST_SLOTS => k_is)
    (case g_REGISTERS => k_is)
    (case z_all => k_is)
    (case z_any => k_is)
    (case z_bool => k_is)
    (case z_int => k_is)
    (case z_isinstance => k_is)
    (case z_len => k_is)
    (case z_list => k_is)
    (case z_range => k_is)
    (case z_set => k_is)
    (case z_sorted => k_is)
    (case z_str => k_is)
    (case z_tuple => k_is)
    (case z_zip => k_is)

