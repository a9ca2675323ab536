import PyProof.Rows.All
import Wide.All
import OpenK.AllK
import Wide.FinOn
import KE.KExcLine
import HandS.ForMost
import HandS.IsInst
import HandS.Wide
import HandS.TupAny
import HandS.Codes
import HandS.Small
import HandS.NoneIn
import HandS.Zip
import HandS.Text
import HandS.Conv
import HandS.FStr
import HandS.StrMore
import KE.KDictZip
import KE.GoesMore
import KE.GoesEnum
import KE.GoesZip
import HandS.More
import KE.SortData
import KE.DatumOrd
import KE.KDictPairs
import HandS.SortKw
import HandS.Dict
import HandS.Call
import HandS.Strs
import HandS.TupSets
import HandS.SetTxt0
import HandS.Style
import PyProof.AutoSeq1
import HandS.Deep
import HandS.TupMul
import HandS.DictComp
import HandS.Keys
import HandS.WordsExc
import HandS.ExcIs
import HandS.RaiseMore
import HandS.ExcField
import KE.KExcSuper
import KE.KSuper
import KE.KExcIs
import KE.IntTextLaws
import PySem.Challenge.RW_trireme_k02_errors_of_texts
set_option Elab.async false
set_option linter.all false
set_option maxRecDepth 100000
namespace PySem.W.Fast
def tw4098642850300734401:=0
def tw3182858565254951588:=0
def tw6098758576704866278:=0
def tw17888349483237420169:=0
def tw11958653042079025801:=0
def tw15677604587986507562:=0
def tw10849148110999342475:=0
def tw11863725079084885071:=0
def tw8090373143469188879:=0
def tw5331596425959280145:=0
def tw12379352987780126705:=0
def tw5269777794554160114:=0
def tw5079076807537277590:=0
def tw17508498820730941592:=0
def tw10368425765975114968:=0
def tw11380758615100732984:=0
def tw13747992977028782297:=0
def tw2307858687200941978:=0
def tw18274462401266052412:=0
def tw9567847791558824830:=0
def tw9592083930888409340:=0
end PySem.W.Fast
section
open PySem PySem.W PyProof.Rows
set_option maxHeartbeats 0 in
open_top hdk02 for PySem.Challenge.rw_trireme_k02_errors_of_texts
end
theorem zbm {α:Type _}{β:Type _}{o:Option α}{f:α→Option β}{b:β}(h:o.bind f=some b):∃a,o=some a∧f a=some b:=Option.bind_eq_some_iff.mp h
theorem zmm {α:Type _}{β:Type _}{o:Option α}{f:α→β}{b:β}(h:o.map f=some b):∃a,o=some a∧f a=b:=Option.map_eq_some_iff.mp h
theorem zob {α:Type _}{β:Type _}(a:α)(f:α→Option β):(some a).bind f=f a:=rfl
def zlm := @List.length_map
theorem zge {α:Type _}{l:List α}{i:Nat}{a:α}(h:l[i]?=some a):∃h:i<l.length,l[i]=a:=List.getElem?_eq_some_iff.mp h
theorem zsi {α:Type _}{a b:α}(h:some a=some b):a=b:=Option.some.inj h
def zms := @List.mem_cons_self
def zmt := @List.mem_cons_of_mem
def zlc := @List.length_cons
def zmc := @List.map_cons
def zdt := @decide_eq_true
def zdf := @decide_eq_false
def zla := @List.length_append
def zss := @List.getElem?_set_self
def zgl := @List.getElem?_append_left
theorem zsg {α:Type _}{a b:α}(h:a∈[b]):a=b:=List.mem_singleton.mp h
def zsn := @List.getElem?_set_ne
theorem zmo {α:Type _}{a b:α}{l:List α}(h:a∈b::l):a=b∨a∈l:=List.mem_cons.mp h
theorem zma {α:Type _}{a:α}{l r:List α}(h:a∈l++r):a∈l∨a∈r:=List.mem_append.mp h
def znr := @Nat.le_refl
def zmq := @List.map_append
def znt := @Nat.le_trans
section
set_option autoImplicit false
namespace Rf
open PySem PySem.Spec L2
inductive PV where
 | non|bl (b:Bool)|int (i:Int)|str (s:Str)|tup (xs:List PV)|ref (i:Nat)
mutual
def PV.dec:(a b:PV)→Decidable (a=b)
 | .non,.non=>Decidable.isTrue rfl
 | .bl a,.bl b=>if h:a=b then Decidable.isTrue (h▸rfl) else Decidable.isFalse fun e=>h (PV.bl.inj e)
 | .int a,.int b=>if h:a=b then Decidable.isTrue (h▸rfl) else Decidable.isFalse fun e=>h (PV.int.inj e)
 | .str a,.str b=>if h:a=b then Decidable.isTrue (h▸rfl) else Decidable.isFalse fun e=>h (PV.str.inj e)
 | .tup a,.tup b=>match PV.decL a b with
  | Decidable.isTrue h=>Decidable.isTrue (h▸rfl)
  | Decidable.isFalse h=>Decidable.isFalse fun e=>h (PV.tup.inj e)
 | .ref a,.ref b=>if h:a=b then Decidable.isTrue (h▸rfl) else Decidable.isFalse fun e=>h (PV.ref.inj e)
 | .non,.bl _ | .non,.int _ | .non,.str _ | .non,.tup _ | .non,.ref _=>Decidable.isFalse nofun
 | .bl _,.non | .bl _,.int _ | .bl _,.str _ | .bl _,.tup _ | .bl _,.ref _=>Decidable.isFalse nofun
 | .int _,.non | .int _,.bl _ | .int _,.str _ | .int _,.tup _ | .int _,.ref _=>Decidable.isFalse nofun
 | .str _,.non | .str _,.bl _ | .str _,.int _ | .str _,.tup _ | .str _,.ref _=>Decidable.isFalse nofun
 | .tup _,.non | .tup _,.bl _ | .tup _,.int _ | .tup _,.str _ | .tup _,.ref _=>Decidable.isFalse nofun
 | .ref _,.non | .ref _,.bl _ | .ref _,.int _ | .ref _,.str _ | .ref _,.tup _=>Decidable.isFalse nofun
def PV.decL:(a b:List PV)→Decidable (a=b)
 | [],[]=>Decidable.isTrue rfl
 | [],_::_=>Decidable.isFalse nofun
 | _::_,[]=>Decidable.isFalse nofun
 | a::r,b::s=>match PV.dec a b,PV.decL r s with
  | Decidable.isTrue h,Decidable.isTrue h'=>Decidable.isTrue (h▸h'▸rfl)
  | Decidable.isFalse h,_=>Decidable.isFalse fun e=>h (List.cons.inj e).1
  | _,Decidable.isFalse h=>Decidable.isFalse fun e=>h (List.cons.inj e).2
end
instance:DecidableEq PV:=PV.dec
inductive Ob where
 | lst (xs:List PV)|rol (xs:List PV)|dic (kvs:List (Key×PV))|dit (kvs:List (List Int×Int))|dtp (kvs:List (List Int×PV))|dtf (kvs:List (List Int×PV))|dif (kvs:List (Key×PV))|ins (c:Nat) (fs:List (Str×PV))
 deriving DecidableEq
def Ob.mu:Ob→Bool
 | .rol _=>false
 | _=>true
def Ob.lk:Ob→Bool
 | .dtf _=>true
 | .dif _=>true
 | _=>false
abbrev Mem:=List Ob
abbrev Env:=List (Option PV)
def SqP (K:PySem.W.Frag)(H:Hp)(a:Addr)(xs:List V):Prop:=(∃o:Obj,H a=some (.frz o (.tup xs))∧o.dict=none)∨
 ∃(o:Obj) (its:Array Value) (n:Nat),K.lookup a=some o∧o.cls=.type "tuple"∧o.dict=none∧o.data=.seq its n∧its.size≤sizeLine∧Vals xs its.toList
theorem SqP.t {K:PySem.W.Frag}{H:Hp}{a:Addr}{xs:List V}(h:SqP K H a xs):SqT K H a xs:=by
 rcases h with⟨o,h,_⟩|⟨o,its,n,h1,h2,_,h3⟩
 ·exact .inl (.inr ⟨o,h⟩)
 ·exact .inr ⟨o,its,n,h1,h2,h3⟩
def hT (ks:List Int):Int:=PySem.reduceHash (PySem.Builtin.Tuple.tupleHashOf (ks.map PySem.hashInt))
abbrev TEnt:=List (List Int×Addr×Value)
def entT (x:List Int×Addr×Value):DictEntry:=⟨hT x.1,.ref x.2.1,x.2.2⟩
def dXo (D:Addr)(xs:TEnt):HO:=.ext fun h=>(D == sysModules)=false∧xs.length≤sizeLine∧∃(o:Obj) (es:Array DictEntry) (ep:Nat),h.get? D=some o∧o.ExactDict∧o.data=.dict es ep∧es.toList=xs.map entT∧(xs.map (·.1)).Nodup
section
variable (K:PySem.W.Frag)(ρ:List Addr)(H:Hp)
mutual
def Rep:PV→V→Prop
 | .non,v=>v=.non
 | .bl b,v=>v=.bl b
 | .int i,v=>v=.int i
 | .str s,v=>v=.str s
 | .tup ps,v=>∃a xs,v=.ref a∧SqP K H a xs∧RepL ps xs
 | .ref i,v=>∃a,ρ[i]?=some a∧v=.ref a
def RepL:List PV→List V→Prop
 | [],xs=>xs=[]
 | p::ps,xs=>∃x r,xs=x::r∧Rep p x∧RepL ps r
end
abbrev RepT:List (List Int×PV)→TEnt→Prop:=Paired fun p q=>p.1=q.1∧SqP K H q.2.1 (p.1.map V.int)∧∃v,Rep K ρ H p.2 v∧RelV v q.2.2
abbrev RepF {κ:Type}:List (κ×PV)→List (κ×V)→Prop:=Paired fun p q=>p.1=q.1∧Rep K ρ H p.2 q.2
def RepO (cl:Nat→Addr):Ob→Addr→Prop
 | .lst ps,a=>∃xs,H a=some (.lst xs)∧RepL K ρ H ps xs
 | .rol ps,a=>∃xs,((∃o,H a=some (.frz o (.lst xs)))∨∀H',SqL K H' a xs)∧RepL K ρ H ps xs
 | .dic kvs,a=>∃kws,H a=some (.dK kws)∧RepF K ρ H kvs kws
 | .dit kvs,a=>H a=some (.dT (kvs.map fun q=>(q.1.map Sum.inl,V.int q.2)))
 | .dtp kvs,a=>∃xs:TEnt,H a=some (dXo a xs)∧RepT K ρ H kvs xs
 | .dtf kvs,a=>∃o,∃xs:TEnt,H a=some (.frz o (dXo a xs))∧RepT K ρ H kvs xs
 | .dif kvs,a=>∃o kws,H a=some (.frz o (.dK kws))∧RepF K ρ H kvs kws
 | .ins c fs,a=>∃dx fws,H a=some (.ins (cl c) dx fws)∧RepF K ρ H fs fws
end
structure Ext (K:PySem.W.Frag) (ρ:List Addr) (H:Hp) (ρ':List Addr) (H':Hp):Prop where
 pre:ρ <+: ρ'
 tup:∀a xs,SqT K H a xs→SqT K H' a xs
 tp:∀a xs,SqP K H a xs→SqP K H' a xs
 fz:∀a o u,H a=some (.frz o u)→H' a=some (.frz o u)
theorem Ext.refl {K ρ H}:Ext K ρ H ρ H:=⟨List.prefix_refl _,fun _ _ h=>h,fun _ _ h=>h,fun _ _ _ h=>h⟩
theorem Ext.trans {K ρ H ρ1 H1 ρ2 H2}(a:Ext K ρ H ρ1 H1)(b:Ext K ρ1 H1 ρ2 H2):Ext K ρ H ρ2 H2:=⟨a.pre.trans b.pre,fun c xs h=>b.tup c xs (a.tup c xs h),fun c xs h=>b.tp c xs (a.tp c xs h),fun c o u h=>b.fz c o u (a.fz c o u h)⟩
theorem Ext.at {K ρ H ρ' H'}(e:Ext K ρ H ρ' H'){i:Nat}{a:Addr}(h:ρ[i]?=some a):ρ'[i]?=some a:=by
 obtain⟨t,rfl⟩:=e.pre
 rw [zgl (zge h).1]
 exact h
section
variable {K:PySem.W.Frag}{ρ ρ':List Addr}{H H':Hp}(e:Ext K ρ H ρ' H')
include e
mutual
theorem Ext.rep:∀(p:PV) (v:V),Rep K ρ H p v→Rep K ρ' H' p v
 | .non,_,h=>h
 | .bl _,_,h=>h
 | .int _,_,h=>h
 | .str _,_,h=>h
 | .tup ps,v,h=>by
  rw [Rep] at h ⊢
  obtain⟨a,xs,h1,h2,h3⟩:=h
  exact⟨a,xs,h1,e.tp a xs h2,Ext.repL ps xs h3⟩
 | .ref i,v,h=>by
  rw [Rep] at h ⊢
  obtain⟨a,h1,h2⟩:=h
  exact⟨a,e.at h1,h2⟩
theorem Ext.repL:∀(ps:List PV) (xs:List V),RepL K ρ H ps xs→RepL K ρ' H' ps xs
 | [],_,h=>h
 | p::ps,xs,h=>by
  rw [RepL] at h ⊢
  obtain⟨x,r,h1,h2,h3⟩:=h
  exact⟨x,r,h1,Ext.rep p x h2,Ext.repL ps r h3⟩
end
theorem Ext.repT {a:List (List Int×PV)}{b:TEnt}(h:RepT K ρ H a b):RepT K ρ' H' a b:=Paired.mapP h fun p q z=>⟨z.1,e.tp _ _ z.2.1,z.2.2.elim fun v y=>⟨v,e.rep _ _ y.1,y.2⟩⟩
theorem Ext.repF {κ:Type}{a:List (κ×PV)}{b:List (κ×V)}(h:RepF K ρ H a b):RepF K ρ' H' a b:=Paired.mapP h fun p q z=>⟨z.1,e.rep _ _ z.2⟩
end
section
variable {K:PySem.W.Frag}{ρ:List Addr}{H:Hp}
theorem RepL.length:∀ {ps:List PV} {xs:List V},RepL K ρ H ps xs→xs.length=ps.length
 | [],xs,h=>by rw [RepL] at h;rw [h];rfl
 | p::ps,xs,h=>by
  rw [RepL] at h
  obtain⟨x,r,rfl,_,h3⟩:=h
  rw [zlc,zlc,RepL.length h3]
theorem RepL.get:∀ {ps:List PV} {xs:List V} {i:Nat} {p:PV},RepL K ρ H ps xs→ps[i]?=some p→∃x,xs[i]?=some x∧Rep K ρ H p x
 | [],_,i,p,_,e=>by simp at e
 | q::ps,xs,i,p,h,e=>by
  rw [RepL] at h
  obtain⟨x,r,rfl,h2,h3⟩:=h
  cases i with
  | zero=>
   simp only [List.getElem?_cons_zero,Option.some.injEq] at e
   subst e
   exact⟨x,rfl,h2⟩
  | succ i=>
   simp only [List.getElem?_cons_succ] at e
   obtain⟨y,h4,h5⟩:=RepL.get h3 e
   exact⟨y,by simpa using h4,h5⟩
theorem RepL.append:∀ {ps qs:List PV} {xs ys:List V},RepL K ρ H ps xs→RepL K ρ H qs ys→RepL K ρ H (ps++qs) (xs++ys)
 | [],qs,xs,ys,h,h'=>by rw [RepL] at h;subst h;exact h'
 | p::ps,qs,xs,ys,h,h'=>by
  rw [RepL] at h
  obtain⟨x,r,rfl,h2,h3⟩:=h
  rw [List.cons_append,List.cons_append,RepL]
  exact⟨x,_,rfl,h2,RepL.append h3 h'⟩
theorem RepL.nil:RepL K ρ H [] []:=by rw [RepL]
theorem RepL.cons {p:PV}{x:V}{ps:List PV}{xs:List V}(h:Rep K ρ H p x)(h':RepL K ρ H ps xs):RepL K ρ H (p::ps) (x::xs):=by
 rw [RepL]
 exact⟨x,xs,rfl,h,h'⟩
theorem RepL.one {p:PV}{x:V}(h:Rep K ρ H p x):RepL K ρ H [p] [x]:=.cons h .nil
theorem RepL.inv {p:PV}{ps:List PV}{xs:List V}(h:RepL K ρ H (p::ps) xs):∃x r,xs=x::r∧Rep K ρ H p x∧RepL K ρ H ps r:=by rwa [RepL] at h
theorem RepL.inv0 {xs:List V}(h:RepL K ρ H [] xs):xs=[]:=by rwa [RepL] at h
theorem RepL.set:∀ {ps:List PV} {xs:List V} {p:PV} {x:V} (i:Nat),RepL K ρ H ps xs→Rep K ρ H p x→RepL K ρ H (ps.set i p) (xs.set i x)
 | [],xs,p,x,i,h,h'=>by rw [h.inv0];exact .nil
 | q::ps,xs,p,x,i,h,h'=>by
  obtain⟨y,r,rfl,h2,h3⟩:=h.inv
  cases i with
  | zero=>exact .cons h' h3
  | succ i=>exact .cons h2 (RepL.set i h3 h')
theorem RepL.take:∀ {ps:List PV} {xs:List V} (n:Nat),RepL K ρ H ps xs→RepL K ρ H (ps.take n) (xs.take n)
 | [],xs,n,h=>by rw [h.inv0];simp;exact .nil
 | q::ps,xs,n,h=>by
  obtain⟨y,r,rfl,h2,h3⟩:=h.inv
  cases n with
  | zero=>exact .nil
  | succ n=>exact .cons h2 (RepL.take n h3)
theorem RepL.drop:∀ {ps:List PV} {xs:List V} (n:Nat),RepL K ρ H ps xs→RepL K ρ H (ps.drop n) (xs.drop n)
 | [],xs,n,h=>by rw [h.inv0];simp;exact .nil
 | q::ps,xs,n,h=>by
  obtain⟨y,r,rfl,h2,h3⟩:=h.inv
  cases n with
  | zero=>exact .cons h2 h3
  | succ n=>exact RepL.drop n h3
theorem RepL.ints:∀ns:List Int,RepL K ρ H (ns.map PV.int) (ns.map V.int)
 | []=>.nil
 | n::ns=>.cons (by rw [Rep]) (RepL.ints ns)
@[simp] theorem rep_non {v:V}:Rep K ρ H .non v↔v=.non:=by rw [Rep]
@[simp] theorem rep_bl {b:Bool} {v:V}:Rep K ρ H (.bl b) v↔v=.bl b:=by rw [Rep]
@[simp] theorem rep_int {b:Int} {v:V}:Rep K ρ H (.int b) v↔v=.int b:=by rw [Rep]
@[simp] theorem rep_str {b:Str} {v:V}:Rep K ρ H (.str b) v↔v=.str b:=by rw [Rep]
theorem rep_tup {ps:List PV}{v:V}:Rep K ρ H (.tup ps) v↔∃a xs,v=.ref a∧SqP K H a xs∧RepL K ρ H ps xs:=by rw [Rep]
theorem rep_ref {i:Nat}{v:V}:Rep K ρ H (.ref i) v↔∃a,ρ[i]?=some a∧v=.ref a:=by rw [Rep]
end
structure RelM (K:PySem.W.Frag) (cl:Nat→Addr) (ρ:List Addr) (H:Hp) (m:Mem):Prop where
 len:ρ.length=m.length
 inj:∀(i j:Nat) (a:Addr) (o o':Ob),ρ[i]?=some a→ρ[j]?=some a→m[i]?=some o→m[j]?=some o'→o.mu=true→o'.mu=true→i=j
 ok:∀(i:Nat) (a:Addr) (o:Ob),ρ[i]?=some a→m[i]?=some o→RepO K ρ H cl o a
theorem sqT_upd {K:PySem.W.Frag}{H:Hp}{a:Addr}{o:HO}(h:∀ys,¬Rd H a (.tup ys)){b:Addr}{xs:List V}(q:SqT K H b xs):SqT K (upd H a o) b xs:=by
 rcases q with q|q
 ·have hb:b≠a:=fun e=>h xs (e▸q)
  refine .inl ?_
  rcases q with q|⟨o',q⟩
  ·exact .inl (by rw [upd_ne hb];exact q)
  ·exact .inr ⟨o',by rw [upd_ne hb];exact q⟩
 ·exact .inr q
theorem sqP_upd {K:PySem.W.Frag}{H:Hp}{a:Addr}{o:HO}(h:∀ys,¬Rd H a (.tup ys)){b:Addr}{xs:List V}(q:SqP K H b xs):SqP K (upd H a o) b xs:=by
 rcases q with⟨o',q,hd⟩|q
 ·have hb:b≠a:=fun e=>h xs (e▸.inr ⟨o',q⟩)
  exact .inl ⟨o',by rw [upd_ne hb];exact q,hd⟩
 ·exact .inr q
theorem noTup_none {H:Hp}{a:Addr}(h:H a=none):∀ys,¬Rd H a (.tup ys):=fun ys q=>by
 rcases q with q|⟨o,q⟩ <;> (rw [h] at q;cases q)
theorem noTup_some {H:Hp}{a:Addr}{u:HO}(h:H a=some u)(h1:∀ys,u≠.tup ys)(h2:∀o ys,u≠.frz o ys):∀ys,¬Rd H a (.tup ys):=fun ys q=>by
 rcases q with q|⟨o,q⟩
 ·rw [h] at q;cases q;exact h1 _ rfl
 ·rw [h] at q;cases q;exact h2 _ _ rfl
theorem RepO.ext {K cl ρ H ρ' H'}(e:Ext K ρ H ρ' H'){o:Ob}{a:Addr}(h:RepO K ρ H cl o a)(k:∀u,H a=some u→H' a=some u):RepO K ρ' H' cl o a:=by
 cases o with
 | lst ps=>obtain⟨xs,h1,h2⟩:=h;exact⟨xs,k _ h1,e.repL _ _ h2⟩
 | rol ps=>
  obtain⟨xs,h1,h2⟩:=h
  refine⟨xs,?_,e.repL _ _ h2⟩
  rcases h1 with⟨o,h1⟩|h1
  ·exact .inl ⟨o,k _ h1⟩
  ·exact .inr h1
 | dic kvs=>obtain⟨xs,h1,h2⟩:=h;exact⟨xs,k _ h1,e.repF h2⟩
 | dit kvs=>exact k _ h
 | dtp kvs=>obtain⟨xs,h1,h2⟩:=h;exact⟨xs,k _ h1,e.repT h2⟩
 | dtf kvs=>obtain⟨o,xs,h1,h2⟩:=h;exact⟨o,xs,k _ h1,e.repT h2⟩
 | dif kvs=>obtain⟨o,xs,h1,h2⟩:=h;exact⟨o,xs,k _ h1,e.repF h2⟩
 | ins c fs=>obtain⟨dx,xs,h1,h2⟩:=h;exact⟨dx,xs,k _ h1,e.repF h2⟩
theorem RepO.there {K cl ρ H}{o:Ob}{a:Addr}(h:RepO K ρ H cl o a)(hm:o.mu=true)(hl:o.lk=false):∃u,H a=some u∧(∀ys,u≠.tup ys)∧∀o ys,u≠.frz o ys:=by
 cases o with
 | lst ps=>obtain⟨xs,h1,h2⟩:=h;exact⟨_,h1,(fun _ e=>HO.noConfusion e),(fun _ _ e=>HO.noConfusion e)⟩
 | rol ps=>cases hm
 | dic kvs=>obtain⟨xs,h1,h2⟩:=h;exact⟨_,h1,(fun _ e=>HO.noConfusion e),(fun _ _ e=>HO.noConfusion e)⟩
 | dit kvs=>exact⟨_,h,(fun _ e=>HO.noConfusion e),(fun _ _ e=>HO.noConfusion e)⟩
 | dtp kvs=>obtain⟨xs,h1,h2⟩:=h;exact⟨_,h1,(fun _ e=>HO.noConfusion e),(fun _ _ e=>HO.noConfusion e)⟩
 | dtf kvs=>cases hl
 | dif kvs=>cases hl
 | ins c fs=>obtain⟨dx,xs,h1,h2⟩:=h;exact⟨_,h1,(fun _ e=>HO.noConfusion e),(fun _ _ e=>HO.noConfusion e)⟩
theorem RepO.some {K cl ρ H}{o:Ob}{a:Addr}(h:RepO K ρ H cl o a)(hm:o.mu=true):∃u,H a=some u:=by
 cases hl:o.lk with
 | false=>obtain⟨u,h,_⟩:=h.there hm hl;exact⟨u,h⟩
 | true=>
  cases o with
  | dtf kvs=>obtain⟨o,xs,h1,h2⟩:=h;exact⟨_,h1⟩
  | dif kvs=>obtain⟨o,xs,h1,h2⟩:=h;exact⟨_,h1⟩
  | _=>cases hl
theorem ext_new {K ρ H}{p:Addr}{o:HO}(h:H p=none)(l:List Addr):Ext K ρ H (ρ++l) (upd H p o):=⟨List.prefix_append _ _,fun _ _ q=>sqT_upd (noTup_none h) q,fun _ _ q=>sqP_upd (noTup_none h) q,fun a o u q=>by rw [upd_ne (ne_of_none q h)];exact q⟩
theorem ext_set {K cl ρ H m}{i:Nat}{a:Addr}{o:Ob}{u:HO}(h:RelM K cl ρ H m)(ha:ρ[i]?=some a)(ho:m[i]?=some o)(hm:o.mu=true)(hl:o.lk=false:=by rfl):Ext K ρ H ρ (upd H a u):=by
 obtain⟨u',h1,h2,h3⟩:=(h.ok i a o ha ho).there hm hl
 exact⟨List.prefix_refl _,fun _ _ q=>sqT_upd (noTup_some h1 h2 h3) q,fun _ _ q=>sqP_upd (noTup_some h1 h2 h3) q,fun b o' v q=>by
  have hb:b≠a:=fun e=>by
   subst e
   rw [h1] at q;cases q
   exact h3 _ _ rfl
  rw [upd_ne hb];exact q⟩
theorem RelM.alloc {K cl ρ H m}(h:RelM K cl ρ H m){p:Addr}{u:HO}{o:Ob}(hp:H p=none)(hn:RepO K (ρ++[p]) (upd H p u) cl o p):RelM K cl (ρ++[p]) (upd H p u) (m++[o]):=by
 have e:Ext K ρ H (ρ++[p]) (upd H p u):=ext_new hp _
 have old:∀(i:Nat) (a:Addr) (o':Ob),ρ[i]?=some a→m[i]?=some o'→RepO K (ρ++[p]) (upd H p u) cl o' a:=fun i a o' h1 h2=>(h.ok i a o' h1 h2).ext e fun v q=>by
  rw [upd_ne (ne_of_none q hp)];exact q
 have nomu:∀(i:Nat) (o':Ob),ρ[i]?=some p→m[i]?=some o'→o'.mu=true→False:=fun i o' h1 h2 h3=>by
  obtain⟨v,q⟩:=(h.ok i p o' h1 h2).some h3
  rw [hp] at q;cases q
 have cut:∀(i:Nat) (a:Addr) (o':Ob),(ρ++[p])[i]?=some a→(m++[o])[i]?=some o'→(ρ[i]?=some a∧m[i]?=some o')∨(i=m.length∧a=p∧o'=o):=fun i a o' h1 h2=>by
  by_cases hi:i<m.length
  ·rw [zgl (by rw [h.len];exact hi)] at h1
   rw [zgl hi] at h2
   exact .inl ⟨h1,h2⟩
  ·rw [List.getElem?_append_right (by rw [h.len];omega)] at h1
   rw [List.getElem?_append_right (by omega)] at h2
   have e1:i-m.length=0:=by
    have:=(zge h2).1
    simpa using this
   rw [h.len] at h1
   rw [e1] at h1 h2
   simp at h1 h2
   exact .inr ⟨by omega,h1.symm,h2.symm⟩
 refine⟨by simp [h.len],fun i j a o1 o2 h1 h2 h3 h4 h5 h6=>?_,fun i a o' h1 h2=>?_⟩
 ·rcases cut i a o1 h1 h3 with⟨q1,q2⟩|⟨q1,q2,q3⟩
  ·rcases cut j a o2 h2 h4 with⟨r1,r2⟩|⟨r1,r2,r3⟩
   ·exact h.inj i j a o1 o2 q1 r1 q2 r2 h5 h6
   ·subst r2;exact(nomu i o1 q1 q2 h5).elim
  ·rcases cut j a o2 h2 h4 with⟨r1,r2⟩|⟨r1,r2,r3⟩
   ·subst q2;exact(nomu j o2 r1 r2 h6).elim
   ·omega
 ·rcases cut i a o' h1 h2 with⟨q1,q2⟩|⟨q1,q2,q3⟩
  ·exact old i a o' q1 q2
  ·subst q2 q3;exact hn
theorem RelM.set {K cl ρ H m}(h:RelM K cl ρ H m){i:Nat}{a:Addr}{u:HO}{o o':Ob}(ha:ρ[i]?=some a)(ho:m[i]?=some o)(hm:o.mu=true)(hm':o'.mu=true)(hn:RepO K ρ (upd H a u) cl o' a)(hl:o.lk=false:=by rfl):RelM K cl ρ (upd H a u) (m.set i o'):=by
 have e:Ext K ρ H ρ (upd H a u):=ext_set h ha ho hm hl
 have hi:i<m.length:=(zge ho).1
 refine⟨by simp [h.len],fun j k b o1 o2 h1 h2 h3 h4 h5 h6=>?_,fun j b o1 h1 h2=>?_⟩
 ·have at':∀(j:Nat) (o1:Ob),(m.set i o')[j]?=some o1→o1.mu=true→∃o2,m[j]?=some o2∧o2.mu=true:=fun j o1 q1 q2=>by
   by_cases hj:j=i
   ·exact⟨o,by rw [hj];exact ho,hm⟩
   ·rw [zsn (Ne.symm hj)] at q1
    exact⟨o1,q1,q2⟩
  obtain⟨x1,y1,z1⟩:=at' j o1 h3 h5
  obtain⟨x2,y2,z2⟩:=at' k o2 h4 h6
  exact h.inj j k b x1 x2 h1 h2 y1 y2 z1 z2
 ·by_cases hj:j=i
  ·subst hj
   rw [ha] at h1;cases h1
   rw [zss hi] at h2;cases h2
   exact hn
  ·rw [zsn (Ne.symm hj)] at h2
   have q:=h.ok j b o1 h1 h2
   by_cases hb:b=a
   ·subst hb
    cases hm1:o1.mu with
    | true=>exact absurd (h.inj j i b o1 o h1 ha h2 ho hm1 hm) hj
    | false=>
     cases o1 with
     | rol ps=>
      obtain⟨xs,q1,q2⟩:=q
      refine⟨xs,.inr ?_,e.repL _ _ q2⟩
      rcases q1 with⟨ob,q1⟩|q1
      ·obtain⟨v,r1,r2,r3⟩:=(h.ok i b o ha ho).there hm hl
       rw [q1] at r1;cases r1
       exact absurd rfl (r3 _ _)
      ·exact q1
     | _=>cases hm1
   ·exact q.ext e fun v r=>by rw [upd_ne hb];exact r
structure RelE (K:PySem.W.Frag) (ρ:List Addr) (H:Hp) (σ:L2.St) (env:Env):Prop where
 len:σ.length=env.length
 ok:∀(i:Nat) (p:PV),env[i]?=some (some p)→∃v,σ[i]?=some (some v)∧Rep K ρ H p v
theorem RelE.ext {K ρ H ρ' H' σ env}(h:RelE K ρ H σ env)(e:Ext K ρ H ρ' H'):RelE K ρ' H' σ env:=⟨h.len,fun i p q=>let ⟨v,h1,h2⟩:=h.ok i p q;⟨v,h1,e.rep _ _ h2⟩⟩
theorem RelE.set {K ρ H σ env}(h:RelE K ρ H σ env){p:PV}{v:V}(i:Nat)(r:Rep K ρ H p v):RelE K ρ H (σ.set i (some v)) (env.set i (some p)):=by
 refine⟨by simp [h.len],fun j q e=>?_⟩
 by_cases hj:j=i
 ·subst hj
  have hl:j<env.length:=by
   have:=(zge e).1
   simpa using this
  rw [zss hl] at e
  cases e
  exact⟨v,by rw [zss (by rw [h.len];exact hl)],r⟩
 ·rw [zsn (Ne.symm hj)] at e ⊢
  exact h.ok j q e
theorem RelE.wipe1 {K ρ H σ env}(h:RelE K ρ H σ env)(i:Nat):RelE K ρ H (σ.set i none) (env.set i none):=by
 refine⟨by simp [h.len],fun j q e=>?_⟩
 by_cases hj:j=i
 ·subst hj
  have hl:j<env.length:=by
   have:=(zge e).1
   simpa using this
  rw [zss hl] at e
  cases e
 ·rw [zsn (Ne.symm hj)] at e ⊢
  exact h.ok j q e
inductive Fl where
 | nx|rt (v:PV)|bk|ct
abbrev Ex:=Env→Mem→Option (PV×Mem)
abbrev Tx:=Env→Mem→Option (Bool×Mem)
abbrev Ax:=Env→Mem→Option (List PV×Mem)
abbrev Sx:=Env→Mem→Option (Fl×Env×Mem)
abbrev Fn:=List PV→Mem→Option (PV×Mem)
section
variable (K:PySem.W.Frag)(cl:Nat→Addr)
def KE (ρ:List Addr)(H:Hp)(r:PV×Mem)(Q:VK):Prop:=∀ ρ' v H',Ext K ρ H ρ' H'→RelM K cl ρ' H' r.2→Rep K ρ' H' r.1 v→Q v H'
def KT (ρ:List Addr)(H:Hp)(r:Bool×Mem)(Q:Bool→Hp→Prop):Prop:=∀ ρ' H',Ext K ρ H ρ' H'→RelM K cl ρ' H' r.2→Q r.1 H'
def KA (ρ:List Addr)(H:Hp)(r:List PV×Mem)(Q:List V→Hp→Prop):Prop:=∀ ρ' vs H',Ext K ρ H ρ' H'→RelM K cl ρ' H' r.2→RepL K ρ' H' r.1 vs→Q vs H'
def KS (ρ:List Addr)(H:Hp)(r:Fl×Env×Mem)(D:Ends):Prop:=∀ ρ' σ' H',Ext K ρ H ρ' H'→RelM K cl ρ' H' r.2.2→RelE K ρ' H' σ' r.2.1→match r.1 with
 | .nx=>D.nx σ' H'
 | .bk=>D.bk σ' H'
 | .ct=>D.ct σ' H'
 | .rt p=>∀v,Rep K ρ' H' p v→D.rt v H'
def TX (m:Ex):TE:=fun σ H Q=>∃ ρ env mem r,RelM K cl ρ H mem∧RelE K ρ H σ env∧m env mem=some r∧KE K cl ρ H r Q
def TTX (m:Tx):TT:=fun σ H Q=>∃ ρ env mem r,RelM K cl ρ H mem∧RelE K ρ H σ env∧m env mem=some r∧KT K cl ρ H r Q
def TAX (m:Ax):TA:=fun σ H Q=>∃ ρ env mem r,RelM K cl ρ H mem∧RelE K ρ H σ env∧m env mem=some r∧KA K cl ρ H r Q
def TSX (m:Sx):TS:=fun D σ H=>∃ ρ env mem r,RelM K cl ρ H mem∧RelE K ρ H σ env∧m env mem=some r∧KS K cl ρ H r D
def SpF (n:Nat)(F:Fn):Sp:=fun vs H Q _=>∃ ρ ps mem r,ps.length=n∧RelM K cl ρ H mem∧RepL K ρ H ps vs∧F ps mem=some r∧KE K cl ρ H r Q
def G2 (g:PV→PV→Mem→Option (PV×Mem)):R2:=fun x y H Q=>∃ ρ p q mem r,RelM K cl ρ H mem∧Rep K ρ H p x∧Rep K ρ H q y∧g p q mem=some r∧KE K cl ρ H r Q
def G1 (g:PV→Mem→Option (PV×Mem)):V→Hp→VK→Prop:=fun x H Q=>∃ ρ p mem r,RelM K cl ρ H mem∧Rep K ρ H p x∧g p mem=some r∧KE K cl ρ H r Q
def GL (g:List PV→Mem→Option (PV×Mem)):List V→Hp→VK→Prop:=fun xs H Q=>∃ ρ ps mem r,RelM K cl ρ H mem∧RepL K ρ H ps xs∧g ps mem=some r∧KE K cl ρ H r Q
def GM (g:PV→List PV→Mem→Option (PV×Mem)):V→List V→Hp→VK→Prop:=fun x xs H Q=>∃ ρ p ps mem r,RelM K cl ρ H mem∧Rep K ρ H p x∧RepL K ρ H ps xs∧g p ps mem=some r∧KE K cl ρ H r Q
end
section
variable {K:PySem.W.Frag}{cl:Nat→Addr}{ρ ρ':List Addr}{H H':Hp}
theorem KE.ext {r:PV×Mem}{Q:VK}(h:KE K cl ρ H r Q)(e:Ext K ρ H ρ' H'):KE K cl ρ' H' r Q:=fun ρ2 v H2 e2=>h ρ2 v H2 (e.trans e2)
theorem KT.ext {r:Bool×Mem}{Q:Bool→Hp→Prop}(h:KT K cl ρ H r Q)(e:Ext K ρ H ρ' H'):KT K cl ρ' H' r Q:=fun ρ2 H2 e2=>h ρ2 H2 (e.trans e2)
theorem KS.ext {r:Fl×Env×Mem}{D:Ends}(h:KS K cl ρ H r D)(e:Ext K ρ H ρ' H'):KS K cl ρ' H' r D:=fun ρ2 v H2 e2=>h ρ2 v H2 (e.trans e2)
end
section
variable {X:Cx}{cl:Nat→Addr}
theorem PE.imp {e:Expr}{t t':TE}(h:PE X e t)(hi:∀ σ H Q,t' σ H Q→t σ H Q):PE X e t':=⟨fun pins s σ H Q I q=>h.run pins s σ H Q I (hi _ _ _ q)⟩
theorem PE.or {e:Expr}{t t':TE}(h:PE X e t)(h':PE X e t'):PE X e (fun σ H Q=>t σ H Q∨t' σ H Q):=⟨fun pins s σ H Q I q=>q.elim (h.run pins s σ H Q I) (h'.run pins s σ H Q I)⟩
theorem PT.imp {e:Expr}{t t':TT}(h:PT X e t)(hi:∀ σ H Q,t' σ H Q→t σ H Q):PT X e t':=⟨fun pins s σ H Q I q=>h.run pins s σ H Q I (hi _ _ _ q)⟩
theorem PW.imp {e:Expr}{t t':TT}(h:PW X e t)(hi:∀ σ H Q,t' σ H Q→t σ H Q):PW X e t':=⟨fun wh pins s σ H Q I q=>h.run wh pins s σ H Q I (hi _ _ _ q)⟩
theorem PA.imp {e:List Expr}{t t':TA}(h:PA X e t)(hi:∀ σ H Q,t' σ H Q→t σ H Q):PA X e t':=⟨fun pos pins s σ H Q I q=>h.run pos pins s σ H Q I (hi _ _ _ q)⟩
theorem PS.imp {e:Stmt}{t t':TS}(h:PS X e t)(hi:∀D σ H,t' D σ H→t D σ H):PS X e t':=⟨fun pins s σ H D I q=>h.run pins s σ H D I (hi _ _ _ q)⟩
theorem PSs.imp {e:List Stmt}{t t':TS}(h:PSs X e t)(hi:∀D σ H,t' D σ H→t D σ H):PSs X e t':=⟨fun pins s σ H D I q=>h.run pins s σ H D I (hi _ _ _ q)⟩
abbrev RX (cl:Nat→Addr)(X:Cx)(e:Expr)(m:Ex):Prop:=PE X e (TX X.K cl m)
abbrev RT (cl:Nat→Addr)(X:Cx)(e:Expr)(m:Tx):Prop:=PT X e (TTX X.K cl m)
abbrev RW (cl:Nat→Addr)(X:Cx)(e:Expr)(m:Tx):Prop:=PW X e (TTX X.K cl m)
abbrev RA (cl:Nat→Addr)(X:Cx)(e:List Expr)(m:Ax):Prop:=PA X e (TAX X.K cl m)
abbrev RS (cl:Nat→Addr)(X:Cx)(e:Stmt)(m:Sx):Prop:=PS X e (TSX X.K cl m)
abbrev RSs (cl:Nat→Addr)(X:Cx)(e:List Stmt)(m:Sx):Prop:=PSs X e (TSX X.K cl m)
def Xv (i:Nat):Ex:=fun env m=>match env[i]? with
 | some (some p)=>some (p,m)
 | _=>none
def xC (p:PV):Ex:=fun _ m=>some (p,m)
theorem rx_var {i:Nat}{x:Str}{pos:Pos}(hN:X.N[i]?=some x)(hv:Vis X.env.scope x)(hd:(x == ("__debug__":Str))=false:=by decide)(hcd:(x == ("__classdict__":Str))=false:=by decide):RX cl X (.Name x pos) (Xv i):=
 PE.imp (pe_var hN hv hd hcd) fun σ H Q ⟨ρ,env,mem,r,hm,he,h,q⟩=>by
  unfold Xv at h
  split at h
  ·rename_i p hp
   cases h
   obtain⟨v,h1,h2⟩:=he.ok i p hp
   exact⟨v,h1,q ρ v H .refl hm h2⟩
  ·cases h
theorem rx_c {e:Expr}{p:PV}{v:V}(h:PE X e (tC v))(hr:∀ ρ H,Rep X.K ρ H p v):RX cl X e (xC p):=
 PE.imp h fun σ H Q ⟨ρ,env,mem,r,hm,he,h,q⟩=>by
  cases h
  exact q ρ v H .refl hm (hr ρ H)
theorem Rxi {i j pos}:RX cl X (.Constant (.int i) j pos) (xC (.int i)):=rx_c pe_int fun _ _=>by rw [Rep]
theorem rx_bl {i j pos}:RX cl X (.Constant (.bool i) j pos) (xC (.bl i)):=rx_c pe_bl fun _ _=>by rw [Rep]
theorem rx_non {j pos}:RX cl X (.Constant .none j pos) (xC .non):=rx_c pe_non fun _ _=>by rw [Rep]
theorem rx_str {i j pos}:RX cl X (.Constant (.str i) j pos) (xC (.str i)):=rx_c pe_str fun _ _=>by rw [Rep]
theorem rx_gint {x:Str}{i:Int}{pos:Pos}(h:∃t,X.mg x=some (.int i t))(hg:Gl X x)(hd:(x == ("__debug__":Str))=false:=by decide):RX cl X (.Name x pos) (xC (.int i)):=by
 obtain⟨t,h⟩:=h
 exact rx_c (v:=.int i) (pe_glob hg h ⟨t,rfl⟩ hd) fun _ _=>by rw [Rep]
def x1 (g:PV→Mem→Option (PV×Mem))(a:Ex):Ex:=fun env m=>(a env m).bind fun r=>g r.1 r.2
def x2 (g:PV→PV→Mem→Option (PV×Mem))(a b:Ex):Ex:=fun env m=>(a env m).bind fun r=>(b env r.2).bind fun s=>g r.1 s.1 s.2
theorem t1_of {g:PV→Mem→Option (PV×Mem)}{a:Ex} {σ H Q}(h:TX X.K cl (x1 g a) σ H Q):TX X.K cl a σ H fun x H1=>G1 X.K cl g x H1 Q:=by
 obtain⟨ρ,env,mem,r,hm,he,h,q⟩:=h
 unfold x1 at h
 obtain⟨r1,h1,h2⟩:=zbm h
 exact⟨ρ,env,mem,r1,hm,he,h1,fun ρ1 v1 H1 e1 m1 p1=>⟨ρ1,r1.1,r1.2,r,m1,p1,h2,q.ext e1⟩⟩
theorem t2_of {g:PV→PV→Mem→Option (PV×Mem)}{a b:Ex} {σ H Q}(h:TX X.K cl (x2 g a b) σ H Q):TX X.K cl a σ H fun x H1=>TX X.K cl b σ H1 fun y H2=>G2 X.K cl g x y H2 Q:=by
 obtain⟨ρ,env,mem,r,hm,he,h,q⟩:=h
 unfold x2 at h
 obtain⟨r1,h1,h⟩:=zbm h
 obtain⟨r2,h2,h3⟩:=zbm h
 exact⟨ρ,env,mem,r1,hm,he,h1,fun ρ1 v1 H1 e1 m1 p1=>⟨ρ1,env,r1.2,r2,m1,he.ext e1,h2,fun ρ2 v2 H2 e2 m2 p2=>⟨ρ2,r1.1,r2.1,r2.2,r,m2,e2.rep _ _ p1,p2,h3,q.ext (e1.trans e2)⟩⟩⟩
variable {a b c e o:Expr}{es:List Expr}{pos p apos:Pos}{ma mb mc me:Ex}{x:Str}
theorem rx_bin {op:Operator}{g:PV→PV→Mem→Option (PV×Mem)}(ho:OpR X (binaryOp op) (G2 X.K cl g))(ha:RX cl X a ma)(hb:RX cl X b mb):RX cl X (.BinOp a op b pos) (x2 g ma mb):=PE.imp (pe_op ho ha hb) fun _ _ _ h=>t2_of h
theorem rx_un {op:UnaryOp}{g:PV→Mem→Option (PV×Mem)}(ho:UnR X (unaryOp op) (G1 X.K cl g))(ha:RX cl X a ma):RX cl X (.UnaryOp op a pos) (x1 g ma):=PE.imp (pe_un ho ha) fun _ _ _ h=>t1_of h
theorem rx_cmp {op:CmpOp}{g:PV→PV→Mem→Option (PV×Mem)}(ho:OpR X (compareOp op) (G2 X.K cl g))(ha:RX cl X a ma)(hb:RX cl X b mb)(hm:behindInMarks op b=false):RX cl X (.Compare a [op] [b] pos) (x2 g ma mb):=PE.imp (pe_cmpR ho ha hb hm) fun _ _ _ h=>t2_of h
def tBl (a:Ex):Tx:=fun env m=>(a env m).bind fun r=>match r.1 with
 | .bl b=>some (b,r.2)
 | _=>none
theorem tBl_of {ma:Ex} {σ H Q}(h:TTX X.K cl (tBl ma) σ H Q):TX X.K cl ma σ H fun x H1=>∃k,x=.bl k∧Q k H1:=by
 obtain⟨ρ,env,mem,r,hm,he,h,q⟩:=h
 unfold tBl at h
 obtain⟨r1,h1,h2⟩:=zbm h
 refine⟨ρ,env,mem,r1,hm,he,h1,fun ρ1 v1 H1 e1 m1 p1=>?_⟩
 split at h2
 ·rename_i k hk
  cases h2
  rw [hk,rep_bl] at p1
  exact⟨k,p1,q ρ1 H1 e1 m1⟩
 ·cases h2
theorem rt_cmp {op:CmpOp}{g:PV→PV→Mem→Option (PV×Mem)}(ho:OpR X (compareOp op) (G2 X.K cl g))(ha:RX cl X a ma)(hb:RX cl X b mb)(hm:behindInMarks op b=false):RT cl X (.Compare a [op] [b] pos) (tBl (x2 g ma mb)):=
 PT.imp (pt_cmpR ho ha hb hm) fun _ _ _ h=>t2_of (tBl_of h)
def truG:PV→Mem→Option Bool
 | .non,_=>some false
 | .bl b,_=>some b
 | .int i,_=>some (decide (i≠0))
 | .str s,_=>if s.length≤sizeLine then some (decide (s.length≠0)) else none
 | .tup ps,_=>some (!ps.isEmpty)
 | .ref i,m=>match m[i]? with
  | some (.lst ps)=>some (!ps.isEmpty)
  | some (.rol ps)=>some (!ps.isEmpty)
  | some (.dic ps)=>some (!ps.isEmpty)
  | _=>none
def tTru (a:Ex):Tx:=fun env m=>(a env m).bind fun r=>(truG r.1 r.2).map fun k=>(k,r.2)
theorem RepL.empty {K ρ H ps xs}(h:RepL K ρ H ps xs):xs.isEmpty=ps.isEmpty:=by
 cases ps with
 | nil=>rw [h.inv0];rfl
 | cons p ps=>obtain⟨x,r,rfl,_⟩:=h.inv;rfl
theorem truG_ok {ρ:List Addr}{H:Hp}{mem:Mem}{p:PV}{v:V}{k:Bool}(hm:RelM X.K cl ρ H mem)(hp:Rep X.K ρ H p v)(h:truG p mem=some k):TruV X.K v H k:=by
 cases p with
 | non=>rw [rep_non] at hp;subst hp;cases h;rfl
 | bl b=>rw [rep_bl] at hp;subst hp;cases h;rfl
 | int i=>
  rw [rep_int] at hp;subst hp;cases h
  show decide (i≠0)=(i != 0)
  rw [bne,Bool.beq_eq_decide_eq]
  simp
 | str s=>
  rw [rep_str] at hp;subst hp
  simp only [truG] at h
  split at h
  ·rename_i hl
   cases h
   refine⟨hl,?_⟩
   rw [bne,Bool.beq_eq_decide_eq]
   by_cases z:s.length=0
   ·simp [z]
   ·have:¬((s.length:Int)=0):=by omega
    simp [z,this]
  ·cases h
 | tup ps=>
  rw [rep_tup] at hp
  obtain⟨a,xs,rfl,h1,h2⟩:=hp
  replace h1:=h1.t
  cases h
  exact .inr (.inl ⟨xs,h1,by rw [h2.empty]⟩)
 | ref i=>
  rw [rep_ref] at hp
  obtain⟨a,h1,rfl⟩:=hp
  simp only [truG] at h
  split at h
  ·rename_i ps e
   cases h
   obtain⟨xs,q1,q2⟩:=hm.ok i a _ h1 e
   exact .inl ⟨xs,.inl (.inl q1),by rw [q2.empty]⟩
  ·rename_i ps e
   cases h
   obtain⟨xs,q1,q2⟩:=hm.ok i a _ h1 e
   refine .inl ⟨xs,?_,by rw [q2.empty]⟩
   rcases q1 with⟨ob,q1⟩|q1
   ·exact .inl (.inr ⟨ob,q1⟩)
   ·exact q1 H
  ·rename_i ps e
   cases h
   obtain⟨xs,q1,q2⟩:=hm.ok i a _ h1 e
   refine .inr (.inr ⟨xs,q1,?_⟩)
   cases q2<;>rfl
  ·cases h
theorem rt_tru (ha:RX cl X a ma)(he:∀whole,isTrue a X.env whole=(do let v ←whole;standAt a.pos;holding [v] (truthy v)):=by intro _;rfl):RT cl X a (tTru ma):=
 PT.imp (pt_truth ha he) fun σ H Q ⟨ρ,env,mem,r,hm,hE,h,q⟩=>by
  unfold tTru at h
  obtain⟨r1,h1,h2⟩:=zbm h
  obtain⟨k,h4,h3⟩:=zmm h2
  subst h3
  exact⟨ρ,env,mem,r1,hm,hE,h1,fun ρ1 v1 H1 e1 m1 p1=>⟨k,truG_ok m1 p1 h4,q ρ1 H1 e1 m1⟩⟩
def tNt (a:Tx):Tx:=fun env m=>(a env m).map fun r=>(!r.1,r.2)
def tAn (a b:Tx):Tx:=fun env m=>(a env m).bind fun r=>if r.1=true then b env r.2 else some (false,r.2)
def tOr' (a b:Tx):Tx:=fun env m=>(a env m).bind fun r=>if r.1=true then some (true,r.2) else b env r.2
variable {ta tb:Tx}{rest:List Expr}
theorem rt_not (ha:RT cl X a ta):RT cl X (.UnaryOp .Not a pos) (tNt ta):=
 PT.imp (pt_not ha) fun σ H Q ⟨ρ,env,mem,r,hm,hE,h,q⟩=>by
  unfold tNt at h
  obtain⟨r1,h1,h2⟩:=zmm h
  subst h2
  exact⟨ρ,env,mem,r1,hm,hE,h1,fun ρ1 H1 e1 m1=>q ρ1 H1 e1 m1⟩
theorem rw_and1 (ha:RT cl X a ta):RW cl X (.BoolOp .And [a] pos) ta:=pw_and1 ha
theorem rw_or1 (ha:RT cl X a ta):RW cl X (.BoolOp .Or [a] pos) ta:=pw_or1 ha
theorem rw_and (ha:RT cl X a ta)(hb:RW cl X (.BoolOp .And (b::rest) pos) tb):RW cl X (.BoolOp .And (a::b::rest) pos) (tAn ta tb):=
 PW.imp (pw_and ha hb) fun σ H Q ⟨ρ,env,mem,r,hm,hE,h,q⟩=>by
  unfold tAn at h
  obtain⟨r1,h1,h2⟩:=zbm h
  refine⟨ρ,env,mem,r1,hm,hE,h1,fun ρ1 H1 e1 m1=>?_⟩
  split at h2
  ·rename_i k
   rw [if_pos k]
   exact⟨ρ1,env,r1.2,r,m1,hE.ext e1,h2,q.ext e1⟩
  ·rename_i k
   rw [if_neg k]
   cases h2
   exact q ρ1 H1 e1 m1
theorem rw_or (ha:RT cl X a ta)(hb:RW cl X (.BoolOp .Or (b::rest) pos) tb):RW cl X (.BoolOp .Or (a::b::rest) pos) (tOr' ta tb):=
 PW.imp (pw_or ha hb) fun σ H Q ⟨ρ,env,mem,r,hm,hE,h,q⟩=>by
  unfold tOr' at h
  obtain⟨r1,h1,h2⟩:=zbm h
  refine⟨ρ,env,mem,r1,hm,hE,h1,fun ρ1 H1 e1 m1=>?_⟩
  split at h2
  ·rename_i k
   rw [if_pos k]
   cases h2
   exact q ρ1 H1 e1 m1
  ·rename_i k
   rw [if_neg k]
   exact⟨ρ1,env,r1.2,r,m1,hE.ext e1,h2,q.ext e1⟩
theorem rt_w (h:RW cl X a ta):RT cl X a ta:=h.pt
def xNt (a:Ex):Ex:=fun env m=>(a env m).bind fun r=>match r.1 with
 | .bl b=>some (.bl (!b),r.2)
 | _=>none
def xAn (a b:Ex):Ex:=fun env m=>(a env m).bind fun r=>match r.1 with
 | .bl k=>if k=true then b env r.2 else some (.bl false,r.2)
 | _=>none
def xOr (a b:Ex):Ex:=fun env m=>(a env m).bind fun r=>match r.1 with
 | .bl k=>if k=true then some (.bl true,r.2) else b env r.2
 | _=>none
def xIf (t:Tx)(a b:Ex):Ex:=fun env m=>(t env m).bind fun r=>if r.1=true then a env r.2 else b env r.2
theorem rx_not (ha:RX cl X a ma):RX cl X (.UnaryOp .Not a pos) (xNt ma):=
 PE.imp (pe_not ha) fun σ H Q ⟨ρ,env,mem,r,hm,hE,h,q⟩=>by
  unfold xNt at h
  obtain⟨r1,h1,h2⟩:=zbm h
  refine⟨ρ,env,mem,r1,hm,hE,h1,fun ρ1 v1 H1 e1 m1 p1=>?_⟩
  split at h2
  ·rename_i k hk
   cases h2
   rw [hk,rep_bl] at p1
   exact⟨k,p1,q ρ1 _ H1 e1 m1 (by rw [Rep])⟩
  ·cases h2
theorem rx_one {op}(h:RX cl X a ma):RX cl X (.BoolOp op [a] pos) ma:=pe_one h
theorem rx_and (ha:RX cl X a ma)(hb:RX cl X (.BoolOp .And (b::rest) pos) mb):RX cl X (.BoolOp .And (a::b::rest) pos) (xAn ma mb):=
 PE.imp (pe_and ha hb) fun σ H Q ⟨ρ,env,mem,r,hm,hE,h,q⟩=>by
  unfold xAn at h
  obtain⟨r1,h1,h2⟩:=zbm h
  refine⟨ρ,env,mem,r1,hm,hE,h1,fun ρ1 v1 H1 e1 m1 p1=>?_⟩
  split at h2
  ·rename_i k hk
   rw [hk,rep_bl] at p1
   refine⟨k,p1,?_⟩
   split at h2
   ·rename_i z
    rw [if_pos z]
    exact⟨ρ1,env,r1.2,r,m1,hE.ext e1,h2,q.ext e1⟩
   ·rename_i z
    rw [if_neg z]
    cases h2
    exact q ρ1 _ H1 e1 m1 (by rw [Rep])
  ·cases h2
theorem rx_or (ha:RX cl X a ma)(hb:RX cl X (.BoolOp .Or (b::rest) pos) mb):RX cl X (.BoolOp .Or (a::b::rest) pos) (xOr ma mb):=
 PE.imp (pe_or ha hb) fun σ H Q ⟨ρ,env,mem,r,hm,hE,h,q⟩=>by
  unfold xOr at h
  obtain⟨r1,h1,h2⟩:=zbm h
  refine⟨ρ,env,mem,r1,hm,hE,h1,fun ρ1 v1 H1 e1 m1 p1=>?_⟩
  split at h2
  ·rename_i k hk
   rw [hk,rep_bl] at p1
   refine⟨k,p1,?_⟩
   split at h2
   ·rename_i z
    rw [if_pos z]
    cases h2
    exact q ρ1 _ H1 e1 m1 (by rw [Rep])
   ·rename_i z
    rw [if_neg z]
    exact⟨ρ1,env,r1.2,r,m1,hE.ext e1,h2,q.ext e1⟩
  ·cases h2
theorem rx_ife (hc:RT cl X c ta)(ha:RX cl X a ma)(hb:RX cl X b mb):RX cl X (.IfExp c a b pos) (xIf ta ma mb):=
 PE.imp (pe_ifExp hc ha hb) fun σ H Q ⟨ρ,env,mem,r,hm,hE,h,q⟩=>by
  unfold xIf at h
  obtain⟨r1,h1,h2⟩:=zbm h
  refine⟨ρ,env,mem,r1,hm,hE,h1,fun ρ1 H1 e1 m1=>?_⟩
  split at h2
  ·rename_i z
   rw [if_pos z]
   exact⟨ρ1,env,r1.2,r,m1,hE.ext e1,h2,q.ext e1⟩
  ·rename_i z
   rw [if_neg z]
   exact⟨ρ1,env,r1.2,r,m1,hE.ext e1,h2,q.ext e1⟩
def An:Ax:=fun _ m=>some ([],m)
def Ac (a:Ex)(r:Ax):Ax:=fun env m=>(a env m).bind fun x=>(r env x.2).bind fun xs=>some (x.1::xs.1,xs.2)
theorem Rn:RA cl X [] An:=PA.imp pa_nil fun σ H Q ⟨ρ,env,mem,r,hm,hE,h,q⟩=>by
 cases h
 exact q ρ [] H .refl hm .nil
theorem Rc {ma:Ex}{mr:Ax}(ha:RX cl X e ma)(hr:RA cl X es mr)(hs:starEach (e::es) X.env=(false,eval e X.env)::starEach es X.env:=by rfl):RA cl X (e::es) (Ac ma mr):=
 PA.imp (pa_cons ha hr hs) fun σ H Q ⟨ρ,env,mem,r,hm,hE,h,q⟩=>by
  unfold Ac at h
  obtain⟨r1,h1,h⟩:=zbm h
  obtain⟨r2,h2,h3⟩:=zbm h
  cases h3
  exact⟨ρ,env,mem,r1,hm,hE,h1,fun ρ1 v1 H1 e1 m1 p1=>⟨ρ1,env,r1.2,r2,m1,hE.ext e1,h2,fun ρ2 vs H2 e2 m2 p2=>q ρ2 _ H2 (e1.trans e2) m2 (.cons (e2.rep _ _ p1) p2)⟩⟩
variable {mA:Ax}
def xA (g:List PV→Mem→Option (PV×Mem))(a:Ax):Ex:=fun env m=>(a env m).bind fun r=>g r.1 r.2
theorem tA_of {g:List PV→Mem→Option (PV×Mem)}{a:Ax} {σ H Q}(h:TX X.K cl (xA g a) σ H Q):TAX X.K cl a σ H fun x H1=>GL X.K cl g x H1 Q:=by
 obtain⟨ρ,env,mem,r,hm,he,h,q⟩:=h
 unfold xA at h
 obtain⟨r1,h1,h2⟩:=zbm h
 exact⟨ρ,env,mem,r1,hm,he,h1,fun ρ1 v1 H1 e1 m1 p1=>⟨ρ1,r1.1,r1.2,r,m1,p1,h2,q.ext e1⟩⟩
def tupG:List PV→Mem→Option (PV×Mem):=fun ps m=>if ps.length≤sizeLine then some (.tup ps,m) else none
def lstG:List PV→Mem→Option (PV×Mem):=fun ps m=>if ps.length≤sizeLine then some (.ref m.length,m++[.lst ps]) else none
theorem new_tup {ρ H mem xs ps p}{ob:Obj}(hd:ob.dict=none)(hm:RelM X.K cl ρ H mem)(h:RepL X.K ρ H ps xs)(hp:H p=none):Ext X.K ρ H ρ (upd H p (.frz ob (.tup xs)))∧RelM X.K cl ρ (upd H p (.frz ob (.tup xs))) mem∧Rep X.K ρ (upd H p (.frz ob (.tup xs))) (.tup ps) (.ref p):=by
 have e:Ext X.K ρ H ρ (upd H p (.frz ob (.tup xs))):=by
  have:=ext_new (K:=X.K) (ρ:=ρ) (o:=.frz ob (.tup xs)) hp []
  rwa [List.append_nil] at this
 refine⟨e,⟨hm.len,hm.inj,fun i a o h1 h2=>(hm.ok i a o h1 h2).ext e fun u q=>by rw [upd_ne (ne_of_none q hp)];exact q⟩,?_⟩
 rw [rep_tup]
 exact⟨p,xs,rfl,.inl ⟨ob,upd_same,hd⟩,e.repL _ _ h⟩
theorem laid_tup {pins:List (Addr×Obj)}{σ:L2.St}{H:Hp}{s:Shared}{xs:List V}{us:List Value}{Q:VK}(I:Inv X pins σ H s)(hz:xs.length≤sizeLine)(r:Vals xs us)
  (q:∀(p:Addr) (ob:Obj),ob.dict=none→H p=none→Q (.ref p) (upd H p (.frz ob (.tup xs)))):EP X pins σ Q (.ref s.heap.objs.size) { s with heap:=s.heap.push { cls:=.type "tuple",data:=.seq us.toArray } }:=
 ⟨.ref s.heap.objs.size,upd H s.heap.objs.size (.frz { cls:=.type "tuple",data:=.seq us.toArray } (.tup xs)),I.laid (t':=s.toks) (fun b u e=>Heap.get?_push_of_some _ e) (znr _)
  (show ObjOk X.prog X.w _ _ _ (.frz _ (.tup xs)) from⟨Heap.get?_push_size _ rfl,hz,us,r,⟨_,Heap.get?_push_size _ rfl,rfl,_,rfl⟩⟩),rfl,q _ _ rfl (I.hok.fresh (znr _))⟩
def tTupP (t:TA):TE:=fun σ H Q=>t σ H fun xs H1=>xs.length≤sizeLine∧∀(p:Addr) (ob:Obj),ob.dict=none→H1 p=none→Q (.ref p) (upd H1 p (.frz ob (.tup xs)))
theorem pe_tupP {x1:Nat}{t:TA}(h:PA X es t):PE X (.Tuple es x1 pos) (tTupP t):=by
 refine⟨fun pins s σ H Q I hq=>?_⟩
 refine PySem.wpAny_Tuple_spliced (thn (h.run pos pins s σ H _ I hq) fun us s1 ⟨xs,H1,I1,r,z,q⟩=>⟨by rw [←r.length];exact z,?_⟩)
 exact laid_tup I1 z r q
theorem new_lst {ρ H mem xs ps p}(hm:RelM X.K cl ρ H mem)(h:RepL X.K ρ H ps xs)(hp:H p=none):Ext X.K ρ H (ρ++[p]) (upd H p (.lst xs))∧RelM X.K cl (ρ++[p]) (upd H p (.lst xs)) (mem++[.lst ps])∧Rep X.K (ρ++[p]) (upd H p (.lst xs)) (.ref mem.length) (.ref p):=by
 have e:Ext X.K ρ H (ρ++[p]) (upd H p (.lst xs)):=ext_new hp _
 refine⟨e,hm.alloc hp ⟨xs,upd_same,e.repL _ _ h⟩,?_⟩
 rw [rep_ref]
 exact⟨p,by rw [←hm.len];simp,rfl⟩
theorem rx_tup {k:Nat}(h:RA cl X es mA):RX cl X (.Tuple es k pos) (xA tupG mA):=PE.imp (pe_tupP h) fun σ H Q hw=>by
 obtain⟨ρ,env,mem,r,hm,hE,h1,q⟩:=tA_of hw
 refine⟨ρ,env,mem,r,hm,hE,h1,fun ρ1 vs H1 e1 m1 p1=>?_⟩
 obtain⟨ρ2,ps,mem2,r2,n1,n2,n3,n4⟩:=q ρ1 vs H1 e1 m1 p1
 unfold tupG at n3
 split at n3
 ·rename_i hz
  cases n3
  refine⟨by rw [n2.length];exact hz,fun p ob hob hp=>?_⟩
  obtain⟨z1,z2,z3⟩:=new_tup hob n1 n2 hp
  exact n4 _ _ _ z1 z2 z3
 ·cases n3
theorem rx_lst (h:RA cl X es mA):RX cl X (.List es pos) (xA lstG mA):=PE.imp (pe_lst h) fun σ H Q hw=>by
 obtain⟨ρ,env,mem,r,hm,hE,h1,q⟩:=tA_of hw
 refine⟨ρ,env,mem,r,hm,hE,h1,fun ρ1 vs H1 e1 m1 p1=>?_⟩
 obtain⟨ρ2,ps,mem2,r2,n1,n2,n3,n4⟩:=q ρ1 vs H1 e1 m1 p1
 unfold lstG at n3
 split at n3
 ·rename_i hz
  cases n3
  refine⟨by rw [n2.length];exact hz,fun p hp=>?_⟩
  obtain⟨z1,z2,z3⟩:=new_lst n1 n2 hp
  exact n4 _ _ _ z1 z2 z3
 ·cases n3
def Xc (n:Nat)(F:Fn)(a:Ax):Ex:=fun env m=>(a env m).bind fun r=>if r.1.length=n then F r.1 r.2 else none
theorem tCall_of {n:Nat}{F:Fn} {σ H Q}(h:TX X.K cl (Xc n F mA) σ H Q):TAX X.K cl mA σ H fun vs H1=>SpF X.K cl n F (vs++[]) H1 Q E0:=by
 obtain⟨ρ,env,mem,r,hm,hE,h,q⟩:=h
 unfold Xc at h
 obtain⟨r1,h1,h2⟩:=zbm h
 refine⟨ρ,env,mem,r1,hm,hE,h1,fun ρ1 v1 H1 e1 m1 p1=>?_⟩
 split at h2
 ·rename_i hl
  refine⟨ρ1,r1.1,r1.2,r,hl,m1,by rw [List.append_nil];exact p1,h2,q.ext e1⟩
 ·cases h2
section
variable {k j n:Nat}{F:Fn}{C:Nat}{m:Str}
theorem Rxc (c:C8.Cal X.prog X.w X.K X.mg X.base k x (SpF X.K cl n F) [])(hr:Room j X.A)(hk:k≤j)(hg:Gl X x)(ha:RA cl X (e::es) mA)
  (hdb:(x == ("__debug__":Str))=false:=by decide) (he:starEach (e::es) X.env=(false,eval e X.env)::starEach es X.env:=by rfl) (hpl:(backTo pos (starEach es X.env)).any (·.1)=false:=by rfl):RX cl X (.Call (.Name x p) (e::es) [] pos) (Xc n F mA):=
 PE.imp (C8.pe_c c hr hk hg ha hdb he hpl) fun _ _ _ h=>tCall_of h
theorem rx_call0 (c:C8.Cal X.prog X.w X.K X.mg X.base k x (SpF X.K cl n F) [])(hr:Room j X.A)(hk:k≤j)(hg:Gl X x)(hdb:(x == ("__debug__":Str))=false:=by decide):RX cl X (.Call (.Name x p) [] [] pos) (Xc n F An):=by
 obtain⟨f,fd,ps,ds,F',hm,kp,b,d⟩:=c.ex
 refine PE.imp (pe_call0 F' (hr.mono hk) hg hm kp b d pass0 hdb) fun σ H Q h=>?_
 obtain⟨ρ,env,mem,r,hm,hE,h,q⟩:=h
 unfold Xc An at h
 rw [zob] at h
 split at h
 ·rename_i hl
  exact⟨ρ,[],mem,r,hl,hm,RepL.nil,h,q⟩
 ·cases h
def insG (C:Nat)(m:Str)(p:PV)(mem:Mem):Bool:=match p with
 | .ref i=>match mem[i]? with
  | some (.ins c fs)=>decide (c=C)&&(fs.lookup m).isNone
  | _=>false
 | _=>false
def xMeth (C:Nat)(m:Str)(n:Nat)(F:Fn)(o:Ex)(a:Ax):Ex:=fun env mem=>(o env mem).bind fun r=>if insG C m r.1 r.2=true then(a env r.2).bind fun s=>if s.1.length=n then F (r.1::s.1) s.2 else none else none
def xMake (C n:Nat)(F:Fn)(a:Ax):Ex:=fun env m=>(a env m).bind fun r=>if r.1.length=n then(F (.ref r.2.length::r.1) (r.2++[.ins C []])).bind fun s=>match s.1 with
 | .non=>some (.ref r.2.length,s.2)
 | _=>none else none
theorem rx_callB {id:String}{g:List PV→Mem→Option (PV×Mem)}(hc:CallR X (.builtin id) (GL X.K cl g))(hg:Gl X x)(hm:X.mg x=none)(hv:bootBuiltins x=some (.builtin id))(ha:RA cl X (e::es) mA)(hn:x≠"__name__":=by decide)(hdb:(x == ("__debug__":Str))=false:=by decide)
  (he:starEach (e::es) X.env=(false,eval e X.env)::starEach es X.env:=by rfl) (hpl:(backTo pos (starEach es X.env)).any (·.1)=false:=by rfl):RX cl X (.Call (.Name x p) (e::es) [] pos) (xA g mA):=
 PE.imp (pe_callB hc hg hm hv ha hn hdb he hpl) fun _ _ _ h=>tA_of h
theorem rx_callTy {id:String}{g:List PV→Mem→Option (PV×Mem)}(hc:CallR X (.type id) (GL X.K cl g))(hg:Gl X x)(hm:X.mg x=none)(hv:bootBuiltins x=some (.type id))(ha:RA cl X (e::es) mA)(hn:x≠"__name__":=by decide)(hdb:(x == ("__debug__":Str))=false:=by decide)
  (he:starEach (e::es) X.env=(false,eval e X.env)::starEach es X.env:=by rfl) (hpl:(backTo pos (starEach es X.env)).any (·.1)=false:=by rfl):RX cl X (.Call (.Name x p) (e::es) [] pos) (xA g mA):=
 PE.imp (pe_callTy hc hg hm hv ha hn hdb he hpl) fun _ _ _ h=>tA_of h
end
end
theorem RepL.atI {K ρ H}{ps:List PV}{xs:List V}{i:Int}{p:PV}(h:RepL K ρ H ps xs)(e:L2.atI ps i=some p):∃x,L2.atI xs i=some x∧Rep K ρ H p x:=by
 unfold L2.atI at e ⊢
 rw [h.length]
 cases z:ixN ps.length i with
 | none=>rw [z] at e;cases e
 | some j=>
  rw [z] at e
  exact h.get e
def keyOf:PV→Option Key
 | .int i=>some (.inl i)
 | .str s=>some (.inr s)
 | _=>none
def valP {κ:Type} [DecidableEq κ](kvs:List (κ×PV))(k:κ):Option PV:=(kvs.find? fun kv=>decide (kv.1=k)).map (·.2)
def putP {κ:Type} [DecidableEq κ](kvs:List (κ×PV))(k:κ)(v:PV):List (κ×PV):=
 if(kvs.any fun kv=>decide (kv.1=k))=true then kvs.map (fun kv=>if kv.1=k then(kv.1,v) else kv) else kvs++[(k,v)]
theorem keyOf_rep {K ρ H p v k}(h:Rep K ρ H p v)(e:keyOf p=some k):v=kV k:=by
 cases p with
 | int i=>cases e;rw [rep_int] at h;exact h
 | str i=>cases e;rw [rep_str] at h;exact h
 | _=>cases e
section
variable {κ:Type} [DecidableEq κ]{K:PySem.W.Frag}{ρ:List Addr}{H:Hp}
theorem valP_rep (k:κ):∀ {kvs:List (κ×PV)} {kws:List (κ×V)},RepF K ρ H kvs kws→match valP kvs k with
  | some p=>∃v,valV kws k=some v∧Rep K ρ H p v
  | none=>valV kws k=none
 | _,_,.nil=>rfl
 | (a,p)::fs,(b,v)::gs,.cons h t=>by
  obtain⟨h1,h2⟩:=h
  have h1:a=b:=h1
  subst h1
  unfold valP valV
  rw [List.find?_cons,List.find?_cons]
  by_cases z:a=k
  ·simp only [z,decide_true]
   exact⟨v,rfl,h2⟩
  ·simp only [z,decide_false]
   exact valP_rep k t
theorem any_rep (k:κ):∀ {kvs:List (κ×PV)} {kws:List (κ×V)},RepF K ρ H kvs kws→(kvs.any fun kv=>decide (kv.1=k))=(kws.any fun kv=>decide (kv.1=k))
 | _,_,.nil=>rfl
 | (a,p)::fs,(b,v)::gs,.cons h t=>by
  obtain⟨h1,h2⟩:=h
  have h1:a=b:=h1
  subst h1
  rw [List.any_cons,List.any_cons,any_rep k t]
theorem map_rep (k:κ){p:PV}{v:V}(r:Rep K ρ H p v):∀ {kvs:List (κ×PV)} {kws:List (κ×V)},RepF K ρ H kvs kws→RepF K ρ H (kvs.map fun kv=>if kv.1=k then(kv.1,p) else kv) (kws.map fun kv=>if kv.1=k then(kv.1,v) else kv)
 | _,_,.nil=>.nil
 | (a,q)::fs,(b,w)::gs,.cons h t=>by
  obtain⟨h1,h2⟩:=h
  have h1:a=b:=h1
  subst h1
  rw [zmc,zmc]
  refine .cons ?_ (map_rep k r t)
  by_cases z:a=k
  ·rw [if_pos z,if_pos z];exact⟨rfl,r⟩
  ·rw [if_neg z,if_neg z];exact⟨rfl,h2⟩
theorem paired_append {α β:Type}{R:α→β→Prop}:∀ {a:List α} {b:List β} {a':List α} {b':List β},Paired R a b→Paired R a' b'→Paired R (a++a') (b++b')
 | _,_,_,_,.nil,h=>h
 | _,_,_,_,.cons r t,h=>.cons r (paired_append t h)
theorem putP_rep {kvs:List (κ×PV)}{kws:List (κ×V)}(h:RepF K ρ H kvs kws)(k:κ){p:PV}{v:V}(r:Rep K ρ H p v):RepF K ρ H (putP kvs k p) (putK kws k v):=by
 unfold putP putK
 rw [any_rep k h]
 split
 ·exact map_rep k r h
 ·exact paired_append h (.cons ⟨rfl,r⟩ .nil)
end
def seqAt (ps:List PV)(q:PV)(m:Mem):Option (PV×Mem):=match q with
 | .int i=>(atI ps i).map (·,m)
 | _=>none
def ixG:PV→PV→Mem→Option (PV×Mem)
 | .tup ps,q,m=>seqAt ps q m
 | .str z,.int i,m=>if z.length≤sizeLine then(atI z.cps.toList i).map fun c=>(.str ⟨#[c]⟩,m) else none
 | .ref r,q,m=>match m[r]? with
  | some (.lst ps)=>seqAt ps q m
  | some (.rol ps)=>seqAt ps q m
  | some (.dic kvs)=>(keyOf q).bind fun k=>(valP kvs k).map (·,m)
  | _=>none
 | _,_,_=>none
def isDic (p:PV)(m:Mem):Bool:=match p with
 | .ref r=>match m[r]? with
  | some (.dic _)=>true
  | _=>false
 | _=>false
section
variable {X:Cx}{cl:Nat→Addr}
theorem seqAt_rep {ρ H mem ps xs q y r}(h:RepL X.K ρ H ps xs)(hq:Rep X.K ρ H q y)(e:seqAt ps q mem=some r):∃i x,y=.int i∧L2.atI xs i=some x∧Rep X.K ρ H r.1 x∧r.2=mem:=by
 unfold seqAt at e
 split at e
 ·rename_i i
  rw [rep_int] at hq
  obtain⟨p,e1,e2⟩:=zmm e
  subst e2
  obtain⟨x,h1,h2⟩:=h.atI e1
  exact⟨i,x,hq,h1,h2,rfl⟩
 ·cases e
theorem sq_of {ρ:List Addr}{H:Hp}{mem:Mem}{i:Nat}{a:Addr}{ps:List PV}(hm:RelM X.K cl ρ H mem)(ha:ρ[i]?=some a)(h:mem[i]?=some (Ob.lst ps)∨mem[i]?=some (Ob.rol ps)):∃xs,SqL X.K H a xs∧RepL X.K ρ H ps xs:=by
 rcases h with h|h
 ·obtain⟨xs,q1,q2⟩:=hm.ok i a _ ha h
  exact⟨xs,.inl (.inl q1),q2⟩
 ·obtain⟨xs,q1,q2⟩:=hm.ok i a _ ha h
  refine⟨xs,?_,q2⟩
  rcases q1 with⟨ob,q1⟩|q1
  ·exact .inl (.inr ⟨ob,q1⟩)
  ·exact q1 H
theorem ixG_seq {ρ H mem p q r x y Q}(hm:RelM X.K cl ρ H mem)(hp:Rep X.K ρ H p x)(hq:Rep X.K ρ H q y)(h:ixG p q mem=some r)(hd:isDic p mem=false)(k:KE X.K cl ρ H r Q):rIx X.K x y H Q:=by
 cases p with
 | tup ps=>
  rw [rep_tup] at hp
  obtain⟨a,xs,rfl,h1,h2⟩:=hp
  replace h1:=h1.t
  obtain⟨i,z,rfl,e1,e2,e3⟩:=seqAt_rep h2 hq h
  exact .inr (.inl ⟨a,xs,i,z,rfl,rfl,h1,e1,k ρ z H .refl (by rw [e3];exact hm) e2⟩)
 | str z=>
  rw [rep_str] at hp
  subst hp
  cases q with
  | int i=>
   rw [rep_int] at hq
   subst hq
   simp only [ixG] at h
   split at h
   ·rename_i hz
    obtain⟨c,e1,e2⟩:=zmm h
    subst e2
    exact .inr (.inr ⟨z,i,c,rfl,rfl,hz,e1,k ρ _ H .refl hm (by rw [Rep])⟩)
   ·cases h
  | _=>cases h
 | ref i=>
  rw [rep_ref] at hp
  obtain⟨a,ha,rfl⟩:=hp
  simp only [ixG] at h
  simp only [isDic] at hd
  split at h
  ·rename_i ps e
   obtain⟨xs,s1,s2⟩:=sq_of hm ha (.inl e)
   obtain⟨i,z,rfl,e1,e2,e3⟩:=seqAt_rep s2 hq h
   exact .inl ⟨a,xs,i,z,rfl,rfl,s1,e1,k ρ z H .refl (by rw [e3];exact hm) e2⟩
  ·rename_i ps e
   obtain⟨xs,s1,s2⟩:=sq_of hm ha (.inr e)
   obtain⟨i,z,rfl,e1,e2,e3⟩:=seqAt_rep s2 hq h
   exact .inl ⟨a,xs,i,z,rfl,rfl,s1,e1,k ρ z H .refl (by rw [e3];exact hm) e2⟩
  ·rename_i kvs e
   rw [e] at hd
   cases hd
  ·cases h
 | _=>cases h
theorem ixG_dic {ρ H mem p q r x y Q}(hm:RelM X.K cl ρ H mem)(hp:Rep X.K ρ H p x)(hq:Rep X.K ρ H q y)(h:ixG p q mem=some r)(hd:isDic p mem=true)(k:KE X.K cl ρ H r Q):∃a v,x=.ref a∧DGet H a y (some v)∧Q v H:=by
 unfold isDic at hd
 split at hd
 ·rename_i i
  rw [rep_ref] at hp
  obtain⟨a,ha,rfl⟩:=hp
  split at hd
  ·rename_i kvs e
   simp only [ixG,e] at h
   obtain⟨k1,h1,h2⟩:=zbm h
   obtain⟨v1,h3,h4⟩:=zmm h2
   subst h4
   obtain⟨kws,z1,z2⟩:=hm.ok i a _ ha e
   have z3:=valP_rep k1 z2
   rw [h3] at z3
   obtain⟨w,z4,z5⟩:=z3
   have ey:=keyOf_rep hq h1
   subst ey
   refine⟨a,w,rfl,?_,k ρ w H .refl hm z5⟩
   have:=DGet.k (k:=k1) z1
   rwa [z4] at this
  ·cases hd
 ·cases hd
variable {a b c e o:Expr}{es:List Expr}{pos p apos pos':Pos}{ma mb mc me mo mi:Ex}{x f:Str}
theorem rx_ix (hu:X.A.units+1<cLine)(ha:RX cl X a ma)(hb:RX cl X b mb)(hs:PlainIx b):RX cl X (.Subscript a b pos) (x2 ixG ma mb):=
 PE.imp (PE.or (pe_ix ix_seq ha hb hs) (pe_dget hu ha hb hs)) fun σ H Q h=>by
  obtain⟨ρ,env,mem,r,hm,he,h,q⟩:=h
  unfold x2 at h
  obtain⟨r1,h1,h⟩:=zbm h
  obtain⟨r2,h2,h3⟩:=zbm h
  cases hd:isDic r1.1 r2.2 with
  | false=>exact .inl ⟨ρ,env,mem,r1,hm,he,h1,fun ρ1 v1 H1 e1 m1 p1=>⟨ρ1,env,r1.2,r2,m1,he.ext e1,h2,fun ρ2 v2 H2 e2 m2 p2=>ixG_seq m2 (e2.rep _ _ p1) p2 h3 hd (q.ext (e1.trans e2))⟩⟩
  | true=>exact .inr ⟨ρ,env,mem,r1,hm,he,h1,fun ρ1 v1 H1 e1 m1 p1=>⟨ρ1,env,r1.2,r2,m1,he.ext e1,h2,fun ρ2 v2 H2 e2 m2 p2=>ixG_dic m2 (e2.rep _ _ p1) p2 h3 hd (q.ext (e1.trans e2))⟩⟩
abbrev Ox:=Env→Mem→Option (Option Int×Mem)
def TOX (K:PySem.W.Frag)(cl:Nat→Addr)(m:Ox):TO:=fun σ H Q=>∃ ρ env mem r,RelM K cl ρ H mem∧RelE K ρ H σ env∧m env mem=some r∧∀ ρ' H',Ext K ρ H ρ' H'→RelM K cl ρ' H' r.2→Q r.1 H'
abbrev RO (cl:Nat→Addr)(X:Cx)(e:Option Expr)(m:Ox):Prop:=PO X e (TOX X.K cl m)
theorem PO.imp {e:Option Expr}{t t':TO}(h:PO X e t)(hi:∀ σ H Q,t' σ H Q→t σ H Q):PO X e t':=⟨fun pins s σ H Q I q=>h.run pins s σ H Q I (hi _ _ _ q)⟩
def oNone:Ox:=fun _ m=>some (none,m)
def oSome (a:Ex):Ox:=fun env m=>(a env m).bind fun r=>match r.1 with
 | .int i=>some (some i,r.2)
 | _=>none
theorem ro_none:RO cl X none oNone:=PO.imp po_none fun σ H Q ⟨ρ,env,mem,r,hm,hE,h,q⟩=>by
 cases h
 exact q ρ H .refl hm
theorem ro_some (h:RX cl X e me):RO cl X (some e) (oSome me):=PO.imp (po_some h) fun σ H Q ⟨ρ,env,mem,r,hm,hE,h,q⟩=>by
 unfold oSome at h
 obtain⟨r1,h1,h2⟩:=zbm h
 refine⟨ρ,env,mem,r1,hm,hE,h1,fun ρ1 v1 H1 e1 m1 p1=>?_⟩
 split at h2
 ·rename_i i hi
  cases h2
  rw [hi,rep_int] at p1
  exact⟨i,p1,q ρ1 H1 e1 m1⟩
 ·cases h2
def cutP (xs:List PV)(lo hi:Option Int):List PV:=(xs.drop (HT.sIx xs.length 0 lo)).take (HT.sIx xs.length xs.length hi-HT.sIx xs.length 0 lo)
theorem cutP_rep {ρ H}{ps:List PV}{xs:List V}(h:RepL X.K ρ H ps xs)(lo hi:Option Int):RepL X.K ρ H (cutP ps lo hi) (cutV xs lo hi):=by
 unfold cutP cutV
 rw [h.length]
 exact(h.drop _).take _
def slG (p:PV)(lo hi:Option Int)(m:Mem):Option (PV×Mem):=match p with
 | .tup ps=>some (.tup (cutP ps lo hi),m)
 | .str z=>if z.length≤sizeLine then some (.str (cutS z lo hi),m) else none
 | .ref r=>match m[r]? with
  | some (.lst ps)=>some (.ref m.length,m++[.lst (cutP ps lo hi)])
  | some (.rol ps)=>some (.ref m.length,m++[.lst (cutP ps lo hi)])
  | _=>none
 | _=>none
def rSlP (K:PySem.W.Frag):V→Option Int→Option Int→Hp→VK→Prop:=fun x lo hi H Q=>∃a xs,x=.ref a∧SqT K H a xs∧
 (HT.sIx xs.length 0 lo=0∧HT.sIx xs.length xs.length hi=xs.length→Q (.ref a) H)∧(¬(HT.sIx xs.length 0 lo=0∧HT.sIx xs.length xs.length hi=xs.length)→∀(p:Addr) (ob:Obj),ob.dict=none→H p=none→Q (.ref p) (upd H p (.frz ob (.tup (cutV xs lo hi)))))
theorem sl_tupP:SlR X (rSlP X.K):=by
 intro pins s σ H x v vl vu lo hi sl Q I rx hs pl pu h
 obtain⟨a,xs,rfl,hx,q1,q2⟩:=h
 by_cases hw:HT.sIx xs.length 0 lo=0∧HT.sIx xs.length xs.length hi=xs.length
 ·exact sl_tupA pins s σ H _ v vl vu lo hi sl Q I rx hs pl pu ⟨a,xs,rfl,hx,q1,fun n=>absurd hw n⟩
 ·cases rx
  obtain⟨its,r,ht,hz⟩:=I.tuple hx
  have hlen:its.toArray.size=xs.length:=by rw [List.size_toArray];exact r.length.symm
  refine⟨"tuple",_,PyProof.Rows.slot_tuple_getitem.lookup,ht.typeIs,?_⟩
  refine HT.getItem_tuple_cut ht hs pl pu (by rw [hlen];exact hw) ?_ (by rw [hlen];exact hz)
  rw [hlen]
  exact laid_tup I (znt (cutV_length xs lo hi) hz) ((r.drop (HT.sIx xs.length 0 lo)).take (HT.sIx xs.length xs.length hi-HT.sIx xs.length 0 lo)) (q2 hw)
def xSl (a:Ex)(lo hi:Ox):Ex:=fun env m=>(a env m).bind fun r=>(lo env r.2).bind fun s=>(hi env s.2).bind fun t=>slG r.1 s.1 t.1 t.2
theorem rx_sl {lo hi:Option Expr}{ol oh:Ox}{p2:Pos}(ha:RX cl X a ma)(hl:RO cl X lo ol)(hh:RO cl X hi oh):RX cl X (.Subscript a (.Slice lo hi none p2) pos) (xSl ma ol oh):=
 PE.imp (pe_slice (sl_list.or (sl_tupP.or sl_str)) ha hl hh) fun σ H Q ⟨ρ,env,mem,r,hm,hE,h,q⟩=>by
  unfold xSl at h
  obtain⟨r1,h1,h⟩:=zbm h
  obtain⟨r2,h2,h⟩:=zbm h
  obtain⟨r3,h3,h4⟩:=zbm h
  refine⟨ρ,env,mem,r1,hm,hE,h1,fun ρ1 v1 H1 e1 m1 p1=>⟨ρ1,env,r1.2,r2,m1,hE.ext e1,h2,fun ρ2 H2 e2 m2=>⟨ρ2,env,r2.2,r3,m2,(hE.ext e1).ext e2,h3,fun ρ3 H3 e3 m3=>?_⟩⟩⟩
  have p3:=(e2.trans e3).rep _ _ p1
  have q3:=q.ext (e1.trans (e2.trans e3))
  generalize r1.1=p at h4 p3
  cases p with
  | tup ps=>
   rw [rep_tup] at p3
   obtain⟨a,xs,rfl,i1,i2⟩:=p3
   cases h4
   refine .inr (.inl ⟨a,xs,rfl,i1.t,fun hw=>?_,fun hw p ob hob hp=>?_⟩)
   ·refine q3 ρ3 _ H3 .refl m3 ?_
    rw [rep_tup]
    refine⟨a,xs,rfl,i1,?_⟩
    have e:cutP ps r2.1 r3.1=ps:=by
     unfold cutP
     rw [i2.length] at hw
     rw [hw.1,hw.2]
     simp
    rw [e]
    exact i2
   ·obtain⟨z1,z2,z3⟩:=new_tup hob m3 (cutP_rep i2 r2.1 r3.1) hp
    exact q3 _ _ _ z1 z2 z3
  | str z=>
   rw [rep_str] at p3
   subst p3
   simp only [slG] at h4
   split at h4
   ·rename_i hz
    cases h4
    exact .inr (.inr ⟨z,rfl,hz,q3 ρ3 _ H3 .refl m3 (by rw [Rep])⟩)
   ·cases h4
  | ref i=>
   rw [rep_ref] at p3
   obtain⟨a,ha,rfl⟩:=p3
   simp only [slG] at h4
   split at h4
   ·rename_i ps e
    cases h4
    obtain⟨xs,s1,s2⟩:=sq_of m3 ha (.inl e)
    refine .inl ⟨a,xs,rfl,s1,fun p hp=>?_⟩
    obtain⟨z1,z2,z3⟩:=new_lst m3 (cutP_rep s2 r2.1 r3.1) hp
    exact q3 _ _ _ z1 z2 z3
   ·rename_i ps e
    cases h4
    obtain⟨xs,s1,s2⟩:=sq_of m3 ha (.inr e)
    refine .inl ⟨a,xs,rfl,s1,fun p hp=>?_⟩
    obtain⟨z1,z2,z3⟩:=new_lst m3 (cutP_rep s2 r2.1 r3.1) hp
    exact q3 _ _ _ z1 z2 z3
   ·cases h4
  | _=>cases h4
def sNx:Sx:=fun env m=>some (.nx,env,m)
def sBk:Sx:=fun env m=>some (.bk,env,m)
def sCt:Sx:=fun env m=>some (.ct,env,m)
def sSq (a b:Sx):Sx:=fun env m=>(a env m).bind fun r=>match r.1 with
 | .nx=>b r.2.1 r.2.2
 | _=>some r
variable {st:Stmt}{sts:List Stmt}{sa sb:Sx}
theorem rss_nil:RSs cl X [] sNx:=PSs.imp pss_nil fun D σ H ⟨ρ,env,mem,r,hm,hE,h,q⟩=>by
 cases h
 exact q ρ σ H .refl hm hE
theorem rs_continue:RS cl X (.Continue pos) sCt:=PS.imp ps_continue fun D σ H ⟨ρ,env,mem,r,hm,hE,h,q⟩=>by
 cases h
 exact q ρ σ H .refl hm hE
theorem Rsc (h1:RS cl X st sa)(h2:RSs cl X sts sb):RSs cl X (st::sts) (sSq sa sb):=PSs.imp (pss_cons h1 h2) fun D σ H ⟨ρ,env,mem,r,hm,hE,h,q⟩=>by
 unfold sSq at h
 obtain⟨r1,e1,h⟩:=zbm h
 refine⟨ρ,env,mem,r1,hm,hE,e1,fun ρ1 σ1 H1 x1 m1 E1=>?_⟩
 obtain⟨f,env1,mem1⟩:=r1
 cases f with
 | nx=>exact⟨ρ1,env1,mem1,r,m1,E1,h,q.ext x1⟩
 | rt v=>cases h;exact q ρ1 σ1 H1 x1 m1 E1
 | bk=>cases h;exact q ρ1 σ1 H1 x1 m1 E1
 | ct=>cases h;exact q ρ1 σ1 H1 x1 m1 E1
theorem Rso (h1:RS cl X st sa):RSs cl X [st] sa:=pss_one h1
def sEx (a:Ex):Sx:=fun env m=>(a env m).bind fun r=>some (.nx,env,r.2)
def sRt (a:Ex):Sx:=fun env m=>(a env m).bind fun r=>some (.rt r.1,env,r.2)
def sRn:Sx:=fun env m=>some (.rt .non,env,m)
def sIf (t:Tx)(a b:Sx):Sx:=fun env m=>(t env m).bind fun r=>if r.1=true then a env r.2 else b env r.2
theorem rs_expr (he:RX cl X e me)(hs:swapsWith e none pos.line X.env=pure false:=by rfl):RS cl X (.Expr e pos) (sEx me):=PS.imp (ps_expr he hs) fun D σ H ⟨ρ,env,mem,r,hm,hE,h,q⟩=>by
 unfold sEx at h
 obtain⟨r1,e1,h⟩:=zbm h
 cases h
 exact⟨ρ,env,mem,r1,hm,hE,e1,fun ρ1 v1 H1 x1 m1 p1=>q ρ1 σ H1 x1 m1 (hE.ext x1)⟩
theorem rs_ret (he:RX cl X e me):RS cl X (.Return (some e) pos) (sRt me):=PS.imp (ps_ret he) fun D σ H ⟨ρ,env,mem,r,hm,hE,h,q⟩=>by
 unfold sRt at h
 obtain⟨r1,e1,h⟩:=zbm h
 cases h
 exact⟨ρ,env,mem,r1,hm,hE,e1,fun ρ1 v1 H1 x1 m1 p1=>q ρ1 σ H1 x1 m1 (hE.ext x1) v1 p1⟩
theorem rs_if {tc:Tx}{xs ys:List Stmt}(hc:RT cl X c tc)(ha:RSs cl X xs sa)(hb:RSs cl X ys sb):RS cl X (.If c xs ys pos) (sIf tc sa sb):=PS.imp (ps_if hc ha hb) fun D σ H ⟨ρ,env,mem,r,hm,hE,h,q⟩=>by
 unfold sIf at h
 obtain⟨r1,e1,h⟩:=zbm h
 refine⟨ρ,env,mem,r1,hm,hE,e1,fun ρ1 H1 x1 m1=>?_⟩
 split at h
 ·rename_i z
  rw [if_pos z]
  exact⟨ρ1,env,r1.2,r,m1,hE.ext x1,h,q.ext x1⟩
 ·rename_i z
  rw [if_neg z]
  exact⟨ρ1,env,r1.2,r,m1,hE.ext x1,h,q.ext x1⟩
abbrev Gx:=PV→Env→Mem→Option (Env×Mem)
abbrev Gxs:=List PV→Env→Mem→Option (Env×Mem)
def KG (K:PySem.W.Frag)(cl:Nat→Addr)(ρ:List Addr)(H:Hp)(r:Env×Mem)(Q:L2.St→Hp→Prop):Prop:=∀ ρ' σ' H',Ext K ρ H ρ' H'→RelM K cl ρ' H' r.2→RelE K ρ' H' σ' r.1→Q σ' H'
theorem KG.ext {K cl ρ H ρ' H'}{r:Env×Mem} {Q}(h:KG K cl ρ H r Q)(e:Ext K ρ H ρ' H'):KG K cl ρ' H' r Q:=fun ρ2 v H2 e2=>h ρ2 v H2 (e.trans e2)
def TGX (K:PySem.W.Frag)(cl:Nat→Addr)(g:Gx):TG:=fun v σ H Q=>∃ ρ p env mem r,RelM K cl ρ H mem∧RelE K ρ H σ env∧Rep K ρ H p v∧g p env mem=some r∧KG K cl ρ H r Q
def TGsX (K:PySem.W.Frag)(cl:Nat→Addr)(g:Gxs):TGs:=fun vs σ H Q=>∃ ρ ps env mem r,RelM K cl ρ H mem∧RelE K ρ H σ env∧RepL K ρ H ps vs∧g ps env mem=some r∧KG K cl ρ H r Q
abbrev RG (cl:Nat→Addr)(X:Cx)(e:Expr)(g:Gx):Prop:=PG X e (TGX X.K cl g)
abbrev RGs (cl:Nat→Addr)(X:Cx)(e:List Expr)(g:Gxs):Prop:=PGs X e (TGsX X.K cl g)
theorem PG.imp {e:Expr}{t t':TG}(h:PG X e t)(hi:∀v σ H Q,t' v σ H Q→t v σ H Q):PG X e t':=⟨fun pins s σ H v u Q I r q=>h.run pins s σ H v u Q I r (hi _ _ _ _ q)⟩
theorem PGs.imp {e:List Expr}{t t':TGs}(h:PGs X e t)(hi:∀v σ H Q,t' v σ H Q→t v σ H Q):PGs X e t':=⟨fun pins s σ H v u Q I r q=>h.run pins s σ H v u Q I r (hi _ _ _ _ q)⟩
def gNm (i:Nat):Gx:=fun p env m=>some (env.set i (some p),m)
theorem rg_name {i:Nat}(hN:X.N.Nodup)(hi:X.N[i]?=some x)(hx:Loc X.env.scope x)(hf:X.fn x=true∨X.env.scope.names.lookup x=some .local:=by first|exact .inl rfl|exact .inr rfl|assumption):RG cl X (.Name x pos) (gNm i):=
 PG.imp (pg_name hN hi hx hf) fun v σ H Q ⟨ρ,p,env,mem,r,hm,hE,hp,h,q⟩=>by
  cases h
  exact q ρ _ H .refl hm (hE.set i hp)
def gsNil:Gxs:=fun ps env m=>match ps with
 | []=>some (env,m)
 | _=>none
def Gsc (g:Gx)(r:Gxs):Gxs:=fun ps env m=>match ps with
 | p::qs=>(g p env m).bind fun s=>r qs s.1 s.2
 | []=>none
theorem rgs_nil:RGs cl X [] gsNil:=PGs.imp pgs_nil fun v σ H Q ⟨ρ,p,env,mem,r,hm,hE,hp,h,q⟩=>by
 unfold gsNil at h
 split at h
 ·cases h
  exact⟨hp.inv0,q ρ _ H .refl hm hE⟩
 ·cases h
theorem rgs_cons {g:Gx}{gs:Gxs}(h1:RG cl X e g)(h2:RGs cl X es gs)(hs:(assignEach (e::es) X.env).map (·.2)=assign e X.env::(assignEach es X.env).map (·.2):=by rfl):RGs cl X (e::es) (Gsc g gs):=
 PGs.imp (pgs_cons h1 h2 hs) fun v σ H Q ⟨ρ,p,env,mem,r,hm,hE,hp,h,q⟩=>by
  unfold Gsc at h
  split at h
  ·obtain⟨x,xs,rfl,i1,i2⟩:=hp.inv
   obtain⟨r1,e1,e2⟩:=zbm h
   exact⟨x,xs,rfl,ρ,_,env,mem,r1,hm,hE,i1,e1,fun ρ1 σ1 H1 x1 m1 E1=>⟨ρ1,_,r1.1,r1.2,r,m1,E1,x1.repL _ _ i2,e2,q.ext x1⟩⟩
  ·cases h
def gTu (n:Nat)(g:Gxs):Gx:=fun p env m=>match p with
 | .tup ps=>if ps.length=n then g ps env m else none
 | _=>none
theorem rg_tup {k n:Nat}{gs:Gxs}(hc:X.calm=true)(h:RGs cl X es gs)(hn:(assignEach es X.env).length=n:=by rfl)(hst:(assignEach es X.env).findIdx? (·.1)=none:=by rfl):RG cl X (.Tuple es k pos) (gTu n gs):=
 PG.imp (pg_tup hc h hn hst) fun v σ H Q ⟨ρ,p,env,mem,r,hm,hE,hp,h,q⟩=>by
  unfold gTu at h
  split at h
  ·rw [rep_tup] at hp
   obtain⟨a,xs,rfl,h1,h2⟩:=hp
   replace h1:=h1.t
   split at h
   ·rename_i hl
    exact⟨a,xs,rfl,h1,by rw [h2.length,hl],ρ,_,env,mem,r,hm,hE,h2,h,q⟩
   ·cases h
  ·cases h
def sAs (a:Ex)(g:Gx):Sx:=fun env m=>(a env m).bind fun r=>(g r.1 env r.2).bind fun s=>some (.nx,s.1,s.2)
theorem tAs_of {ma:Ex}{g:Gx} {D σ H}(h:TSX X.K cl (sAs ma g) D σ H):TX X.K cl ma σ H fun x H1=>TGX X.K cl g x σ H1 D.nx:=by
 obtain⟨ρ,env,mem,r,hm,hE,h,q⟩:=h
 unfold sAs at h
 obtain⟨r1,e1,h⟩:=zbm h
 obtain⟨r2,e2,h⟩:=zbm h
 cases h
 exact⟨ρ,env,mem,r1,hm,hE,e1,fun ρ1 v1 H1 x1 m1 p1=>⟨ρ1,r1.1,env,r1.2,r2,m1,hE.ext x1,p1,e2,fun ρ2 σ2 H2 x2 m2 E2=>q ρ2 σ2 H2 (x1.trans x2) m2 E2⟩⟩
theorem rs_asg {tg:Expr}{g:Gx}(he:RX cl X e me)(hg:RG cl X tg g)(hs:swapsWithSole [tg] e pos.line X.env=pure false:=by rfl)(hw:swappedStores [tg] e X.env=pure none:=by rfl)
  (h1:(assignEach [tg] X.env).map (·.2)=[assign tg X.env]:=by rfl):RS cl X (.Assign [tg] e pos) (sAs me g):=PS.imp (ps_asg he hg hs hw h1) fun D σ H h=>tAs_of h
theorem rs_set {i:Nat}(hN:X.N.Nodup)(hi:X.N[i]?=some x)(hx:Loc X.env.scope x)(he:RX cl X e me)(hs:swapsWith e (some (.Name x pos')) pos.line X.env=pure false:=by rfl)(hf:X.fn x=true∨X.env.scope.names.lookup x=some .local:=by first|exact .inl rfl|exact .inr rfl|assumption):
  RS cl X (.Assign [.Name x pos'] e pos) (sAs me (gNm i)):=PS.imp (ps_set hN hi hx he hs hf) fun D σ H h=>by
 obtain⟨ρ,env,mem,r,hm,hE,h,q⟩:=tAs_of h
 refine⟨ρ,env,mem,r,hm,hE,h,fun ρ1 v1 H1 x1 m1 p1=>?_⟩
 obtain⟨ρ2,p,env2,mem2,r2,n1,n2,n3,n4,n5⟩:=q ρ1 v1 H1 x1 m1 p1
 cases n4
 exact n5 ρ2 _ H1 .refl n1 (n2.set i n3)
def setG (p q v:PV)(m:Mem):Option Mem:=match p with
 | .ref r=>match m[r]? with
  | some (.lst ps)=>match q with
   | .int i=>(ixN ps.length i).map fun j=>m.set r (.lst (ps.set j v))
   | _=>none
  | some (.dic kvs)=>if kvs.length<sizeLine then(keyOf q).map fun k=>m.set r (.dic (putP kvs k v)) else none
  | _=>none
 | _=>none
def gIx (o i:Ex):Gx:=fun p env m=>(o env m).bind fun r=>(i env r.2).bind fun s=>(setG r.1 s.1 p s.2).map fun m'=>(env,m')
theorem PSet.or {t t':TSet}(h:PSet X t)(h':PSet X t'):PSet X (fun o i v H Q=>t o i v H Q∨t' o i v H Q):=fun pins s σ H o i v ov iv u Q I a b c q=>q.elim (h pins s σ H o i v ov iv u Q I a b c) (h' pins s σ H o i v ov iv u Q I a b c)
theorem rg_ix (hu:X.A.units+1<cLine)(ho:RX cl X o mo)(hi:RX cl X e mi)(ha:∀v,assign (.Subscript o e pos) X.env v=(do
   let ov ←holding [v] (eval o X.env)
   let iv ←holding [v,ov] (eval e X.env)
   standAt pos
   holding [v,ov,iv] (setItem ov iv v)
   release [v,ov,iv] []):=by intro _;rfl):RG cl X (.Subscript o e pos) (gIx mo mi):=
 PG.imp (pg_sub ho hi (PSet.or set_list (set_dict hu)) ha) fun v σ H Q ⟨ρ,p,env,mem,r,hm,hE,hp,h,q⟩=>by
  unfold gIx at h
  obtain⟨r1,e1,h⟩:=zbm h
  obtain⟨r2,e2,h⟩:=zbm h
  obtain⟨m',e3,h⟩:=zmm h
  subst h
  refine⟨ρ,env,mem,r1,hm,hE,e1,fun ρ1 v1 H1 x1 m1 p1=>⟨ρ1,env,r1.2,r2,m1,hE.ext x1,e2,fun ρ2 v2 H2 x2 m2 p2=>?_⟩⟩
  have q1:=x2.rep _ _ p1
  have q0:=(x1.trans x2).rep _ _ hp
  have qE:=hE.ext (x1.trans x2)
  unfold setG at e3
  split at e3
  ·rename_i i hr
   rw [hr,rep_ref] at q1
   obtain⟨a,ha,rfl⟩:=q1
   split at e3
   ·rename_i ps hi
    split at e3
    ·rename_i k hk
     obtain⟨j,e4,e5⟩:=zmm e3
     subst e5
     rw [hk,rep_int] at p2
     subst p2
     obtain⟨xs,z1,z2⟩:=m2.ok i a _ ha hi
     refine .inl ⟨a,xs,k,j,rfl,rfl,z1,by rw [z2.length];exact e4,?_⟩
     have x3:Ext X.K ρ2 H2 ρ2 (upd H2 a (.lst (xs.set j v))):=ext_set m2 ha hi rfl
     exact q ρ2 σ _ ((x1.trans x2).trans x3) (m2.set ha hi rfl rfl ⟨_,upd_same,x3.repL _ _ (z2.set j q0)⟩) (qE.ext x3)
    ·cases e3
   ·rename_i kvs hi
    split at e3
    ·rename_i hl
     obtain⟨k,e4,e5⟩:=zmm e3
     subst e5
     have ek:=keyOf_rep p2 e4
     subst ek
     obtain⟨kws,z1,z2⟩:=m2.ok i a _ ha hi
     have x3:Ext X.K ρ2 H2 ρ2 (upd H2 a (.dK (putK kws k v))):=ext_set m2 ha hi rfl
     refine .inr ⟨a,_,rfl,DPut.k z1 (by rw [←Paired.length z2];exact hl),?_⟩
     exact q ρ2 σ _ ((x1.trans x2).trans x3) (m2.set ha hi rfl rfl ⟨_,upd_same,putP_rep (x3.repF z2) k (x3.rep _ _ q0)⟩) (qE.ext x3)
    ·cases e3
   ·cases e3
  ·cases e3
def putFP (f:Str)(v:PV):List (Str×PV)→List (Str×PV)
 | []=>[(f,v)]
 | (g,u)::r=>if g=f then(g,v)::r else(g,u)::putFP f v r
def sFd (C:Nat)(f:Str)(o v:Ex):Sx:=fun env m=>(v env m).bind fun r=>(o env r.2).bind fun s=>match s.1 with
 | .ref i=>match s.2[i]? with
  | some (.ins c fs)=>if c=C∧fs.length<1000 then some (.nx,env,s.2.set i (.ins c (putFP f r.1 fs))) else none
  | _=>none
 | _=>none
end
section
variable {X:Cx}{cl:Nat→Addr}
variable {a b c e o:Expr}{es:List Expr}{pos p apos pos':Pos}{ma mb mc me mo mi:Ex}{x f:Str}{mA:Ax}
variable {st:Stmt}{sts:List Stmt}{sa sb:Sx}
def sAu (i:Nat)(g:PV→PV→Mem→Option (PV×Mem))(a:Ex):Sx:=fun env m=>match env[i]? with
 | some (some p)=>(a env m).bind fun r=>(g p r.1 r.2).bind fun s=>some (.nx,env.set i (some s.1),s.2)
 | _=>none
theorem rs_aug {i:Nat}{op:Operator}{g:PV→PV→Mem→Option (PV×Mem)}(hN:X.N.Nodup)(hi:X.N[i]?=some x)(hx:Loc X.env.scope x)(he:RX cl X e me)(ho:PIp X op (G2 X.K cl g))(hf:X.fn x=true∨X.env.scope.names.lookup x=some .local:=by first|exact .inl rfl|exact .inr rfl|assumption):
  RS cl X (.AugAssign (.Name x pos') op e pos) (sAu i g me):=PS.imp (ps_aug hN hi hx he ho hf) fun D σ H ⟨ρ,env,mem,r,hm,hE,h,q⟩=>by
 unfold sAu at h
 split at h
 ·rename_i p0 hp
  obtain⟨r1,e1,h⟩:=zbm h
  obtain⟨r2,e2,h⟩:=zbm h
  cases h
  obtain⟨v,h1,h2⟩:=hE.ok i p0 hp
  refine⟨v,h1,ρ,env,mem,r1,hm,hE,e1,fun ρ1 v1 H1 x1 m1 p1=>⟨ρ1,p0,r1.1,r1.2,r2,m1,x1.rep _ _ h2,p1,e2,fun ρ2 v2 H2 x2 m2 p2=>?_⟩⟩
  exact q ρ2 _ H2 (x1.trans x2) m2 ((hE.ext (x1.trans x2)).set i p2)
 ·cases h
structure Sq where
 items:List PV
 guard:List (Nat×Ob)
def okG (g:List (Nat×Ob))(m:Mem):Bool:=g.all fun q=>decide (m[q.1]?=some q.2)
theorem okG_cons {q:Nat×Ob}{g:List (Nat×Ob)}{m:Mem}:okG (q::g) m=true↔m[q.1]?=some q.2∧okG g m=true:=by
 unfold okG
 rw [List.all_cons,Bool.and_eq_true,decide_eq_true_eq]
structure ItX (K:PySem.W.Frag) (cl:Nat→Addr) (J:It) (s:Sq) (ρ:List Addr) (H:Hp):Prop where
 go:∀(ρ':List Addr) (H':Hp) (m:Mem) (i:Nat) (p:PV),Ext K ρ H ρ' H'→RelM K cl ρ' H' m→okG s.guard m=true→s.items[i]?=some p→J.go i H'∧∀x H'',J.yld i H' x H''→Ext K ρ' H' ρ' H''∧RelM K cl ρ' H'' m∧Rep K ρ' H'' p x
 stop:∀(ρ':List Addr) (H':Hp) (m:Mem),Ext K ρ H ρ' H'→RelM K cl ρ' H' m→okG s.guard m=true→J.stop s.items.length H'
theorem ItX.ext {K cl J s ρ H ρ' H'}(h:ItX K cl J s ρ H)(e:Ext K ρ H ρ' H'):ItX K cl J s ρ' H':=⟨fun ρ2 H2 m i p e2=>h.go ρ2 H2 m i p (e.trans e2),fun ρ2 H2 m e2=>h.stop ρ2 H2 m (e.trans e2)⟩
abbrev Ix:=Env→Mem→Option (Sq×Mem)
def TIX (K:PySem.W.Frag)(cl:Nat→Addr)(m:Ix):TI:=fun σ H R=>∃ ρ env mem r,RelM K cl ρ H mem∧RelE K ρ H σ env∧m env mem=some r∧∀ ρ' H' J,Ext K ρ H ρ' H'→RelM K cl ρ' H' r.2→okG r.1.guard r.2=true→ItX K cl J r.1 ρ' H'→R J H'
abbrev RI (cl:Nat→Addr)(X:Cx)(tg e:Expr)(m:Ix):Prop:=PI X tg e (TIX X.K cl m)
theorem PI.imp {tg e:Expr}{t t':TI}(h:PI X tg e t)(hi:∀ σ H R,t' σ H R→t σ H R):PI X tg e t':=⟨fun pins s σ H R I q=>h.run pins s σ H R I (hi _ _ _ q)⟩
def sqOf (p:PV)(m:Mem):Option Sq:=match p with
 | .ref r=>match m[r]? with
  | some (.lst ps)=>some ⟨ps,[(r,.lst ps)]⟩
  | some (.rol ps)=>some ⟨ps,[(r,.rol ps)]⟩
  | _=>none
 | _=>none
def tqOf (p:PV):Option Sq:=match p with
 | .tup ps=>some ⟨ps,[]⟩
 | _=>none
def iSq (a:Ex):Ix:=fun env m=>(a env m).bind fun r=>(sqOf r.1 r.2).map (·,r.2)
def iTp (a:Ex):Ix:=fun env m=>(a env m).bind fun r=>(tqOf r.1).map (·,r.2)
theorem sqOf_ok {ρ:List Addr}{H:Hp}{m:Mem}{p:PV}{v:V}{s:Sq}(hm:RelM X.K cl ρ H m)(hp:Rep X.K ρ H p v)(h:sqOf p m=some s):∃a,v=.ref a∧okG s.guard m=true∧(∃xs,SqL X.K H a xs)∧
  ∀(ρ':List Addr) (H':Hp) (m':Mem),Ext X.K ρ H ρ' H'→RelM X.K cl ρ' H' m'→okG s.guard m'=true→∃xs,SqL X.K H' a xs∧RepL X.K ρ' H' s.items xs:=by
 unfold sqOf at h
 split at h
 ·rename_i i
  rw [rep_ref] at hp
  obtain⟨a,ha,rfl⟩:=hp
  split at h
  ·rename_i ps e
   cases h
   obtain⟨xs,s1,s2⟩:=sq_of hm ha (.inl e)
   exact⟨a,rfl,okG_cons.mpr ⟨e,rfl⟩,⟨xs,s1⟩,fun ρ' H' m' x1 m1 k=>sq_of m1 (x1.at ha) (.inl (okG_cons.mp k).1)⟩
  ·rename_i ps e
   cases h
   obtain⟨xs,s1,s2⟩:=sq_of hm ha (.inr e)
   exact⟨a,rfl,okG_cons.mpr ⟨e,rfl⟩,⟨xs,s1⟩,fun ρ' H' m' x1 m1 k=>sq_of m1 (x1.at ha) (.inr (okG_cons.mp k).1)⟩
  ·cases h
 ·cases h
theorem ri_list {tg:Expr}(ha:RX cl X a ma):RI cl X tg a (iSq ma):=PI.imp (pi_list ha) fun σ H R ⟨ρ,env,mem,r,hm,hE,h,q⟩=>by
 unfold iSq at h
 obtain⟨r1,e1,h⟩:=zbm h
 obtain⟨s,e2,h⟩:=zmm h
 subst h
 refine⟨ρ,env,mem,r1,hm,hE,e1,fun ρ1 v1 H1 x1 m1 p1=>?_⟩
 obtain⟨a,rfl,k,z1,z2⟩:=sqOf_ok m1 p1 e2
 refine⟨a,rfl,z1,q ρ1 H1 _ x1 m1 k ⟨fun ρ' H' m i p x2 m2 k2 hi=>?_,fun ρ' H' m x2 m2 k2=>?_⟩⟩
 ·obtain⟨xs,y1,y2⟩:=z2 ρ' H' m x2 m2 k2
  obtain⟨x,y3,y4⟩:=y2.get hi
  refine⟨⟨xs,x,y1,y3⟩,fun x' H'' ⟨e,y⟩=>?_⟩
  subst e
  have:=(y xs y1).symm.trans y3
  cases this
  exact⟨.refl,m2,y4⟩
 ·obtain⟨xs,y1,y2⟩:=z2 ρ' H' m x2 m2 k2
  exact⟨xs,y1,by rw [y2.length];exact znr _⟩
theorem ri_tup {tg:Expr}(ha:RX cl X a ma):RI cl X tg a (iTp ma):=PI.imp (pi_tup ha) fun σ H R ⟨ρ,env,mem,r,hm,hE,h,q⟩=>by
 unfold iTp at h
 obtain⟨r1,e1,h⟩:=zbm h
 obtain⟨s,e2,h⟩:=zmm h
 subst h
 refine⟨ρ,env,mem,r1,hm,hE,e1,fun ρ1 v1 H1 x1 m1 p1=>?_⟩
 unfold tqOf at e2
 split at e2
 ·rename_i ps hps
  cases e2
  rw [hps,rep_tup] at p1
  obtain⟨a,xs,rfl,i1,i2⟩:=p1
  replace i1:=i1.t
  refine⟨a,rfl,⟨xs,i1⟩,q ρ1 H1 _ x1 m1 rfl ⟨fun ρ' H' m i p x2 m2 k2 hi=>?_,fun ρ' H' m x2 m2 k2=>?_⟩⟩
  ·obtain⟨x,y3,y4⟩:=(x2.repL _ _ i2).get hi
   refine⟨⟨xs,x,x2.tup _ _ i1,y3⟩,fun x' H'' ⟨e,y⟩=>?_⟩
   subst e
   have:=(y xs (x2.tup _ _ i1)).symm.trans y3
   cases this
   exact⟨.refl,m2,y4⟩
  ·exact⟨xs,x2.tup _ _ i1,by rw [i2.length];exact znr _⟩
 ·cases e2
def rangeP (lo:Int)(n:Nat):List PV:=(List.range n).map fun(i:Nat)=>PV.int (lo+i)
def rngG:List PV→Option Sq
 | [.int j]=>if -(2 ^ 62)≤j∧j<2 ^ 62 then some ⟨rangeP 0 j.toNat,[]⟩ else none
 | [.int i,.int j]=>if -(2 ^ 62)≤i∧i<2 ^ 62 ∧ -(2 ^ 62)≤j∧j<2 ^ 62 then some ⟨rangeP i (j-i).toNat,[]⟩ else none
 | _=>none
def iRg (a:Ax):Ix:=fun env m=>(a env m).bind fun r=>(rngG r.1).map (·,r.2)
theorem itr_ok {ρ:List Addr}{H:Hp}{lo:Int}{n:Nat}:ItX X.K cl (Itr lo n) ⟨rangeP lo n,[]⟩ ρ H:=by
 refine⟨fun ρ' H' m i p x2 m2 k2 hi=>?_,fun ρ' H' m x2 m2 k2=>?_⟩
 ·unfold rangeP at hi
  simp only [List.getElem?_map,Option.map_eq_some_iff] at hi
  obtain⟨j,h1,h2⟩:=hi
  obtain⟨h3,h4⟩:=zge h1
  have h5:j=i:=by rw [←h4];simp
  have h6:i<n:=by simpa using h3
  subst h5
  refine⟨h6,fun x H'' ⟨e1,e2⟩=>?_⟩
  subst e1 e2 h2
  exact⟨.refl,m2,by rw [Rep]⟩
 ·show n≤(rangeP lo n).length
  unfold rangeP
  simp
theorem ri_range1 {tg:Expr}(hg:Gl X "range")(hm:X.mg "range"=none)(ha:RX cl X a ma)(hs:starEach [a] X.env=[(false,eval a X.env)]:=by rfl)(hs2:starEach [a] X.env=(false,eval a X.env)::starEach [] X.env:=by rfl):RI cl X tg (.Call (.Name "range" p) [a] [] pos) (iRg (Ac ma An)):=
 PI.imp (pi_range1 hg hm (Rc ha Rn hs2) hs) fun σ H R ⟨ρ,env,mem,r,hm,hE,h,q⟩=>by
  unfold iRg at h
  obtain⟨r1,e1,h⟩:=zbm h
  obtain⟨s,e2,h⟩:=zmm h
  subst h
  refine⟨ρ,env,mem,r1,hm,hE,e1,fun ρ1 vs H1 x1 m1 p1=>?_⟩
  unfold Ac An at e1
  obtain⟨r2,e3,e1⟩:=zbm e1
  simp only [zob] at e1
  obtain rfl:=zsi e1
  obtain⟨x,xs,rfl,i1,i2⟩:=p1.inv
  obtain rfl:=i2.inv0
  simp only [rngG] at e2
  split at e2
  ·rename_i j hj
   obtain⟨hj,-⟩:=List.cons.inj hj
   rw [hj,rep_int] at i1
   subst i1
   split at e2
   ·rename_i hb
    obtain rfl:=zsi e2
    exact⟨j,rfl,hb.1,hb.2,q ρ1 H1 _ x1 m1 rfl itr_ok⟩
   ·cases e2
  ·rename_i hj
   cases(List.cons.inj hj).2
  ·cases e2
def signsP (z:Str):List PV:=z.cps.toList.map fun c=>PV.str ⟨#[c]⟩
def iSt (a:Ex):Ix:=fun env m=>(a env m).bind fun r=>match r.1 with
 | .str z=>some (⟨signsP z,[]⟩,r.2)
 | _=>none
theorem ri_str {tg:Expr}(ha:RX cl X a ma):RI cl X tg a (iSt ma):=PI.imp (pi_str ha) fun σ H R ⟨ρ,env,mem,r,hm,hE,h,q⟩=>by
 unfold iSt at h
 obtain⟨r1,e1,h⟩:=zbm h
 refine⟨ρ,env,mem,r1,hm,hE,e1,fun ρ1 v1 H1 x1 m1 p1=>?_⟩
 split at h
 ·rename_i z hz
  obtain rfl:=zsi h
  rw [hz,rep_str] at p1
  refine⟨z,p1,q ρ1 H1 _ x1 m1 rfl ⟨fun ρ' H' m i p x2 m2 k2 hi=>?_,fun ρ' H' m x2 m2 k2=>?_⟩⟩
  ·unfold signsP at hi
   simp only [List.getElem?_map,Option.map_eq_some_iff] at hi
   obtain⟨c,h1,h2⟩:=hi
   have h1':z.cps[i]?=some c:=by rw [←Array.getElem?_toList];exact h1
   refine⟨(Array.getElem?_eq_some_iff.mp h1').1,fun x H'' ⟨e,c',y1,y2⟩=>?_⟩
   subst e
   rw [h1'] at y1
   cases y1
   subst y2 h2
   exact⟨.refl,m2,by rw [Rep]⟩
  ·show z.cps.size≤(signsP z).length
   unfold signsP
   simp
 ·cases h
def zipG:List PV→Mem→Option Sq
 | [p,q],m=>(sqOf p m).bind fun s=>(sqOf q m).map fun t=>⟨(s.items.zip t.items).map fun z=>.tup [z.1,z.2],s.guard++t.guard⟩
 | _,_=>none
def iZp (a:Ax):Ix:=fun env m=>(a env m).bind fun r=>(zipG r.1 r.2).map (·,r.2)
theorem okG_append {g h:List (Nat×Ob)}{m:Mem}:okG (g++h) m=true↔okG g m=true∧okG h m=true:=by
 unfold okG
 rw [List.all_append,Bool.and_eq_true]
def enP:Nat→List PV→List PV
 | _,[]=>[]
 | i,p::ps=>.tup [.int i,p]::enP (i+1) ps
def enG:List PV→Mem→Option Sq
 | [p],m=>(sqOf p m).map fun s=>⟨enP 0 s.items,s.guard⟩
 | _,_=>none
def iEn (a:Ax):Ix:=fun env m=>(a env m).bind fun r=>(enG r.1 r.2).map (·,r.2)
theorem enP_get:∀(ps:List PV) (k i:Nat) (p:PV),(enP k ps)[i]?=some p→∃q,ps[i]?=some q∧p=.tup [.int ((k+i:Nat):Int),q]
 | [],_,_,_,h=>by simp [enP] at h
 | a::ps,k,0,p,h=>by
  simp only [enP,List.getElem?_cons_zero,Option.some.injEq] at h
  exact⟨a,rfl,h.symm⟩
 | a::ps,k,i+1,p,h=>by
  simp only [enP,List.getElem?_cons_succ] at h
  obtain⟨q,h1,h2⟩:=enP_get ps (k+1) i p h
  refine⟨q,by simpa using h1,?_⟩
  rw [h2]
  congr 4
  omega
theorem enP_len:∀(ps:List PV) (k:Nat),(enP k ps).length=ps.length
 | [],_=>rfl
 | a::ps,k=>by simp [enP,enP_len ps]
def forL (g:Gx)(body:Sx)(gd:List (Nat×Ob)):List PV→Env→Mem→Option (Fl×Env×Mem)
 | [],env,m=>some (.nx,env,m)
 | p::ps,env,m=>(g p env m).bind fun r=>(body r.1 r.2).bind fun s=>match s.1 with
  | .nx=>if okG gd s.2.2=true then forL g body gd ps s.2.1 s.2.2 else none
  | .ct=>if okG gd s.2.2=true then forL g body gd ps s.2.1 s.2.2 else none
  | .bk=>some (.nx,s.2)
  | .rt _=>some s
def sFor (it:Ix)(g:Gx)(body:Sx):Sx:=fun env m=>(it env m).bind fun r=>if okG r.1.guard r.2=true then forL g body r.1.guard r.1.items env r.2 else none
theorem rs_for {tg iter:Expr}{mi:Ix}{g:Gx}(hp:PassesOwn (model X.prog X.w) X.A X.env X.xe)(hc:X.calm=true)(hi:RI cl X tg iter mi)(hg:RG cl X tg g)(hb:RSs cl X sts sb)
  (hs:∀x,foldedSetIterable iter X.env x=pure x:=by intro _;rfl):RS cl X (.For tg iter sts [] pos) (sFor mi g sb):=PS.imp (ps_for hp hc hi hg hb hs) fun D σ H ⟨ρ,env,mem,r,hm,hE,h,q⟩=>by
 unfold sFor at h
 obtain⟨r1,e1,h⟩:=zbm h
 split at h
 ·refine⟨ρ,env,mem,r1,hm,hE,e1,fun ρ1 H1 J x1 m1 k1 IJ=>?_⟩
  have q1:=q.ext x1
  refine⟨fun i n σ' H'=>n=r1.1.items.length-i∧i≤r1.1.items.length∧∃ ρ' env' m',Ext X.K ρ1 H1 ρ' H'∧RelM X.K cl ρ' H' m'∧RelE X.K ρ' H' σ' env'∧okG r1.1.guard m'=true∧forL g sb r1.1.guard (r1.1.items.drop i) env' m'=some r,
   ⟨_,rfl,Nat.zero_le _,ρ1,env,r1.2,.refl,m1,hE.ext x1,k1,h⟩,?_⟩
  rintro i n σ' H' ⟨rfl,hi,ρ',env',m',x2,m2,E2,k2,hf⟩
  by_cases hlt:i<r1.1.items.length
  ·have hd:r1.1.items.drop i=r1.1.items[i]::r1.1.items.drop (i+1):=List.drop_eq_getElem_cons hlt
   rw [hd] at hf
   unfold forL at hf
   obtain⟨r2,e2,hf⟩:=zbm hf
   obtain⟨r3,e3,hf⟩:=zbm hf
   obtain⟨g1,g2⟩:=IJ.go ρ' H' m' i r1.1.items[i] x2 m2 k2 (List.getElem?_eq_getElem hlt)
   refine .inr ⟨g1,fun σ'' H''=>i+1≤r1.1.items.length∧∃ ρ' env' m',Ext X.K ρ1 H1 ρ' H''∧RelM X.K cl ρ' H'' m'∧RelE X.K ρ' H'' σ'' env'∧okG r1.1.guard m'=true∧forL g sb r1.1.guard (r1.1.items.drop (i+1)) env' m'=some r,
    fun σ'' H'' hN=>⟨_,by omega,rfl,hN⟩,fun x H'' hy=>?_⟩
   obtain⟨y1,y2,y3⟩:=g2 x H'' hy
   refine⟨ρ',_,env',m',r2,y2,E2.ext y1,y3,e2,fun ρ3 σ3 H3 x3 m3 E3=>⟨ρ3,r2.1,r2.2,r3,m3,E3,e3,fun ρ4 σ4 H4 x4 m4 E4=>?_⟩⟩
   have xx:=x2.trans (y1.trans (x3.trans x4))
   obtain⟨f,env4,mem4⟩:=r3
   cases f with
   | nx=>
    simp only at hf
    split at hf
    ·rename_i k4
     exact⟨hlt,ρ4,env4,mem4,xx,m4,E4,k4,hf⟩
    ·cases hf
   | ct=>
    simp only at hf
    split at hf
    ·rename_i k4
     exact⟨hlt,ρ4,env4,mem4,xx,m4,E4,k4,hf⟩
    ·cases hf
   | bk=>
    obtain rfl:=zsi hf
    exact q1 ρ4 σ4 H4 xx m4 E4
   | rt v=>
    obtain rfl:=zsi hf
    exact q1 ρ4 σ4 H4 xx m4 E4
  ·have e:i=r1.1.items.length:=by omega
   subst e
   rw [List.drop_length] at hf
   obtain rfl:=zsi hf
   exact .inl ⟨IJ.stop ρ' H' m' x2 m2 k2,q1 ρ' σ' H' x2 m2 E2⟩
 ·cases h
end
section
variable {X:Cx}{cl:Nat→Addr}
variable {a b c e o:Expr}{es:List Expr}{pos p apos pos' cpos:Pos}{ma mb mc me mo mi:Ex}{x f:Str}{mA:Ax}
variable {st:Stmt}{sts:List Stmt}{sa sb:Sx}
def gUl (n:Nat)(g:Gxs):Gx:=fun p env m=>match p with
 | .ref r=>match m[r]? with
  | some (.lst ps)=>if ps.length=n then g ps env m else none
  | _=>none
 | _=>none
theorem rg_unl {k n:Nat}{gs:Gxs}(hc:X.calm=true)(h:RGs cl X es gs)(hn:(assignEach es X.env).length=n:=by rfl)(hst:(assignEach es X.env).findIdx? (·.1)=none:=by rfl):RG cl X (.Tuple es k pos) (gUl n gs):=
 PG.imp (pg_unl hc h hn hst) fun v σ H Q ⟨ρ,p,env,mem,r,hm,hE,hp,h,q⟩=>by
  unfold gUl at h
  split at h
  ·rename_i i
   rw [rep_ref] at hp
   obtain⟨a,ha,rfl⟩:=hp
   split at h
   ·rename_i ps e
    split at h
    ·rename_i hl
     obtain⟨xs,s1,s2⟩:=sq_of hm ha (.inl e)
     exact⟨a,xs,rfl,s1,by rw [s2.length,hl],ρ,_,env,mem,r,hm,hE,s2,h,q⟩
    ·cases h
   ·cases h
  ·cases h
def wipeE (env:Env):List Nat→Env
 | []=>env
 | v::vs=>(wipeE env vs).set v none
theorem RelE.wipe {K ρ H σ env}(h:RelE K ρ H σ env):∀vs:List Nat,RelE K ρ H (wipe σ vs) (wipeE env vs)
 | []=>h
 | v::vs=>(h.wipe vs).wipe1 v
theorem wipe_at (σ:L2.St):∀(vs:List Nat) (i:Nat),i∈vs→i<σ.length→(wipe σ vs)[i]?=some none
 | [],i,h,_=>by cases h
 | v::vs,i,h,hl=>by
  unfold wipe
  by_cases e:i=v
  ·subst e
   rw [zss (by rw [wipe_length];exact hl)]
  ·rw [zsn (Ne.symm e)]
   exact wipe_at σ vs i ((zmo h).resolve_left e) hl
theorem wipe_idem (σ:L2.St):∀vs ws:List Nat,(∀v∈vs,v∈ws)→wipe (wipe σ ws) vs=wipe σ ws
 | [],_,_=>rfl
 | v::vs,ws,h=>by
  show(wipe (wipe σ ws) vs).set v none=wipe σ ws
  rw [wipe_idem σ vs ws fun u hu=>h u (zmt _ hu)]
  apply List.ext_getElem?
  intro i
  by_cases e:i=v
  ·subst e
   by_cases hl:i<σ.length
   ·rw [zss (by rw [wipe_length];exact hl),wipe_at σ ws i (h i zms) hl]
   ·rw [List.getElem?_eq_none (by rw [List.length_set,wipe_length];omega),List.getElem?_eq_none (by rw [wipe_length];omega)]
  ·rw [zsn (Ne.symm e)]
theorem set_wipe (σ:L2.St)(y:Option V):∀(vs:List Nat) (i:Nat),i∈vs→wipe (σ.set i y) vs=wipe σ vs
 | [],i,h=>by cases h
 | v::vs,i,h=>by
  unfold wipe
  by_cases hi:i∈vs
  ·rw [set_wipe σ y vs i hi]
  ·have e:i=v:=(zmo h).resolve_right hi
   subst e
   have:wipe (σ.set i y) vs=(wipe σ vs).set i y:=by
    clear h
    induction vs with
    | nil=>rfl
    | cons w ws ih=>
     have hne:i≠w:=fun z=>hi (z▸zms)
     have:=ih fun z=>hi (zmt _ z)
     show(wipe (σ.set i y) ws).set w none=((wipe σ ws).set w none).set i y
     rw [this,List.set_comm _ _ hne]
   rw [this,List.set_set]
def lcL (i:Nat)(tt:Tx)(te:Ex)(gd:List (Nat×Ob))(D:Nat)(env:Env):List PV→Mem→List PV→Option (List PV×Mem)
 | [],m,acc=>some (acc,m)
 | p::ps,m,acc=>(tt (env.set i (some p)) m).bind fun r=>if r.1=true then(te (env.set i (some p)) r.2).bind fun s=>
   if okG gd s.2=true∧s.2[D]?=some (.lst acc)∧acc.length<sizeLine then lcL i tt te gd D env ps (s.2.set D (.lst (acc++[s.1]))) (acc++[s.1]) else none
  else if okG gd r.2=true∧r.2[D]?=some (.lst acc) then lcL i tt te gd D env ps r.2 acc else none
def xLc (vs:List Nat)(it:Ix)(i:Nat)(tt:Tx)(te:Ex):Ex:=fun env m=>(it env m).bind fun r=>if okG r.1.guard r.2=true∧(∀g∈r.1.guard,g.1<r.2.length) then
  (lcL i tt te r.1.guard r.2.length (wipeE env vs) r.1.items (r.2++[.lst []]) []).bind fun s=>some (.ref r.2.length,s.2) else none
def tYs:Tx:=fun _ m=>some (true,m)
theorem okG_app {gd:List (Nat×Ob)}{m:Mem}{o:Ob}(h:okG gd m=true):okG gd (m++[o])=true:=by
 unfold okG at h ⊢
 rw [List.all_eq_true] at h ⊢
 intro q hq
 have:=of_decide_eq_true (h q hq)
 refine zdt ?_
 rw [zgl (zge this).1]
 exact this
theorem okG_set {gd:List (Nat×Ob)}{m:Mem}{o:Ob}{D:Nat}(h:okG gd m=true)(hD:∀g∈gd,g.1<D):okG gd (m.set D o)=true:=by
 unfold okG at h ⊢
 rw [List.all_eq_true] at h ⊢
 intro q hq
 have:=of_decide_eq_true (h q hq)
 refine zdt ?_
 rw [zsn (Nat.ne_of_gt (hD q hq))]
 exact this
abbrev RTs (cl:Nat→Addr)(X:Cx)(e:List Expr)(m:Tx):Prop:=PTs X e (TTX X.K cl m)
theorem PTs.imp {X:Cx}{e:List Expr}{t t':TT}(h:PTs X e t)(hi:∀ σ H Q,t' σ H Q→t σ H Q):PTs X e t':=⟨fun pins s σ H Q I q=>h.run pins s σ H Q I (hi _ _ _ q)⟩
theorem Rtn {X:Cx}:RTs cl X [] tYs:=PTs.imp pts_nil fun σ H Q ⟨ρ,env,mem,r,hm,hE,h,q⟩=>by
 obtain rfl:=zsi h
 exact q ρ H .refl hm
theorem rts_one {X:Cx}{tc:Tx}(h:RT cl X c tc):RTs cl X [c] tc:=pts_one h
end
section
variable {X:Cx}{cl:Nat→Addr}
def addG:PV→PV→Mem→Option (PV×Mem)
 | .int i,.int j,m=>some (.int (i+j),m)
 | .str s,.str t,m=>if s.length+t.length≤sizeLine then some (.str (s++t),m) else none
 | .tup s,.tup t,m=>if s.length+t.length≤sizeLine then some (.tup (s++t),m) else none
 | .ref i,.ref j,m=>match m[i]?,m[j]? with
  | some (.lst s),some (.lst t)=>if s.length+t.length≤sizeLine then some (.ref m.length,m++[.lst (s++t)]) else none
  | _,_=>none
 | _,_,_=>none
def rCatP (K:PySem.W.Frag):R2:=fun x y H Q=>∃a b xs ys,x=.ref a∧y=.ref b∧SqT K H a xs∧SqT K H b ys∧xs.length+ys.length≤sizeLine∧
 (xs=[]→Q (.ref b) H)∧(xs≠[]→ys=[]→Q (.ref a) H)∧(xs≠[]→ys≠[]→∀(p:Addr) (ob:Obj),ob.dict=none→H p=none→Q (.ref p) (upd H p (.frz ob (.tup (xs++ys)))))
theorem op_catP:OpR X (binaryOp .Add) (rCatP X.K):=by
 intro pins s σ H x y v u Q I rx ry h
 obtain⟨a,b,xs,ys,rfl,rfl,ha,hb,hz,q0,q1,q2⟩:=h
 by_cases hx:xs=[]
 ·exact op_catA pins s σ H _ _ v u Q I rx ry ⟨a,b,xs,ys,rfl,rfl,ha,hb,hz,q0,q1,fun n=>absurd hx n⟩
 ·cases rx
  cases ry
  obtain⟨its,r1,p1,_⟩:=I.tuple ha
  obtain⟨its2,r2,p2,_⟩:=I.tuple hb
  refine HT.cat_tup p1 p2 (fun z=>hx (r1.nil_iff.mp z)) (fun z=>⟨.ref a,H,I,rfl,q1 hx (r2.nil_iff.mp z)⟩) (fun z=>?_) (by rw [←r1.length,←r2.length];exact hz)
  exact laid_tup I (by rw [zla];exact hz) (r1.append r2) (q2 hx (fun w=>z (r2.nil_iff.mpr w)))
theorem ox_add:OpR X (binaryOp .Add) (G2 X.K cl addG):=by
 intro pins s σ H x y v u Q I rx ry ⟨ρ,p,q,mem,r,hm,hp,hq,h,k⟩
 cases p with
 | int i=>
  cases q with
  | int j=>
   obtain rfl:=zsi h
   rw [rep_int] at hp hq
   exact op_add pins s σ H x y v u Q I rx ry ⟨i,j,hp,hq,k ρ _ H .refl hm (by rw [Rep])⟩
  | _=>cases h
 | str i=>
  cases q with
  | str j=>
   rw [rep_str] at hp hq
   simp only [addG] at h
   split at h
   ·rename_i hz
    obtain rfl:=zsi h
    exact op_add_str pins s σ H x y v u Q I rx ry ⟨i,j,hp,hq,hz,k ρ _ H .refl hm (by rw [Rep])⟩
   ·cases h
  | _=>cases h
 | tup i=>
  cases q with
  | tup j=>
   rw [rep_tup] at hp hq
   obtain⟨a,xs,rfl,h1,h2⟩:=hp
   obtain⟨b,ys,rfl,h3,h4⟩:=hq
   simp only [addG] at h
   split at h
   ·rename_i hz
    obtain rfl:=zsi h
    refine op_catP pins s σ H _ _ v u Q I rx ry ⟨a,b,xs,ys,rfl,rfl,h1.t,h3.t,by rw [h2.length,h4.length];exact hz,fun e=>?_,fun _ e=>?_,fun _ _ p ob hob hp=>?_⟩
    ·subst e
     have:i=[]:=by have:=h2.length;cases i with|nil=>rfl|cons _ _=>cases this
     subst this
     exact k ρ _ H .refl hm (by rw [rep_tup];exact⟨b,ys,rfl,h3,h4⟩)
    ·subst e
     have:j=[]:=by have:=h4.length;cases j with|nil=>rfl|cons _ _=>cases this
     subst this
     rw [List.append_nil] at k
     exact k ρ _ H .refl hm (by rw [rep_tup];exact⟨a,xs,rfl,h1,h2⟩)
    ·obtain⟨z1,z2,z3⟩:=new_tup hob hm (h2.append h4) hp
     exact k _ _ _ z1 z2 z3
   ·cases h
  | _=>cases h
 | ref i=>
  cases q with
  | ref j=>
   rw [rep_ref] at hp hq
   obtain⟨a,ha,rfl⟩:=hp
   obtain⟨b,hb,rfl⟩:=hq
   simp only [addG] at h
   split at h
   ·rename_i ss ts e1 e2
    split at h
    ·rename_i hz
     obtain rfl:=zsi h
     obtain⟨xs,z1,z2⟩:=hm.ok i a _ ha e1
     obtain⟨ys,z3,z4⟩:=hm.ok j b _ hb e2
     refine op_cat pins s σ H _ _ v u Q I rx ry ⟨a,b,xs,ys,rfl,rfl,z1,z3,by rw [z2.length,z4.length];exact hz,fun p hp=>?_⟩
     obtain⟨y1,y2,y3⟩:=new_lst hm (z2.append z4) hp
     exact k _ _ _ y1 y2 y3
    ·cases h
   ·cases h
  | _=>cases h
 | _=>cases h
def subG:PV→PV→Mem→Option (PV×Mem)
 | .int i,.int j,m=>some (.int (i-j),m)
 | _,_,_=>none
def mulG:PV→PV→Mem→Option (PV×Mem)
 | .int i,.int j,m=>if(-(2 ^ 64)<i∧i<2 ^ 64)∨(-(2 ^ 64)<j∧j<2 ^ 64) then some (.int (i*j),m) else none
 | .ref i,.int k,m=>match m[i]? with
  | some (.lst s)=>if -(2 ^ 63)≤k∧k<2 ^ 63∧s.length*k.toNat≤sizeLine then some (.ref m.length,m++[.lst (List.replicate k.toNat s).flatten]) else none
  | _=>none
 | _,_,_=>none
def divG:PV→PV→Mem→Option (PV×Mem)
 | .int i,.int j,m=>if 0<j∧j<18446744073709551616 then some (.int (i/j),m) else none
 | _,_,_=>none
def modG:PV→PV→Mem→Option (PV×Mem)
 | .int i,.int j,m=>if 0<j then some (.int (i%j),m) else none
 | _,_,_=>none
def powG:PV→PV→Mem→Option (PV×Mem)
 | .int i,.int j,m=>if 0≤j∧j≤1000∧i.natAbs<2 ^ 64 then some (.int (i ^ j.toNat),m) else none
 | _,_,_=>none
theorem ox_sub:OpR X (binaryOp .Sub) (G2 X.K cl subG):=by
 intro pins s σ H x y v u Q I rx ry ⟨ρ,p,q,mem,r,hm,hp,hq,h,k⟩
 unfold subG at h
 split at h
 ·obtain rfl:=zsi h
  rw [rep_int] at hp hq
  exact op_sub pins s σ H x y v u Q I rx ry ⟨_,_,hp,hq,k ρ _ H .refl hm (by rw [Rep])⟩
 ·cases h
theorem RepL.rep {K ρ H ps xs}(h:RepL K ρ H ps xs):∀k:Nat,RepL K ρ H (List.replicate k ps).flatten (List.replicate k xs).flatten
 | 0=>.nil
 | k+1=>by
  rw [List.replicate_succ,List.replicate_succ,List.flatten_cons,List.flatten_cons]
  exact h.append (RepL.rep h k)
theorem ox_mul:OpR X (binaryOp .Mult) (G2 X.K cl mulG):=by
 intro pins s σ H x y v u Q I rx ry ⟨ρ,p,q,mem,r,hm,hp,hq,h,k⟩
 cases p with
 | int i=>
  cases q with
  | int j=>
   rw [rep_int] at hp hq
   simp only [mulG] at h
   split at h
   ·rename_i hz
    obtain rfl:=zsi h
    exact op_mul pins s σ H x y v u Q I rx ry ⟨_,_,hp,hq,hz,k ρ _ H .refl hm (by rw [Rep])⟩
   ·cases h
  | _=>cases h
 | ref i=>
  cases q with
  | int j=>
   rw [rep_ref] at hp
   rw [rep_int] at hq
   obtain⟨a,ha,rfl⟩:=hp
   simp only [mulG] at h
   split at h
   ·rename_i ss e1
    split at h
    ·rename_i hz
     obtain rfl:=zsi h
     obtain⟨xs,z1,z2⟩:=hm.ok i a _ ha e1
     refine op_rep pins s σ H _ _ v u Q I rx ry ⟨a,j,xs,rfl,hq,z1,hz.1,hz.2.1,by rw [z2.length];exact hz.2.2,fun p hp=>?_⟩
     obtain⟨y1,y2,y3⟩:=new_lst hm (z2.rep j.toNat) hp
     exact k _ _ _ y1 y2 y3
    ·cases h
   ·cases h
  | _=>cases h
 | _=>cases h
theorem ox_div:OpR X (binaryOp .FloorDiv) (G2 X.K cl divG):=by
 intro pins s σ H x y v u Q I rx ry ⟨ρ,p,q,mem,r,hm,hp,hq,h,k⟩
 unfold divG at h
 split at h
 ·rename_i i j
  split at h
  ·rename_i hz
   obtain rfl:=zsi h
   rw [rep_int] at hp hq
   exact op_fdivW pins s σ H x y v u Q I rx ry ⟨_,_,hp,hq,wide_div (b:=64) hz.1 (by have:=hz.2;omega) (by decide) (by decide),k ρ _ H .refl hm (by rw [Rep])⟩
  ·cases h
 ·cases h
theorem ox_mod:OpR X (binaryOp .Mod) (G2 X.K cl modG):=by
 intro pins s σ H x y v u Q I rx ry ⟨ρ,p,q,mem,r,hm,hp,hq,h,k⟩
 unfold modG at h
 split at h
 ·split at h
  ·rename_i hz
   obtain rfl:=zsi h
   rw [rep_int] at hp hq
   exact op_mod pins s σ H x y v u Q I rx ry ⟨_,_,hp,hq,hz,k ρ _ H .refl hm (by rw [Rep])⟩
  ·cases h
 ·cases h
theorem ox_pow:OpR X (binaryOp .Pow) (G2 X.K cl powG):=by
 intro pins s σ H x y v u Q I rx ry ⟨ρ,p,q,mem,r,hm,hp,hq,h,k⟩
 unfold powG at h
 split at h
 ·split at h
  ·rename_i hz
   obtain rfl:=zsi h
   rw [rep_int] at hp hq
   exact op_pow pins s σ H x y v u Q I rx ry ⟨_,_,hp,hq,⟨hz.1,by have:=hz.2.1;omega,hz.2.2⟩,k ρ _ H .refl hm (by rw [Rep])⟩
  ·cases h
 ·cases h
def negG:PV→Mem→Option (PV×Mem)
 | .int i,m=>some (.int (-i),m)
 | _,_=>none
theorem ox_neg:UnR X (unaryOp .USub) (G1 X.K cl negG):=by
 intro pins s σ H x v Q I rx ⟨ρ,p,mem,r,hm,hp,h,k⟩
 unfold negG at h
 split at h
 ·obtain rfl:=zsi h
  rw [rep_int] at hp
  exact un_neg pins s σ H x v Q I rx ⟨_,hp,k ρ _ H .refl hm (by rw [Rep])⟩
 ·cases h
def cmpG (f:Int→Int→Bool):PV→PV→Mem→Option (PV×Mem)
 | .int i,.int j,m=>some (.bl (f i j),m)
 | _,_,_=>none
theorem ox_cmp {op:CmpOp}{f:Int→Int→Bool}(ho:OpR X (compareOp op) (rI0 fun i j=>.bl (f i j))):OpR X (compareOp op) (G2 X.K cl (cmpG f)):=by
 intro pins s σ H x y v u Q I rx ry ⟨ρ,p,q,mem,r,hm,hp,hq,h,k⟩
 unfold cmpG at h
 split at h
 ·obtain rfl:=zsi h
  rw [rep_int] at hp hq
  exact ho pins s σ H x y v u Q I rx ry ⟨_,_,hp,hq,k ρ _ H .refl hm (by rw [Rep])⟩
 ·cases h
abbrev ltG:=cmpG fun i j=>decide (i<j)
abbrev leG:=cmpG fun i j=>decide (i≤j)
abbrev gtG:=cmpG fun i j=>decide (j<i)
abbrev geG:=cmpG fun i j=>decide (j≤i)
theorem ox_lt:OpR X (compareOp .Lt) (G2 X.K cl ltG):=ox_cmp op_lt
theorem ox_gt:OpR X (compareOp .Gt) (G2 X.K cl gtG):=ox_cmp op_gt
theorem ox_ge:OpR X (compareOp .GtE) (G2 X.K cl geG):=ox_cmp op_ge
mutual
def toD:PV→Option PyData
 | .non=>some .none
 | .bl b=>some (.bool b)
 | .int i=>some (.int i)
 | .str s=>some (.str s)
 | .tup ps=>(toDs ps).map PyData.tuple
 | .ref _=>none
def toDs:List PV→Option (List PyData)
 | []=>some []
 | p::ps=>(toD p).bind fun d=>(toDs ps).map fun ds=>d::ds
end
def toDm (p:PV)(m:Mem):Option PyData:=match p with
 | .ref i=>match m[i]? with
  | some (.lst ps)=>(toDs ps).map PyData.list
  | some (.rol ps)=>(toDs ps).map PyData.list
  | _=>none
 | p=>toD p
mutual
theorem toD_rep {K:PySem.W.Frag}{ρ:List Addr}{H:Hp}:∀(p:PV) (v:V) (d:PyData),Rep K ρ H p v→toD p=some d→Dp K H v d
 | .non,v,d,h,e=>by rw [rep_non] at h;rw [toD] at e;cases e;subst h;exact .non
 | .bl b,v,d,h,e=>by rw [rep_bl] at h;rw [toD] at e;cases e;subst h;exact .bl b
 | .int b,v,d,h,e=>by rw [rep_int] at h;rw [toD] at e;cases e;subst h;exact .int b
 | .str b,v,d,h,e=>by rw [rep_str] at h;rw [toD] at e;cases e;subst h;exact .str b
 | .tup ps,v,d,h,e=>by
  rw [rep_tup] at h
  obtain⟨a,xs,rfl,h1,h2⟩:=h
  rw [toD] at e
  obtain⟨ds,e1,rfl⟩:=zmm e
  exact .tup h1.t (toDs_rep ps xs ds h2 e1)
 | .ref i,v,d,h,e=>by rw [toD] at e;cases e
theorem toDs_rep {K:PySem.W.Frag}{ρ:List Addr}{H:Hp}:∀(ps:List PV) (xs:List V) (ds:List PyData),RepL K ρ H ps xs→toDs ps=some ds→DpAll K H xs ds
 | [],xs,ds,h,e=>by rw [toDs] at e;cases e;rw [h.inv0];exact .nil
 | p::ps,xs,ds,h,e=>by
  obtain⟨x,r,rfl,h1,h2⟩:=h.inv
  rw [toDs] at e
  obtain⟨d,e1,e⟩:=zbm e
  obtain⟨ds,e2,rfl⟩:=zmm e
  exact .cons (toD_rep p x d h1 e1) (toDs_rep ps r ds h2 e2)
end
theorem toDm_rep {ρ:List Addr}{H:Hp}{m:Mem}{p:PV}{v:V}{d:PyData}(hm:RelM X.K cl ρ H m)(h:Rep X.K ρ H p v)(e:toDm p m=some d):Dp X.K H v d:=by
 cases p with
 | ref i=>
  rw [rep_ref] at h
  obtain⟨a,ha,rfl⟩:=h
  simp only [toDm] at e
  split at e
  ·rename_i ps z
   obtain⟨ds,e1,rfl⟩:=zmm e
   obtain⟨xs,s1,s2⟩:=sq_of hm ha (.inl z)
   exact .lst s1 (toDs_rep ps xs ds s2 e1)
  ·rename_i ps z
   obtain⟨ds,e1,rfl⟩:=zmm e
   obtain⟨xs,s1,s2⟩:=sq_of hm ha (.inr z)
   exact .lst s1 (toDs_rep ps xs ds s2 e1)
  ·cases e
 | _=>exact toD_rep _ v d h e
def eqB (p q:PV)(m:Mem):Option Bool:=match p,q with
 | .int i,.int j=>some (decide (i=j))
 | .str i,.str j=>some (decide (i=j))
 | .bl i,.bl j=>some (decide (i=j))
 | p,q=>(toDm p m).bind fun d=>(toDm q m).bind fun e=>if SeqAt.shaped d=true∧SeqAt.shaped e=true then some (PyData.eqv d e) else none
def eqG (p q:PV)(m:Mem):Option (PV×Mem):=(eqB p q m).map fun k=>(.bl k,m)
def neG (p q:PV)(m:Mem):Option (PV×Mem):=(eqB p q m).map fun k=>(.bl (!k),m)
theorem eqB_ok {ρ:List Addr}{H:Hp}{m:Mem}{p q:PV}{x y:V}{k:Bool}(hm:RelM X.K cl ρ H m)(hp:Rep X.K ρ H p x)(hq:Rep X.K ρ H q y)(h:eqB p q m=some k):
  (scal x y=true∧k=decide (x=y))∨∃d e,Dp X.K H x d∧Dp X.K H y e∧SeqAt.shaped d=true∧SeqAt.shaped e=true∧k=PyData.eqv d e:=by
 unfold eqB at h
 split at h
 ·obtain rfl:=zsi h
  rw [rep_int] at hp hq
  subst hp hq
  exact .inl ⟨rfl,by simp⟩
 ·obtain rfl:=zsi h
  rw [rep_str] at hp hq
  subst hp hq
  exact .inl ⟨rfl,by simp⟩
 ·obtain rfl:=zsi h
  rw [rep_bl] at hp hq
  subst hp hq
  exact .inl ⟨rfl,by simp⟩
 ·obtain⟨d,e1,h⟩:=zbm h
  obtain⟨e,e2,h⟩:=zbm h
  split at h
  ·rename_i hs
   obtain rfl:=zsi h
   exact .inr ⟨d,e,toDm_rep hm hp e1,toDm_rep hm hq e2,hs.1,hs.2,rfl⟩
  ·cases h
theorem ox_eq (hu:X.A.units+64<cLine):OpR X (compareOp .Eq) (G2 X.K cl eqG):=by
 intro pins s σ H x y v u Q I rx ry ⟨ρ,p,q,mem,r,hm,hp,hq,h,k⟩
 obtain⟨b,h1,rfl⟩:=zmm h
 have kk:=k ρ (.bl b) H .refl hm (by rw [Rep])
 rcases eqB_ok hm hp hq h1 with⟨z1,rfl⟩|⟨d,e,z1,z2,z3,z4,rfl⟩
 ·exact op_eq pins s σ H x y v u Q I rx ry ⟨z1,kk⟩
 ·exact op_eqD hu pins s σ H x y v u Q I rx ry ⟨d,e,z1,z2,z3,z4,kk⟩
theorem ox_ne (hu:X.A.units+64<cLine):OpR X (compareOp .NotEq) (G2 X.K cl neG):=by
 intro pins s σ H x y v u Q I rx ry ⟨ρ,p,q,mem,r,hm,hp,hq,h,k⟩
 obtain⟨b,h1,rfl⟩:=zmm h
 have kk:=k ρ (.bl (!b)) H .refl hm (by rw [Rep])
 rcases eqB_ok hm hp hq h1 with⟨z1,rfl⟩|⟨d,e,z1,z2,z3,z4,rfl⟩
 ·exact op_ne pins s σ H x y v u Q I rx ry ⟨z1,kk⟩
 ·exact op_neD hu pins s σ H x y v u Q I rx ry ⟨d,e,z1,z2,z3,z4,kk⟩
def isNG (p q:PV)(m:Mem):Option (PV×Mem):=match q with
 | .non=>some (.bl (decide (p=.non)),m)
 | _=>none
def notNG (p q:PV)(m:Mem):Option (PV×Mem):=match q with
 | .non=>some (.bl (!decide (p=.non)),m)
 | _=>none
theorem rep_isn {K ρ H p x}(h:Rep K ρ H p x):decide (x=V.non)=decide (p=PV.non):=by
 cases p with
 | non=>rw [rep_non] at h;subst h;rfl
 | bl b=>rw [rep_bl] at h;subst h;rfl
 | int b=>rw [rep_int] at h;subst h;rfl
 | str b=>rw [rep_str] at h;subst h;rfl
 | tup b=>rw [rep_tup] at h;obtain⟨a,xs,rfl,_⟩:=h;rfl
 | ref b=>rw [rep_ref] at h;obtain⟨a,_,rfl⟩:=h;rfl
theorem ox_isn:OpR X (compareOp .Is) (G2 X.K cl isNG):=by
 intro pins s σ H x y v u Q I rx ry ⟨ρ,p,q,mem,r,hm,hp,hq,h,k⟩
 unfold isNG at h
 split at h
 ·obtain rfl:=zsi h
  rw [rep_non] at hq
  exact op_isN pins s σ H x y v u Q I rx ry ⟨hq,k ρ _ H .refl hm (by rw [rep_bl,rep_isn hp])⟩
 ·cases h
theorem ox_notn:OpR X (compareOp .IsNot) (G2 X.K cl notNG):=by
 intro pins s σ H x y v u Q I rx ry ⟨ρ,p,q,mem,r,hm,hp,hq,h,k⟩
 unfold notNG at h
 split at h
 ·obtain rfl:=zsi h
  rw [rep_non] at hq
  exact op_notN pins s σ H x y v u Q I rx ry ⟨hq,k ρ _ H .refl hm (by rw [rep_bl,rep_isn hp])⟩
 ·cases h
def flP:PV→Option V
 | .non=>some .non
 | .bl b=>some (.bl b)
 | .int i=>some (.int i)
 | .str s=>some (.str s)
 | _=>none
def flPs:List PV→Option (List V)
 | []=>some []
 | p::ps=>(flP p).bind fun v=>(flPs ps).map fun vs=>v::vs
theorem flP_rep {K ρ H p v w}(h:Rep K ρ H p v)(e:flP p=some w):v=w∧flatV w=true:=by
 cases p with
 | non=>cases e;rw [rep_non] at h;exact⟨h,rfl⟩
 | bl b=>cases e;rw [rep_bl] at h;exact⟨h,rfl⟩
 | int b=>cases e;rw [rep_int] at h;exact⟨h,rfl⟩
 | str b=>cases e;rw [rep_str] at h;exact⟨h,rfl⟩
 | _=>cases e
theorem flPs_rep {K ρ H}:∀ {ps:List PV} {xs ws:List V},RepL K ρ H ps xs→flPs ps=some ws→xs=ws∧ws.all flatV=true
 | [],xs,ws,h,e=>by cases e;exact⟨h.inv0,rfl⟩
 | p::ps,xs,ws,h,e=>by
  obtain⟨x,r,rfl,h1,h2⟩:=h.inv
  unfold flPs at e
  obtain⟨d,e1,e⟩:=zbm e
  obtain⟨ds,e2,rfl⟩:=zmm e
  obtain⟨rfl,h3⟩:=flP_rep h1 e1
  obtain⟨rfl,h4⟩:=flPs_rep h2 e2
  exact⟨rfl,by rw [List.all_cons,h3,h4];rfl⟩
def inB (p q:PV)(m:Mem):Option Bool:=match q with
 | .tup ps=>(flP p).bind fun v=>(flPs ps).map fun vs=>inV v vs
 | .ref i=>match m[i]? with
  | some (.lst ps)=>(flP p).bind fun v=>(flPs ps).map fun vs=>inV v vs
  | _=>none
 | .str z=>match p with
  | .str y=>some (!(Builtin.Str.occurrences z y 0 z.length 1).isEmpty)
  | _=>none
 | _=>none
def inG (p q:PV)(m:Mem):Option (PV×Mem):=(inB p q m).map fun k=>(.bl k,m)
theorem inB_ok {ρ:List Addr}{H:Hp}{m:Mem}{p q:PV}{x y:V}{k:Bool}(hm:RelM X.K cl ρ H m)(hp:Rep X.K ρ H p x)(hq:Rep X.K ρ H q y)(h:inB p q m=some k):
  (∃a xs,y=.ref a∧(SqL X.K H a xs∨SqT X.K H a xs)∧flatV x=true∧xs.all flatV=true∧k=inV x xs)∨∃i j,x=.str i∧y=.str j∧k = !(Builtin.Str.occurrences j i 0 j.length 1).isEmpty:=by
 unfold inB at h
 split at h
 ·rename_i ps
  rw [rep_tup] at hq
  obtain⟨a,xs,rfl,h1,h2⟩:=hq
  obtain⟨d,e1,e⟩:=zbm h
  obtain⟨ds,e2,rfl⟩:=zmm e
  obtain⟨rfl,h3⟩:=flP_rep hp e1
  obtain⟨rfl,h4⟩:=flPs_rep h2 e2
  exact .inl ⟨a,_,rfl,.inr h1.t,h3,h4,rfl⟩
 ·rename_i i
  rw [rep_ref] at hq
  obtain⟨a,ha,rfl⟩:=hq
  split at h
  ·rename_i ps z
   obtain⟨xs,s1,s2⟩:=sq_of hm ha (.inl z)
   obtain⟨d,e1,e⟩:=zbm h
   obtain⟨ds,e2,rfl⟩:=zmm e
   obtain⟨rfl,h3⟩:=flP_rep hp e1
   obtain⟨rfl,h4⟩:=flPs_rep s2 e2
   exact .inl ⟨a,_,rfl,.inl s1,h3,h4,rfl⟩
  ·cases h
 ·split at h
  ·obtain rfl:=zsi h
   rw [rep_str] at hp hq
   exact .inr ⟨_,_,hp,hq,rfl⟩
  ·cases h
 ·cases h
theorem ox_in:OpR X (compareOp .In) (G2 X.K cl inG):=by
 intro pins s σ H x y v u Q I rx ry ⟨ρ,p,q,mem,r,hm,hp,hq,h,k⟩
 obtain⟨b,h1,rfl⟩:=zmm h
 have kk:=k ρ (.bl b) H .refl hm (by rw [Rep])
 rcases inB_ok hm hp hq h1 with⟨a,xs,z1,z2,z3,z4,rfl⟩|⟨i,j,z1,z2,rfl⟩
 ·exact op_in_seq pins s σ H x y v u Q I rx ry ⟨a,xs,z1,z2,z3,z4,kk⟩
 ·exact op_in_str pins s σ H x y v u Q I rx ry ⟨i,j,z1,z2,kk⟩
def intG:List PV→Mem→Option (PV×Mem)
 | [.int i],m=>some (.int i,m)
 | [.bl k],m=>some (.int (if k=true then 1 else 0),m)
 | [.str s],m=>match PySem.intText? s with
  | some n=>if s.length≤640 then some (.int n,m) else none
  | none=>none
 | _,_=>none
theorem cx_int:CallR X (.type "int") (GL X.K cl intG):=by
 intro pins s σ H xs us Q I rs ⟨ρ,ps,mem,r,hm,hp,h,k⟩
 unfold intG at h
 split at h
 ·obtain rfl:=zsi h
  obtain⟨x,xs,rfl,h1,h2⟩:=hp.inv
  obtain rfl:=h2.inv0
  rw [rep_int] at h1;subst h1
  exact call_int1 pins s σ H _ us Q I rs (.inl ⟨_,rfl,k ρ _ H .refl hm (by rw [Rep])⟩)
 ·obtain rfl:=zsi h
  obtain⟨x,xs,rfl,h1,h2⟩:=hp.inv
  obtain rfl:=h2.inv0
  rw [rep_bl] at h1;subst h1
  exact call_int1 pins s σ H _ us Q I rs (.inr ⟨_,rfl,k ρ _ H .refl hm (by rw [Rep])⟩)
 ·split at h
  ·rename_i n hn
   split at h
   ·rename_i hl
    obtain rfl:=zsi h
    obtain⟨x,xs,rfl,h1,h2⟩:=hp.inv
    obtain rfl:=h2.inv0
    rw [rep_str] at h1;subst h1
    exact call_int_str pins s σ H _ us Q I rs ⟨_,n,rfl,hn,hl,k ρ _ H .refl hm (by rw [Rep])⟩
   ·cases h
  ·cases h
 ·cases h
def strG:List PV→Mem→Option (PV×Mem)
 | [.int i],m=>if i.natAbs<2 ^ 1900 then some (.str (toString i),m) else none
 | _,_=>none
theorem cx_str:CallR X (.type "str") (GL X.K cl strG):=by
 intro pins s σ H xs us Q I rs ⟨ρ,ps,mem,r,hm,hp,h,k⟩
 unfold strG at h
 split at h
 ·split at h
  ·rename_i hz
   obtain rfl:=zsi h
   obtain⟨x,xs,rfl,h1,h2⟩:=hp.inv
   obtain rfl:=h2.inv0
   rw [rep_int] at h1;subst h1
   exact call_str_int pins s σ H _ us Q I rs ⟨_,rfl,Nat.lt_of_lt_of_le (PySem.Flt.log2_lt_of (by decide) hz) (by decide),k ρ _ H .refl hm (by rw [Rep])⟩
  ·cases h
 ·cases h
def lenB (p:PV)(m:Mem):Option Nat:=match p with
 | .tup ps=>some ps.length
 | .str s=>if s.length≤sizeLine then some s.length else none
 | .ref i=>match m[i]? with
  | some (.lst ps)=>some ps.length
  | some (.rol ps)=>some ps.length
  | _=>none
 | _=>none
def lenG:List PV→Mem→Option (PV×Mem)
 | [p],m=>(lenB p m).map fun n=>(.int (n:Nat),m)
 | _,_=>none
theorem seq_of {ρ:List Addr}{H:Hp}{m:Mem}{p:PV}{x:V}{ps:List PV}(hm:RelM X.K cl ρ H m)(hp:Rep X.K ρ H p x)(h:p=.tup ps∨∃i,p=.ref i∧(m[i]?=some (.lst ps)∨m[i]?=some (.rol ps))):∃a xs,x=.ref a∧(SqL X.K H a xs∨SqT X.K H a xs)∧RepL X.K ρ H ps xs:=by
 rcases h with rfl|⟨i,rfl,h⟩
 ·rw [rep_tup] at hp
  obtain⟨a,xs,rfl,h1,h2⟩:=hp
  exact⟨a,xs,rfl,.inr h1.t,h2⟩
 ·rw [rep_ref] at hp
  obtain⟨a,ha,rfl⟩:=hp
  obtain⟨xs,s1,s2⟩:=sq_of hm ha h
  exact⟨a,xs,rfl,.inl s1,s2⟩
theorem cx_len:CallR X (.builtin "len") (GL X.K cl lenG):=by
 intro pins s σ H xs us Q I rs ⟨ρ,ps,mem,r,hm,hp,h,k⟩
 unfold lenG at h
 split at h
 ·rename_i p
  obtain⟨n,h1,rfl⟩:=zmm h
  obtain⟨x,xs,rfl,i1,i2⟩:=hp.inv
  obtain rfl:=i2.inv0
  have seq:∀qs:List PV,(p=.tup qs∨∃i,p=.ref i∧(mem[i]?=some (.lst qs)∨mem[i]?=some (.rol qs)))→n=qs.length→wpAny (model X.prog X.w) X.A (call (.builtin "len") us) (EP X pins σ Q) X.xe s:=fun qs hs e=>by
   obtain⟨a,ys,rfl,z1,z2⟩:=seq_of hm i1 hs
   exact call_len_seq pins s σ H _ us Q I rs ⟨a,ys,rfl,z1,k ρ _ H .refl hm (by rw [rep_int,z2.length,e])⟩
  unfold lenB at h1
  split at h1
  ·exact seq _ (.inl rfl) (zsi h1).symm
  ·split at h1
   ·rename_i hz
    obtain rfl:=zsi h1
    rw [rep_str] at i1;subst i1
    exact call_len_str pins s σ H _ us Q I rs ⟨_,rfl,hz,k ρ _ H .refl hm (by rw [Rep])⟩
   ·cases h1
  ·split at h1
   ·rename_i e
    exact seq _ (.inr ⟨_,rfl,.inl e⟩) (zsi h1).symm
   ·rename_i e
    exact seq _ (.inr ⟨_,rfl,.inr e⟩) (zsi h1).symm
   ·cases h1
  ·cases h1
 ·cases h
def itemsB (p:PV)(m:Mem):Option (List PV):=match p with
 | .tup ps=>some ps
 | .ref i=>match m[i]? with
  | some (.lst ps)=>some ps
  | some (.rol ps)=>some ps
  | _=>none
 | _=>none
theorem itemsB_seq {p:PV}{m:Mem}{ps:List PV}(h:itemsB p m=some ps):p=.tup ps∨∃i,p=.ref i∧(m[i]?=some (.lst ps)∨m[i]?=some (.rol ps)):=by
 unfold itemsB at h
 split at h
 ·cases h;exact .inl rfl
 ·split at h
  ·rename_i e;cases h;exact .inr ⟨_,rfl,.inl e⟩
  ·rename_i e;cases h;exact .inr ⟨_,rfl,.inr e⟩
  ·cases h
 ·cases h
def listG:List PV→Mem→Option (PV×Mem)
 | [p],m=>(itemsB p m).map fun ps=>(.ref m.length,m++[.lst ps])
 | _,_=>none
def tupleG:List PV→Mem→Option (PV×Mem)
 | [p],m=>(itemsB p m).map fun ps=>(.tup ps,m)
 | _,_=>none
theorem cx_list:CallR X (.type "list") (GL X.K cl listG):=by
 intro pins s σ H xs us Q I rs ⟨ρ,ps,mem,r,hm,hp,h,k⟩
 unfold listG at h
 split at h
 ·obtain⟨qs,h1,rfl⟩:=zmm h
  obtain⟨x,xs,rfl,i1,i2⟩:=hp.inv
  obtain rfl:=i2.inv0
  obtain⟨a,ys,rfl,z1,z2⟩:=seq_of hm i1 (itemsB_seq h1)
  refine call_list_of pins s σ H _ us Q I rs ⟨a,ys,rfl,z1,fun p hp=>?_⟩
  obtain⟨y1,y2,y3⟩:=new_lst hm z2 hp
  exact k _ _ _ y1 y2 y3
 ·cases h
theorem call_tuple_ofP:CallR X (.type "tuple") (fun xs H Q=>∃p ys,xs=[.ref p]∧SqL X.K H p ys∧∀(l:Addr) (ob:Obj),ob.dict=none→H l=none→Q (.ref l) (upd H l (.frz ob (.tup ys)))):=by
 intro pins s σ H xs us Q I r h
 obtain⟨p,ys,rfl,hq,q⟩:=h
 obtain⟨u,rfl,rx⟩:=vals1 r
 cases rx
 obtain⟨its,rv,pl,hz⟩:=I.list hq
 refine call_tuple_list pl.isList (fun h' hk=>?_) (by rw [List.size_toArray,←rv.length];exact hz)
 have I1:Inv X pins σ H { s with heap:=h' }:=I.kept (t':=s.toks) hk
 exact laid_tup I1 hz rv q
theorem cx_tuple:CallR X (.type "tuple") (GL X.K cl tupleG):=by
 intro pins s σ H xs us Q I rs ⟨ρ,ps,mem,r,hm,hp,h,k⟩
 unfold tupleG at h
 split at h
 ·obtain⟨qs,h1,rfl⟩:=zmm h
  obtain⟨x,xs,rfl,i1,i2⟩:=hp.inv
  obtain rfl:=i2.inv0
  rename_i p0
  have lst:∀(i:Nat) (w:p0=PV.ref i),mem[i]?=some (.lst qs)∨mem[i]?=some (.rol qs)→wpAny (model X.prog X.w) X.A (call (.type "tuple") us) (EP X pins σ Q) X.xe s:=fun i w hi=>by
   subst w
   rw [rep_ref] at i1
   obtain⟨a,ha,rfl⟩:=i1
   obtain⟨ys,z1,z2⟩:=sq_of hm ha hi
   refine call_tuple_ofP pins s σ H _ us Q I rs ⟨a,ys,rfl,z1,fun p ob hob hp=>?_⟩
   obtain⟨y1,y2,y3⟩:=new_tup hob hm z2 hp
   exact k _ _ _ y1 y2 y3
  unfold itemsB at h1
  split at h1
  ·obtain rfl:=zsi h1
   have i1':=i1
   rw [rep_tup] at i1
   obtain⟨a,ys,rfl,z1,z2⟩:=i1
   exact call_tuple_of pins s σ H _ us Q I rs ⟨a,ys,rfl,.inr ⟨z1.t,k ρ _ H .refl hm i1'⟩⟩
  ·split at h1
   ·rename_i e
    obtain rfl:=zsi h1
    exact lst _ rfl (.inl e)
   ·rename_i e
    obtain rfl:=zsi h1
    exact lst _ rfl (.inr e)
   ·cases h1
  ·cases h1
 ·cases h
def minG:List PV→Mem→Option (PV×Mem)
 | [.int i,.int j],m=>some (.int (if j<i then j else i),m)
 | _,_=>none
theorem cx_min (hc:X.calm=true):CallR X (.builtin "min") (GL X.K cl minG):=by
 intro pins s σ H xs us Q I rs ⟨ρ,ps,mem,r,hm,hp,h,k⟩
 unfold minG at h
 split at h
 ·obtain rfl:=zsi h
  obtain⟨x,xs,rfl,i1,i2⟩:=hp.inv
  obtain⟨y,ys,rfl,i3,i4⟩:=i2.inv
  obtain rfl:=i4.inv0
  rw [rep_int] at i1 i3
  subst i1 i3
  exact call_min2 hc pins s σ H _ us Q I rs ⟨_,_,rfl,k ρ _ H .refl hm (by rw [Rep])⟩
 ·cases h
def blsP:List PV→Option (List Bool)
 | []=>some []
 | .bl b::ps=>(blsP ps).map fun bs=>b::bs
 | _=>none
theorem blsP_rep {K ρ H}:∀ {ps:List PV} {xs:List V} {bs:List Bool},RepL K ρ H ps xs→blsP ps=some bs→xs=bs.map V.bl
 | [],xs,bs,h,e=>by cases e;exact h.inv0
 | p::ps,xs,bs,h,e=>by
  obtain⟨x,r,rfl,h1,h2⟩:=h.inv
  unfold blsP at e
  split at e
  ·rename_i heq
   cases heq
  ·rename_i b qs heq
   obtain⟨rfl,rfl⟩:=List.cons.inj heq
   obtain⟨ds,e2,rfl⟩:=zmm e
   rw [rep_bl] at h1
   rw [h1,blsP_rep h2 e2]
   rfl
  ·cases e
def lstB (p:PV)(m:Mem):Option (List PV):=match p with
 | .ref i=>match m[i]? with
  | some (.lst ps)=>some ps
  | _=>none
 | _=>none
theorem lstB_ok {ρ:List Addr}{H:Hp}{m:Mem}{p:PV}{x:V}{ps:List PV}(hm:RelM X.K cl ρ H m)(hp:Rep X.K ρ H p x)(h:lstB p m=some ps):∃i a xs,p=.ref i∧m[i]?=some (.lst ps)∧ρ[i]?=some a∧x=.ref a∧H a=some (.lst xs)∧RepL X.K ρ H ps xs:=by
 unfold lstB at h
 split at h
 ·split at h
  ·rename_i i ps z
   obtain rfl:=zsi h
   rw [rep_ref] at hp
   obtain⟨a,ha,rfl⟩:=hp
   obtain⟨xs,z1,z2⟩:=hm.ok _ a _ ha z
   exact⟨_,a,xs,rfl,z,ha,rfl,z1,z2⟩
  ·cases h
 ·cases h
def anyG:List PV→Mem→Option (PV×Mem)
 | [p],m=>(lstB p m).bind fun ps=>(blsP ps).map fun bs=>(.bl (bs.any id),m)
 | _,_=>none
def allG:List PV→Mem→Option (PV×Mem)
 | [p],m=>(lstB p m).bind fun ps=>(blsP ps).map fun bs=>(.bl (bs.all id),m)
 | _,_=>none
theorem cx_any (hc:X.calm=true):CallR X (.builtin "any") (GL X.K cl anyG):=by
 intro pins s σ H xs us Q I rs ⟨ρ,ps,mem,r,hm,hp,h,k⟩
 unfold anyG at h
 split at h
 ·obtain⟨qs,h1,h⟩:=zbm h
  obtain⟨bs,h2,rfl⟩:=zmm h
  obtain⟨x,xs,rfl,i1,i2⟩:=hp.inv
  obtain rfl:=i2.inv0
  obtain⟨i,a,ys,rfl,y1,y2,rfl,y3,y4⟩:=lstB_ok hm i1 h1
  have:=blsP_rep y4 h2
  subst this
  exact cr_any hc pins s σ H _ us Q I rs ⟨a,bs,rfl,.inl (.inl y3),k ρ _ H .refl hm (by rw [Rep])⟩
 ·cases h
theorem cx_all (hc:X.calm=true):CallR X (.builtin "all") (GL X.K cl allG):=by
 intro pins s σ H xs us Q I rs ⟨ρ,ps,mem,r,hm,hp,h,k⟩
 unfold allG at h
 split at h
 ·obtain⟨qs,h1,h⟩:=zbm h
  obtain⟨bs,h2,rfl⟩:=zmm h
  obtain⟨x,xs,rfl,i1,i2⟩:=hp.inv
  obtain rfl:=i2.inv0
  obtain⟨i,a,ys,rfl,y1,y2,rfl,y3,y4⟩:=lstB_ok hm i1 h1
  have:=blsP_rep y4 h2
  subst this
  exact cr_all hc pins s σ H _ us Q I rs ⟨a,bs,rfl,.inl (.inl y3),k ρ _ H .refl hm (by rw [Rep])⟩
 ·cases h
end
section
variable {X:Cx}{cl:Nat→Addr}
variable {a b c e o:Expr}{es:List Expr}{pos p apos pos' cpos:Pos}{ma mb mc me mo mi:Ex}{x f:Str}{mA:Ax}
abbrev Mg:=PV→List PV→Mem→Option (PV×Mem)
def xM (chk:PV→Mem→Bool)(g:Mg)(o:Ex)(a:Ax):Ex:=fun env m=>(o env m).bind fun r=>if chk r.1 r.2=true then(a env r.2).bind fun s=>g r.1 s.1 s.2 else none
def chkL (p:PV)(m:Mem):Bool:=(lstB p m).isSome
def chkS (p:PV)(_:Mem):Bool:=match p with
 | .str _=>true
 | _=>false
theorem chkL_ok {ρ:List Addr}{H:Hp}{m:Mem}{p:PV}{v:V}(hm:RelM X.K cl ρ H m)(hp:Rep X.K ρ H p v)(h:chkL p m=true):tyV X.K "list" v H:=by
 unfold chkL at h
 cases e:lstB p m with
 | none=>rw [e] at h;cases h
 | some ps=>
  obtain⟨i,a,xs,rfl,_,_,rfl,z,_⟩:=lstB_ok hm hp e
  exact .inl ⟨rfl,xs,.inl (.inl z)⟩
theorem chkS_ok {ρ:List Addr}{H:Hp}{m:Mem}{p:PV}{v:V}(hm:RelM X.K cl ρ H m)(hp:Rep X.K ρ H p v)(h:chkS p m=true):tyV X.K "str" v H:=by
 unfold chkS at h
 split at h
 ·rw [rep_str] at hp;subst hp;rfl
 ·cases h
theorem rx_m {T id:String}{name:Str}{chk:PV→Mem→Bool}{g:Mg}(pa:PlainAttrs T)(slot:Slot T name id)(hty:typeOf (.builtin id)=pure (.type "method_descriptor"))(hm:MtR X id (GM X.K cl g))
  (hk:∀(ρ:List Addr) (H:Hp) (m:Mem) (p:PV) (v:V),RelM X.K cl ρ H m→Rep X.K ρ H p v→chk p m=true→tyV X.K T v H) (ho:RX cl X o mo) (ha:RA cl X (e::es) mA)
  (hbase:attributeBase o name X.env (eval o X.env)=eval o X.env:=by rfl)
  (hfew:((backTo cpos (starEach (e::es) X.env)).all (fun x => !x.1)&&(backToKw cpos (keywordEach [] X.env)).all (fun x=>x.1.isSome)
   && decide ((e::es).length+([]:List Keyword).length+(if([]:List Keyword).isEmpty then 0 else 1)<30))=true:=by rfl)
  (hline:(apos.endLine == cpos.line)=true:=by rfl) (hs:starEach (e::es) X.env=(false,eval e X.env)::starEach es X.env:=by rfl) (hplain:(backTo cpos (starEach es X.env)).any (·.1)=false:=by rfl):
  RX cl X (.Call (.Attribute o name apos) (e::es) [] cpos) (xM chk g mo mA):=PE.imp (pe_bm pa slot hty hm ho ha hbase hfew hline hs hplain) fun σ H Q ⟨ρ,env,mem,r,hm,hE,h,q⟩=>by
 unfold xM at h
 obtain⟨r1,e1,h⟩:=zbm h
 split at h
 ·rename_i hc
  obtain⟨r2,e2,h⟩:=zbm h
  exact⟨ρ,env,mem,r1,hm,hE,e1,fun ρ1 v1 H1 x1 m1 p1=>⟨hk _ _ _ _ _ m1 p1 hc,ρ1,env,r1.2,r2,m1,hE.ext x1,e2,fun ρ2 vs H2 x2 m2 p2=>⟨ρ2,r1.1,r2.1,r2.2,r,m2,x2.rep _ _ p1,p2,h,q.ext (x1.trans x2)⟩⟩⟩
 ·cases h
theorem rx_m0 {T id:String}{name:Str}{chk:PV→Mem→Bool}{g:Mg}(pa:PlainAttrs T)(slot:Slot T name id)(hty:typeOf (.builtin id)=pure (.type "method_descriptor"))(hm:MtR X id (GM X.K cl g))
  (hk:∀(ρ:List Addr) (H:Hp) (m:Mem) (p:PV) (v:V),RelM X.K cl ρ H m→Rep X.K ρ H p v→chk p m=true→tyV X.K T v H) (ho:RX cl X o mo)
  (hbase:attributeBase o name X.env (eval o X.env)=eval o X.env:=by rfl) (hline:(apos.endLine == cpos.line)=true:=by rfl):
  RX cl X (.Call (.Attribute o name apos) [] [] cpos) (xM chk g mo An):=PE.imp (pe_bm0 pa slot hty hm ho hbase hline) fun σ H Q ⟨ρ,env,mem,r,hm,hE,h,q⟩=>by
 unfold xM An at h
 obtain⟨r1,e1,h⟩:=zbm h
 split at h
 ·rename_i hc
  exact⟨ρ,env,mem,r1,hm,hE,e1,fun ρ1 v1 H1 x1 m1 p1=>⟨hk _ _ _ _ _ m1 p1 hc,ρ1,r1.1,[],r1.2,r,m1,p1,.nil,h,q.ext x1⟩⟩
 ·cases h
def appG:Mg:=fun p xs m=>match p,xs with
 | .ref i,[y]=>match m[i]? with
  | some (.lst ps)=>if ps.length<sizeLine then some (.non,m.set i (.lst (ps++[y]))) else none
  | _=>none
 | _,_=>none
theorem mx_app:MtR X "list.append" (GM X.K cl appG):=by
 intro pins s σ H x xs v us Q I rx rs ⟨ρ,p,ps,mem,r,hm,hp,hps,h,k⟩
 unfold appG at h
 split at h
 ·rename_i i y
  split at h
  ·rename_i qs z
   split at h
   ·rename_i hl
    obtain rfl:=zsi h
    rw [rep_ref] at hp
    obtain⟨a,ha,rfl⟩:=hp
    obtain⟨w,ws,rfl,i1,i2⟩:=hps.inv
    obtain rfl:=i2.inv0
    obtain⟨ys,y1,y2⟩:=hm.ok i a _ ha z
    have x3:Ext X.K ρ H ρ (upd H a (.lst (ys++[w]))):=ext_set hm ha z rfl
    exact mt_append pins s σ H _ _ v us Q I rx rs ⟨a,ys,w,rfl,rfl,y1,by rw [y2.length];exact hl,k ρ _ _ x3 (hm.set ha z rfl rfl ⟨_,upd_same,(x3.repL _ _ y2).append (.one (x3.rep _ _ i1))⟩) (by rw [Rep])⟩
   ·cases h
  ·cases h
 ·cases h
theorem rx_append (ho:RX cl X o mo)(ha:RX cl X e me)
  (hbase:attributeBase o "append" X.env (eval o X.env)=eval o X.env:=by rfl)
  (hfew:((backTo cpos (starEach [e] X.env)).all (fun x => !x.1)&&(backToKw cpos (keywordEach [] X.env)).all (fun x=>x.1.isSome)
   && decide (([e]:List Expr).length+([]:List Keyword).length+(if([]:List Keyword).isEmpty then 0 else 1)<30))=true:=by rfl)
  (hline:(apos.endLine == cpos.line)=true:=by rfl) (hs:starEach [e] X.env=(false,eval e X.env)::starEach [] X.env:=by rfl) (hplain:(backTo cpos (starEach [] X.env)).any (·.1)=false:=by rfl):
  RX cl X (.Call (.Attribute o "append" apos) [e] [] cpos) (xM chkL appG mo (Ac me An)):=
 rx_m PySem.F.plainAttrs_list PySem.F.slot_list_append PySem.F.type_list_append mx_app (fun _ _ _ _ _=>chkL_ok) ho (Rc ha Rn hs) hbase hfew hline hs hplain
def dicB (p:PV)(m:Mem):Option (List (Key×PV)):=match p with
 | .ref i=>match m[i]? with
  | some (.dic kvs)=>some kvs
  | _=>none
 | _=>none
def xGet (d k v:Ex):Ex:=fun env m=>(d env m).bind fun r=>if(dicB r.1 r.2).isSome=true then(k env r.2).bind fun s=>(v env s.2).bind fun t=>(dicB r.1 t.2).bind fun kvs=>(keyOf s.1).map fun kk=>((valP kvs kk).getD t.1,t.2) else none
def tyN (p:PV)(m:Mem):Option String:=match p with
 | .non=>some "NoneType"
 | .bl _=>some "bool"
 | .int _=>some "int"
 | .str _=>some "str"
 | .tup _=>some "tuple"
 | .ref i=>match m[i]? with
  | some (.lst _)=>some "list"
  | some (.rol _)=>some "list"
  | some (.dic _)=>some "dict"
  | _=>none
def isG (T:String)(p:PV)(m:Mem):Option (PV×Mem):=(tyN p m).bind fun n=>(kitB n T).map fun b=>(.bl b,m)
theorem sqT_ty {K:PySem.W.Frag}{H:Hp}{a:Addr}{xs:List V}(h:SqT K H a xs):TyX K H (.ref a) (.type "tuple"):=by
 rcases h with(h|⟨o,h⟩)|⟨o,its,n,h,hc,_⟩
 ·exact .base (.tup h)
 ·exact .fTuple h
 ·exact .kTuple h hc
theorem tyN_ok {ρ:List Addr}{H:Hp}{m:Mem}{p:PV}{x:V}{n:String}(hm:RelM X.K cl ρ H m)(hp:Rep X.K ρ H p x)(h:tyN p m=some n):TyX X.K H x (.type n):=by
 cases p with
 | non=>rw [rep_non] at hp;subst hp;cases h;exact .base .non
 | bl b=>rw [rep_bl] at hp;subst hp;cases h;exact .base (.bl b)
 | int b=>rw [rep_int] at hp;subst hp;cases h;exact .base (.int b)
 | str b=>rw [rep_str] at hp;subst hp;cases h;exact .base (.str b)
 | tup b=>rw [rep_tup] at hp;obtain⟨a,xs,rfl,h1,_⟩:=hp;cases h;exact sqT_ty h1.t
 | ref i=>
  rw [rep_ref] at hp
  obtain⟨a,ha,rfl⟩:=hp
  simp only [tyN] at h
  split at h
  ·rename_i e
   obtain rfl:=zsi h
   obtain⟨xs,z,_⟩:=hm.ok i a _ ha e
   exact .base (.lst z)
  ·rename_i e
   obtain rfl:=zsi h
   obtain⟨xs,z,_⟩:=hm.ok i a _ ha e
   rcases z with⟨o,z⟩|z
   ·exact .base (.frz z)
   ·rcases z (fun _=>none) with(z|⟨o,z⟩)|⟨o,its,n,z,hc,_⟩
    ·cases z
    ·cases z
    ·exact .kList z hc
  ·rename_i e
   obtain rfl:=zsi h
   obtain⟨xs,z,_⟩:=hm.ok i a _ ha e
   exact .base (.dK z)
  ·cases h
theorem rx_isinst {T:String}{y:Str}{py:Pos}(hg:Gl X "isinstance")(hm:X.mg "isinstance"=none)(hgT:Gl X y)(hmT:X.mg y=none)(hvT:bootBuiltins y=some (.type T))(ha:RX cl X a ma)(hn:y≠"__name__":=by decide)(hd:(y == ("__debug__":Str))=false:=by decide)
  (he:starEach [a,.Name y py] X.env=(false,eval a X.env)::starEach [.Name y py] X.env:=by rfl) (he2:starEach [.Name y py] X.env=(false,eval (.Name y py) X.env)::starEach [] X.env:=by rfl) (hpl:(backTo pos (starEach [.Name y py] X.env)).any (·.1)=false:=by rfl):
  RX cl X (.Call (.Name "isinstance" p) [a,.Name y py] [] pos) (x1 (isG T) ma):=
 PE.imp (pe_callB call_isi hg hm (by decide +kernel) (pa_cons ha (pa_cons (pe_bltn (v:=.ty T) hgT hmT hvT rfl hn hd) pa_nil he2) he) (by decide) (by decide) he hpl) fun σ H Q h=>by
  obtain⟨ρ,env,mem,r,hm,hE,h,q⟩:=t1_of h
  refine⟨ρ,env,mem,r,hm,hE,h,fun ρ1 v1 H1 x1 m1 p1=>?_⟩
  obtain⟨ρ2,p2,mem2,r2,n1,n2,n3,n4⟩:=q ρ1 v1 H1 x1 m1 p1
  unfold isG at n3
  obtain⟨n,e1,n3⟩:=zbm n3
  obtain⟨b,e2,rfl⟩:=zmm n3
  exact⟨v1,.ty T,.type n,.type T,b,rfl,.ty T,tyN_ok n1 n2 e1,kit_ty e2,n4 ρ2 _ H1 .refl n1 (by rw [Rep])⟩
end
def startE (N:Nat)(ps:List PV):Env:=ps.map some++List.replicate (N-ps.length) none
def fnF (N:Nat)(b:Sx):Fn:=fun ps m=>(b (startE N ps) m).bind fun r=>match r.1 with
 | .nx=>some (.non,r.2.2)
 | .rt v=>some (v,r.2.2)
 | _=>none
section
variable {P:Program}{w:World}{K:PySem.W.Frag}{mg:Str→Option Value}{base:Heap}{cl:Nat→Addr}
theorem start_rep {ρ:List Addr}{H:Hp}{ps:List PV}{vs:List V}(N:List Str)(h:RepL K ρ H ps vs):RelE K ρ H (L2.start N vs) (startE N.length ps):=by
 have hl:=h.length
 refine⟨by unfold L2.start startE;simp [hl],fun i p e=>?_⟩
 unfold startE at e
 have hi:i<ps.length:=by
  by_cases hi:i<ps.length
  ·exact hi
  ·rw [List.getElem?_append_right (by simpa using hi),List.getElem?_replicate] at e
   split at e<;>cases e
 rw [zgl (by simpa using hi),List.getElem?_map] at e
 cases z:ps[i]? with
 | none=>rw [z] at e;cases e
 | some q=>
  rw [z] at e
  cases e
  obtain⟨x,h1,h2⟩:=h.get z
  refine⟨x,?_,h2⟩
  unfold L2.start
  rw [zgl (by rw [zlm,hl];exact hi),List.getElem?_map,h1]
  rfl
theorem fn_ok {x qual:Str}{st:Stmt}{f:Addr}{fd:FuncData}{N ps:List Str}{k n:Nat}{sb:Sx}(F:L2.Fun K x qual st f fd)(S:FnScope N ps (defScope st))(hn:n=ps.length)
  (hb:∀(cdv:Value) (A:Around) (outer:List PySem.Env) (s:Shared) (H:Hp) (E:XK),Room k (A.deeper (PyProof.Rows.envOfC qual (defScope st) s.heap.objs.size f cdv))→
   RSs cl (cxOf CX0 P w K mg base N qual (defScope st) f cdv A outer s H E).nox (defBody st) sb):FnOk P w K mg base CX0 (k+1) f fd ps (SpF K cl n (fnF N.length sb)):=by
 refine F.ok S (fun vs H Q E h=>?_) fun cdv A outer s H vs Q E hr h=>⟨_,hb cdv A outer s H E hr,?_⟩
 ·obtain⟨ρ,qs,mem,r,h1,h2,h3,h4,h5⟩:=h
  rw [h3.length,h1,hn]
 ·obtain⟨ρ,qs,mem,r,h1,h2,h3,h4,h5⟩:=h
  unfold fnF at h4
  obtain⟨r1,e1,h4⟩:=zbm h4
  refine⟨ρ,_,mem,r1,h2,start_rep N h3,e1,fun ρ1 σ1 H1 x1 m1 E1=>?_⟩
  obtain⟨fl,env1,mem1⟩:=r1
  cases fl with
  | nx=>
   obtain rfl:=zsi h4
   exact h5 ρ1 _ H1 x1 m1 (by rw [Rep])
  | rt v=>
   obtain rfl:=zsi h4
   exact fun v' hv=>h5 ρ1 v' H1 x1 m1 hv
  | bk=>cases h4
  | ct=>cases h4
theorem cal_of {x:Str}{f:Addr}{fd:FuncData}{ps:List Str}{k:Nat}{sp:Sp}(h:FnOk P w K mg base CX0 k f fd ps sp)(hm:mg x=some (.ref f))(kp:W.keepIn K (.ref f)=true)(b:Binds K fd ps []):C8.Cal P w K mg base k x sp []:=
 ⟨f,fd,ps,[],h,hm,kp,b,.nil⟩
def SpLaw (K:PySem.W.Frag):Sp:=fun vs H Q _=>∃(a:Addr) (ns:List Int),vs=[.ref a]∧SqL K H a (ns.map V.int)∧Only H∧ns.length≤63∧∀H',Q (.bl true) H'
theorem law_sp {F:Fn}(hF:∀ns:List Int,ns.length≤63→∃m,F [.ref 0] [.rol (ns.map PV.int)]=some (.bl true,m)):∀vs H Q E,SpLaw K vs H Q E→SpF K cl 1 F vs H Q E:=fun vs H Q E ⟨a,ns,e,hS,hO,hl,q⟩=>by
 subst e
 obtain⟨m,hF⟩:=hF ns hl
 have hrol:(∃o,H a=some (.frz o (.lst (ns.map V.int))))∨∀H',SqL K H' a (ns.map V.int):=by
  rcases hS with(h|⟨o,h⟩)|h
  ·rcases hO a with z|⟨o,xs,z⟩
   ·rw [z] at h;cases h
   ·rw [z] at h;cases h
  ·exact .inl ⟨o,h⟩
  ·exact .inr fun H'=>.inr h
 refine⟨[a],[.ref 0],[.rol (ns.map PV.int)],_,rfl,⟨rfl,fun i j b o o' h1 h2 h3 h4 h5 h6=>?_,fun i b o h1 h2=>?_⟩,.one (by rw [rep_ref];exact⟨a,rfl,rfl⟩),hF,fun ρ' v H' x1 m1 p1=>?_⟩
 ·cases i with
  | zero=>cases h3;cases h5
  | succ i=>cases h3
 ·cases i with
  | zero=>
   cases h1;cases h2
   exact⟨_,hrol,RepL.ints ns⟩
  | succ i=>cases h2
 ·rw [rep_bl] at p1
  subst p1
  exact q H'
end
section
variable {X:Cx}{cl:Nat→Addr}
variable {a b c e o:Expr}{es:List Expr}{pos p apos pos' cpos:Pos}{ma mb mc me mo mi:Ex}{x f:Str}{mA:Ax}
theorem rv (i:Nat)(hN:X.N[i]?=some x:=by rfl)(hv:Vis X.env.scope x:=by first|exact Or.inl rfl|exact Or.inr (Or.inl rfl)|exact Or.inr (Or.inr rfl))(hd:(x == ("__debug__":Str))=false:=by decide)
  (hcd:(x == ("__classdict__":Str))=false:=by decide):RX cl X (.Name x pos) (Xv i):=rx_var hN hv hd hcd
theorem PI.or {tg e:Expr}{t t':TI}(h:PI X tg e t)(h':PI X tg e t'):PI X tg e (fun σ H R=>t σ H R∨t' σ H R):=⟨fun pins s σ H R I q=>q.elim (h.run pins s σ H R I) (h'.run pins s σ H R I)⟩
theorem PG.or {e:Expr}{t t':TG}(h:PG X e t)(h':PG X e t'):PG X e (fun v σ H Q=>t v σ H Q∨t' v σ H Q):=⟨fun pins s σ H v u Q I r q=>q.elim (h.run pins s σ H v u Q I r) (h'.run pins s σ H v u Q I r)⟩
def anyQ (p:PV)(m:Mem):Option Sq:=match p with
 | .tup ps=>some ⟨ps,[]⟩
 | .str z=>some ⟨signsP z,[]⟩
 | .ref _=>sqOf p m
 | _=>none
def iAny (a:Ex):Ix:=fun env m=>(a env m).bind fun r=>(anyQ r.1 r.2).map (·,r.2)
theorem ri_any {tg:Expr}(ha:RX cl X a ma):RI cl X tg a (iAny ma):=
 PI.imp (PI.or (ri_list ha) (PI.or (ri_tup ha) (ri_str ha))) fun σ H R ⟨ρ,env,mem,r,hm,hE,h,q⟩=>by
  unfold iAny at h
  obtain⟨r1,e1,h⟩:=zbm h
  obtain⟨s,e2,h⟩:=zmm h
  subst h
  obtain⟨p,m1⟩:=r1
  cases p with
  | ref i=>exact .inl ⟨ρ,env,mem,_,hm,hE,by unfold iSq;rw [e1];show Option.map _ (sqOf (.ref i) m1)=_;rw [show sqOf (.ref i) m1=some s from e2];rfl,q⟩
  | tup ps=>
   obtain rfl:=zsi e2
   exact .inr (.inl ⟨ρ,env,mem,_,hm,hE,by unfold iTp;rw [e1];rfl,q⟩)
  | str z=>
   obtain rfl:=zsi e2
   exact .inr (.inr ⟨ρ,env,mem,_,hm,hE,by unfold iSt;rw [e1];rfl,q⟩)
  | _=>cases e2
def gSq (n:Nat)(g:Gxs):Gx:=fun p env m=>match p with
 | .tup ps=>if ps.length=n then g ps env m else none
 | .ref r=>match m[r]? with
  | some (.lst ps)=>if ps.length=n then g ps env m else none
  | _=>none
 | _=>none
theorem rg_seq {k n:Nat}{gs:Gxs}(hc:X.calm=true)(h:RGs cl X es gs)(hn:(assignEach es X.env).length=n:=by rfl)(hst:(assignEach es X.env).findIdx? (·.1)=none:=by rfl):RG cl X (.Tuple es k pos) (gSq n gs):=
 PG.imp (PG.or (rg_tup hc h hn hst) (rg_unl hc h hn hst)) fun v σ H Q ⟨ρ,p,env,mem,r,hm,hE,hp,h,q⟩=>by
  cases p with
  | tup ps=>exact .inl ⟨ρ,_,env,mem,r,hm,hE,hp,h,q⟩
  | ref i=>exact .inr ⟨ρ,_,env,mem,r,hm,hE,hp,h,q⟩
  | _=>cases h
theorem pgn (i:Nat){X:Cx}(hN:X.N.Nodup)(hi:X.N[i]?=some x:=by rfl)(hx:Loc X.env.scope x:=by first|exact Or.inl rfl|exact Or.inr rfl)(hf:X.fn x=true∨X.env.scope.names.lookup x=some .local:=by first|exact .inl rfl|exact .inr rfl|assumption):PG X (.Name x pos) (gName i):=pg_name hN hi hx hf
end
set_option maxHeartbeats 1000000 in
theorem en_new {v:Value}{ob:Obj}{G:Heap→Prop}(B:Begins v ob G):Meets (Builtin.«enumerate.__new__» ⟨[.type "enumerate",v],[]⟩) (fun _ R s=>G s.heap∧R (.ok (.ret (.ref (s.heap.push ob).objs.size))) { s with heap:=(s.heap.push ob).push { cls:=.type "enumerate",data:=.fields #[.none,.bool false,.ref s.heap.objs.size,rawInt 0,.none,.none] } }):=by
 refine .of_wp fun P w A R s hs=>?_
 obtain⟨hp,gs,dr,tk,os⟩:=s
 obtain⟨z1,z2⟩:=hs
 have k1:=sub_enumerate
 have k2:∀ {A1:Around} {E1:Value→Shared→Prop} {Q1:Value→Shared→Prop},Q1 (.ref hp.objs.size) ⟨hp.push ob,gs,dr,tk,os⟩→wpAny (model P w) A1 (pyIter v) Q1 E1 ⟨hp,gs,dr,tk,os⟩:=fun q=>B.iter P w _ _ ⟨hp,gs,dr,tk,os⟩ _ z1 q
 wp_walk using k2
 refine wpAny_stack_any fun st=>wpAny_pure ?_
 split
 ·rename_i c _ _ _ _ _
  cases(c == Value.type "enumerate")<;>(wp_walk using k2;exact⟨_,rfl,z2⟩)
 ·wp_walk using k2
  exact⟨_,rfl,z2⟩
section
variable {P:Program}{w:World}{A:Around}{E:Value→Shared→Prop}{s:Shared}
theorem en_call {v:Value}{ob:Obj}{G:Heap→Prop}{Q:Value→Shared→Prop}(B:Begins v ob G)(hG:G s.heap)
  (k:∀h1,IsEnum h1 (s.heap.objs.size+1) s.heap.objs.size 0 .none→h1.get? s.heap.objs.size=some ob→(∀b o,s.heap.get? b=some o→h1.get? b=some o)→h1.objs.size=s.heap.objs.size+2→Q (.ref (s.heap.objs.size+1)) { s with heap:=h1 }):
  wpAny (model P w) A (call (.type "enumerate") [v]) Q E s:=by
 have sz:(s.heap.push ob).objs.size=s.heap.objs.size+1:=Heap.size_push ..
 refine callType_new F.called_enumerate (by decide) (F.typeCall_enumerate_1 v) (F.newCall_enumerate_1 v) (fun z=>F.args_object_init_2 z v) F.entry_enumerate_new (en_new B) ⟨hG,?_⟩
 generalize hn:({ cls:=.type "enumerate",data:=.fields #[.none,.bool false,.ref s.heap.objs.size,rawInt 0,.none,.none] }:Obj)=en
 have g1:((s.heap.push ob).push en).get? (s.heap.objs.size+1)=some en:=by
  rw [←sz]
  exact Heap.get?_push_size _ (by rw [←hn];rfl)
 show _∧_
 rw [sz]
 refine⟨⟨en,g1,by rw [←hn]⟩,k _ ?_ ?_ ?_ ?_⟩
 ·unfold IsEnum
  rw [g1,←hn]
 ·exact Heap.get?_push_of_some _ (Heap.get?_push_size _ B.free)
 ·exact fun b o z=>Heap.get?_push_of_some _ (Heap.get?_push_of_some _ z)
 ·rw [Heap.size_push,sz]
end
def enD {α:Type}:Nat→List α→List (Key×α)
 | _,[]=>[]
 | i,p::ps=>(.inl (i:Int),p)::enD (i+1) ps
end Rf
end
section
set_option autoImplicit false
namespace Rf
open L2
open PySem (Str)
section
variable {env:Env}{m:Mem}{a b:Ex}{mA:Ax}{ta tb:Tx}{sa sb:Sx}{i n C:Nat}{F:Fn}
theorem e_var:Xv i env m=match env[i]? with
 | some (some p)=>some (p,m)
 | _=>none:=rfl
theorem e_c {p:PV}:xC p env m=some (p,m):=rfl
theorem e_1 {g:PV→Mem→Option (PV×Mem)}:x1 g a env m=(a env m).bind fun r=>g r.1 r.2:=rfl
theorem e_2 {g:PV→PV→Mem→Option (PV×Mem)}:x2 g a b env m=(a env m).bind fun r=>(b env r.2).bind fun s=>g r.1 s.1 s.2:=rfl
theorem e_A {g:List PV→Mem→Option (PV×Mem)}:xA g mA env m=(mA env m).bind fun r=>g r.1 r.2:=rfl
theorem e_aNil:An env m=some ([],m):=rfl
theorem e_aCons:Ac a mA env m=(a env m).bind fun x=>(mA env x.2).bind fun xs=>some (x.1::xs.1,xs.2):=rfl
theorem e_call:Xc n F mA env m=(mA env m).bind fun r=>if r.1.length=n then F r.1 r.2 else none:=rfl
theorem e_bl:tBl a env m=(a env m).bind fun r=>match r.1 with
 | .bl b=>some (b,r.2)
 | _=>none:=rfl
theorem e_tru:tTru a env m=(a env m).bind fun r=>(truG r.1 r.2).map fun k=>(k,r.2):=rfl
theorem e_nt:tNt ta env m=(ta env m).map fun r=>(!r.1,r.2):=rfl
theorem e_an:tAn ta tb env m=(ta env m).bind fun r=>if r.1=true then tb env r.2 else some (false,r.2):=rfl
theorem e_or:tOr' ta tb env m=(ta env m).bind fun r=>if r.1=true then some (true,r.2) else tb env r.2:=rfl
theorem e_ys:tYs env m=some (true,m):=rfl
theorem e_xnt:xNt a env m=(a env m).bind fun r=>match r.1 with
 | .bl b=>some (.bl (!b),r.2)
 | _=>none:=rfl
theorem e_xan:xAn a b env m=(a env m).bind fun r=>match r.1 with
 | .bl k=>if k=true then b env r.2 else some (.bl false,r.2)
 | _=>none:=rfl
theorem e_xor:xOr a b env m=(a env m).bind fun r=>match r.1 with
 | .bl k=>if k=true then some (.bl true,r.2) else b env r.2
 | _=>none:=rfl
theorem e_xif:xIf ta a b env m=(ta env m).bind fun r=>if r.1=true then a env r.2 else b env r.2:=rfl
theorem e_oNone:oNone env m=some (none,m):=rfl
theorem e_oSome:oSome a env m=(a env m).bind fun r=>match r.1 with
 | .int i=>some (some i,r.2)
 | _=>none:=rfl
theorem e_sl {lo hi:Ox}:xSl a lo hi env m=(a env m).bind fun r=>(lo env r.2).bind fun s=>(hi env s.2).bind fun t=>slG r.1 s.1 t.1 t.2:=rfl
theorem e_nx:sNx env m=some (.nx,env,m):=rfl
theorem e_brk:sBk env m=some (.bk,env,m):=rfl
theorem e_cnt:sCt env m=some (.ct,env,m):=rfl
theorem e_sq:sSq sa sb env m=(sa env m).bind fun r=>match r.1 with
 | .nx=>sb r.2.1 r.2.2
 | _=>some r:=rfl
theorem e_ex:sEx a env m=(a env m).bind fun r=>some (.nx,env,r.2):=rfl
theorem e_rt:sRt a env m=(a env m).bind fun r=>some (.rt r.1,env,r.2):=rfl
theorem e_rn:sRn env m=some (.rt .non,env,m):=rfl
theorem e_if:sIf ta sa sb env m=(ta env m).bind fun r=>if r.1=true then sa env r.2 else sb env r.2:=rfl
theorem e_as {g:Gx}:sAs a g env m=(a env m).bind fun r=>(g r.1 env r.2).bind fun s=>some (.nx,s.1,s.2):=rfl
theorem e_nm {p:PV}:gNm i p env m=some (env.set i (some p),m):=rfl
theorem e_gix {o k:Ex}{p:PV}:gIx o k p env m=(o env m).bind fun r=>(k env r.2).bind fun s=>(setG r.1 s.1 p s.2).map fun m'=>(env,m'):=rfl
theorem e_gsNil:gsNil [] env m=some (env,m):=rfl
theorem e_gsCons {g:Gx}{r:Gxs}{p:PV}{qs:List PV}:Gsc g r (p::qs) env m=(g p env m).bind fun s=>r qs s.1 s.2:=rfl
theorem e_gseqT {g:Gxs}{ps:List PV}:gSq n g (.tup ps) env m=if ps.length=n then g ps env m else none:=rfl
theorem e_gseqR {g:Gxs}{k:Nat}:gSq n g (.ref k) env m=match m[k]? with
 | some (.lst ps)=>if ps.length=n then g ps env m else none
 | _=>none:=rfl
theorem e_fd {f:Str}{o v:Ex}:sFd C f o v env m=(v env m).bind fun r=>(o env r.2).bind fun s=>match s.1 with
 | .ref i=>match s.2[i]? with
  | some (.ins c fs)=>if c=C∧fs.length<1000 then some (.nx,env,s.2.set i (.ins c (putFP f r.1 fs))) else none
  | _=>none
 | _=>none:=rfl
theorem e_for {it:Ix}{g:Gx}:sFor it g sa env m=(it env m).bind fun r=>if okG r.1.guard r.2=true then forL g sa r.1.guard r.1.items env r.2 else none:=rfl
theorem e_any:iAny a env m=(a env m).bind fun r=>(anyQ r.1 r.2).map (·,r.2):=rfl
theorem e_rg:iRg mA env m=(mA env m).bind fun r=>(rngG r.1).map (·,r.2):=rfl
theorem e_en:iEn mA env m=(mA env m).bind fun r=>(enG r.1 r.2).map (·,r.2):=rfl
theorem e_zp:iZp mA env m=(mA env m).bind fun r=>(zipG r.1 r.2).map (·,r.2):=rfl
theorem e_lc {vs:List Nat}{it:Ix}:xLc vs it i ta a env m=(it env m).bind fun r=>if okG r.1.guard r.2=true∧(∀g∈r.1.guard,g.1<r.2.length) then
  (lcL i ta a r.1.guard r.2.length (wipeE env vs) r.1.items (r.2++[.lst []]) []).bind fun s=>some (.ref r.2.length,s.2) else none:=rfl
theorem e_m {chk:PV→Mem→Bool}{g:Mg}:xM chk g a mA env m=(a env m).bind fun r=>if chk r.1 r.2=true then(mA env r.2).bind fun s=>g r.1 s.1 s.2 else none:=rfl
theorem e_get {k v:Ex}:xGet a k v env m=(a env m).bind fun r=>if(dicB r.1 r.2).isSome=true then(k env r.2).bind fun s=>(v env s.2).bind fun t=>(dicB r.1 t.2).bind fun kvs=>(keyOf s.1).map fun kk=>((valP kvs kk).getD t.1,t.2) else none:=rfl
theorem e_meth {f:Str}:xMeth C f n F a mA env m=(a env m).bind fun r=>if insG C f r.1 r.2=true then(mA env r.2).bind fun s=>if s.1.length=n then F (r.1::s.1) s.2 else none else none:=rfl
theorem e_make:xMake C n F mA env m=(mA env m).bind fun r=>if r.1.length=n then(F (.ref r.2.length::r.1) (r.2++[.ins C []])).bind fun s=>match s.1 with
 | .non=>some (.ref r.2.length,s.2)
 | _=>none else none:=rfl
theorem e_fn {N:Nat}{ps:List PV}:fnF N sa ps m=(sa (startE N ps) m).bind fun r=>match r.1 with
 | .nx=>some (.non,r.2.2)
 | .rt v=>some (v,r.2.2)
 | _=>none:=rfl
theorem ix_int {k:Int}{ps:List PV}:seqAt ps (.int k) m=(atI ps k).map (·,m):=rfl
theorem ix_t {ps:List PV}{q:PV}:ixG (.tup ps) q m=seqAt ps q m:=rfl
theorem ix_r {k:Nat}{q:PV}:ixG (.ref k) q m=match m[k]? with
  | some (.lst ps)=>seqAt ps q m
  | some (.rol ps)=>seqAt ps q m
  | some (.dic kvs)=>(keyOf q).bind fun k=>(valP kvs k).map (·,m)
  | _=>none:=rfl
theorem set_r {k:Nat}{q v:PV}:setG (.ref k) q v m=match m[k]? with
  | some (.lst ps)=>match q with
   | .int i=>(ixN ps.length i).map fun j=>m.set k (.lst (ps.set j v))
   | _=>none
  | some (.dic kvs)=>if kvs.length<PySem.sizeLine then(keyOf q).map fun j=>m.set k (.dic (putP kvs j v)) else none
  | _=>none:=rfl
theorem ixN_at {n:Nat}{i:Int}(h:0≤i)(h2:i<n):ixN n i=some i.toNat:=by unfold ixN;rw [if_pos h,if_pos h2]
theorem atI_at {α:Type}{xs:List α}{i:Int}(h:0≤i):atI xs i=xs[i.toNat]?:=by
 unfold atI ixN
 rw [if_pos h]
 by_cases h2:i<xs.length
 ·rw [if_pos h2];rfl
 ·rw [if_neg h2,List.getElem?_eq_none (by omega)];rfl
end
section
variable {α:Type}{xs:List α}
theorem ixN_0 {n:Nat}:ixN (n+1) 0=some 0:=by rw [ixN_at (by decide) (by omega)];rfl
theorem ixN_1 {n:Nat}:ixN (n+2) 1=some 1:=by rw [ixN_at (by decide) (by omega)];rfl
theorem ixN_2 {n:Nat}:ixN (n+3) 2=some 2:=by rw [ixN_at (by decide) (by omega)];rfl
theorem ixN_3 {n:Nat}:ixN (n+4) 3=some 3:=by rw [ixN_at (by decide) (by omega)];rfl
end
theorem okG_1 {k:Nat}{o:Ob}{m:Mem}:okG [(k,o)] m=decide (m[k]?=some o):=by simp [okG]
end Rf
end
section
set_option autoImplicit false
namespace Rf
open PySem PySem.Spec L2
def SqX (k:Bool)(K:PySem.W.Frag)(H:Hp)(a:Addr)(xs:List V):Prop:=if k=true then SqT K H a xs else SqL K H a xs
def IterX (k:Bool)(h:Heap)(it a:Addr)(i:Nat):Prop:=if k=true then h.IsTupleIter it a i else h.IsListIter it a i
def SeqX (k:Bool)(h:Heap)(a:Addr)(its:Array Value):Prop:=if k=true then h.IsTuple a its else h.IsList a its
def itO (k:Bool)(a:Addr):Obj:=if k=true then { cls:=.type "tuple_iterator",data:=.fields #[.ref a,.int 0 0] } else { cls:=.type "list_iterator",data:=.fields #[.ref a,.int 0 0] }
theorem begins_x (k:Bool)(a:Addr)(its:Array Value):Begins (.ref a) (itO k a) fun h=>SeqX k h a its:=by
 cases k
 ·exact begins_list a its
 ·exact begins_tuple a its
theorem draws_x {P:Program}{w:World}{A:Around}(k:Bool)(hh:A.handled=none)(it a:Addr)(ne:a≠it)(its:Array Value):Draws P w A it [it,a] its.size (fun i v=>its[i]?=some v) (fun i h=>IterX k h it a i∧SeqX k h a its):=by
 cases k
 ·exact Draws.list hh it a ne its
 ·exact Draws.tuple hh it a ne its
theorem IterX.there {k:Bool}{h:Heap}{it a:Addr}{i:Nat}(x:IterX k h it a i):∃o,h.get? it=some o∧∀v,o.data≠.cell v:=by
 cases k
 ·obtain⟨o,z,_,d⟩:=x
  exact⟨o,z,fun v q=>by rw [d] at q;cases q⟩
 ·obtain⟨o,z,_,d⟩:=x
  exact⟨o,z,fun v q=>by rw [d] at q;cases q⟩
theorem IterX.keep {k:Bool}{h h':Heap}{it a:Addr}{i:Nat}(x:IterX k h it a i)(q:∀o,h.get? it=some o→h'.get? it=some o):IterX k h' it a i:=by
 cases k
 ·obtain⟨o,z,r⟩:=x
  exact⟨o,q o z,r⟩
 ·obtain⟨o,z,r⟩:=x
  exact⟨o,q o z,r⟩
theorem iterX_new {k:Bool}{h:Heap}{it a:Addr}(x:h.get? it=some (itO k a)):IterX k h it a 0:=by
 cases k
 ·exact⟨_,x,rfl,rfl⟩
 ·exact⟨_,x,rfl,rfl⟩
section
variable {X:Cx}{pins:List (Addr×Obj)}{σ:L2.St}{H:Hp}{s:Shared}
theorem sqX_at {k:Bool}{a:Addr}{xs:List V}(I:L2.Inv X pins σ H s)(h:SqX k X.K H a xs):∃its:List Value,Vals xs its∧SeqX k s.heap a its.toArray∧a<s.heap.objs.size:=by
 cases k
 ·obtain⟨its,rv,pl,_⟩:=I.list h
  exact⟨its,rv,pl.isList,pl.lt⟩
 ·obtain⟨its,rv,pl,_⟩:=I.tuple h
  obtain⟨o,z,_⟩:=id pl
  exact⟨its,rv,pl,Heap.lt_size z⟩
theorem sqX_inj {k:Bool}{a:Addr}{xs ys:List V}(I:L2.Inv X pins σ H s)(h:SqX k X.K H a xs)(h':SqX k X.K H a ys):xs=ys:=by
 cases k
 ·exact I.list_inj h h'
 ·exact I.tuple_inj h h'
end
def ItzX (K:PySem.W.Frag)(k l:Bool)(a b:Addr):It:=
 ⟨fun i H=>∃(xs ys:List V) (x y:V),SqX k K H a xs∧SqX l K H b ys∧xs[i]?=some x∧ys[i]?=some y,
  fun i H v H'=>∃T x y,v=.ref T∧H T=none∧(∃ob:Obj,ob.dict=none∧H'=upd H T (.frz ob (.tup [x,y])))∧(∀xs,SqX k K H a xs→xs[i]?=some x)∧(∀ys,SqX l K H b ys→ys[i]?=some y),
  fun i H=>∃xs ys:List V,SqX k K H a xs∧SqX l K H b ys∧i=min xs.length ys.length⟩
def zcells (z TI TO i1 i2:Addr):List Addr:=[z,TI,TO,i1,i2]
theorem zc_mem {c z TI TO i1 i2:Addr}(h:c∈zcells z TI TO i1 i2):c=z∨c=TI∨c=TO∨c=i1∨c=i2:=by simpa [zcells] using h
theorem zc_out {c z TI TO i1 i2:Addr}(h:¬c∈zcells z TI TO i1 i2):c≠z∧c≠TI∧c≠TO∧c≠i1∧c≠i2:=by simpa [zcells,not_or] using h
theorem turn_zx {P:Program}{w:World}{K:PySem.W.Frag}{es:List Expr}{n:Nat}{ps:Pos}{k l:Bool}{a b z TI TO i1 i2:Addr}(S:ZipSep2 z TI TO i1 i2 [i1,a] [i2,b])(na:a≠i1)(nb:b≠i2):
  Turn P w K (.Tuple es n ps) (ItzX K k l a b) (zcells z TI TO i1 i2) z (fun i h=>IsZip h z TI TO .none∧IsTupOf2 h TI (.ref i1) (.ref i2)∧(∃x y,IsTupOf2 h TO x y)∧IterX k h i1 a i∧IterX l h i2 b i) where
 mem:=by simp [zcells]
 obj:=fun i h st c hc=>by
  obtain⟨h1,h2,⟨x,y,h3⟩,h4,h5⟩:=st
  rcases zc_mem hc with q|q|q|q|q<;>rw [q]
  ·exact⟨_,h1,nofun⟩
  ·exact⟨_,h2,nofun⟩
  ·exact⟨_,h3,nofun⟩
  ·exact h4.there
  ·exact h5.there
 keep:=fun i h h' st q=>by
  obtain⟨h1,h2,⟨x,y,h3⟩,h4,h5⟩:=st
  have m:∀c,c=z∨c=TI∨c=TO∨c=i1∨c=i2→c∈zcells z TI TO i1 i2:=fun c hc=>by simpa [zcells] using hc
  exact⟨q z (m z (.inl rfl)) _ h1,q TI (m TI (.inr (.inl rfl))) _ h2,⟨x,y,q TO (m TO (.inr (.inr (.inl rfl)))) _ h3⟩,h4.keep (q i1 (m i1 (.inr (.inr (.inr (.inl rfl)))))),h5.keep (q i2 (m i2 (.inr (.inr (.inr (.inr rfl))))))⟩
 item:=by
  intro X e1 e2 e3 hc i pins s σ H E I fo st go
  subst e1 e2 e3
  obtain⟨h1,h2,⟨x,y,h3⟩,h4,h5⟩:=st
  obtain⟨xs,ys,p,q,sx,sy,gx,gy⟩:=go
  obtain⟨us,ru,au,_⟩:=sqX_at I sx
  obtain⟨vs,rv,av,_⟩:=sqX_at I sy
  obtain⟨u,hu,ru1⟩:=ru.get gx
  obtain⟨v,hv,rv1⟩:=rv.get gy
  have lu:i<us.toArray.size:=by rw [List.size_toArray];exact(zge hu).1
  have lv:i<vs.toArray.size:=by rw [List.size_toArray];exact(zge hv).1
  have hd:=I.ok.hd hc
  have zl:z<s.heap.objs.size:=Heap.lt_size h1
  refine wpAny_pyNext_zipD2_item S (draws_x (A:=X.A.in1) k hd i1 a na us.toArray) (draws_x (A:=X.A.in1) l hd i2 b nb vs.toArray) h1 h2 h3 ⟨h4,au⟩ ⟨h5,av⟩ lu lv fun u1 v1 m tk gu gv k1 k2 k3 k4 k5 k6 k7=>?_
  rw [List.getElem?_toArray,hu] at gu
  rw [List.getElem?_toArray,hv] at gv
  cases gu
  cases gv
  refine⟨_,rfl,wpAny_letOwnedTupleGo_zip (s:={ s with heap:=m,toks:=tk }) k1 fun m2 j1 sb=>?_⟩
  have keep:∀c ob,¬c∈zcells z TI TO i1 i2→s.heap.get? c=some ob→m2.get? c=some ob:=fun c ob hn hq=>by
   obtain⟨n1,n2,n3,n4,n5⟩:=zc_out hn
   exact(sb.2 c n1).trans (k7 c ob n1 n3 n4 n5 hq)
  have new2:m2.get? s.heap.objs.size=some { cls:=.type "tuple",data:=.seq #[u,v] }:=(sb.2 _ (Nat.ne_of_gt zl)).trans k5
  have ob:ObjOk X.prog X.w (upd H s.heap.objs.size (.frz { cls:=.type "tuple",data:=.seq #[u,v] } (.tup [p,q]))) m2 s.heap.objs.size (.frz { cls:=.type "tuple",data:=.seq #[u,v] } (.tup [p,q])):=⟨new2,(by decide:2≤sizeLine),[u,v],.cons ru1 (.cons rv1 .nil),⟨_,new2,rfl,_,rfl⟩⟩
  refine⟨.ref s.heap.objs.size,upd H s.heap.objs.size (.frz { cls:=.type "tuple",data:=.seq #[u,v] } (.tup [p,q])),I.turnedNew (t':=tk) keep fo (znr _) ob,rfl,?_,?_,fun c hcm=>?_⟩
  ·exact⟨_,p,q,rfl,I.hok.fresh (znr _),⟨_,rfl,rfl⟩,fun ws hw=>by rw [sqX_inj I hw sx];exact gx,fun ws hw=>by rw [sqX_inj I hw sy];exact gy⟩
  ·refine⟨j1,(sb.2 TI S.TIz).trans (k7 TI _ S.TIz S.TITO S.TIi1 S.TIi2 h2),⟨u,v,(sb.2 TO S.TOz).trans k2⟩,k3.1.keep fun o=>?_,k4.1.keep fun o=>?_⟩
   ·exact fun g=>(sb.2 i1 S.zi1.symm).trans g
   ·exact fun g=>(sb.2 i2 S.zi2.symm).trans g
  ·have lt:c<s.heap.objs.size:=by
    rcases zc_mem hcm with q|q|q|q|q<;>rw [q]
    ·exact zl
    ·exact Heap.lt_size h2
    ·exact Heap.lt_size h3
    ·obtain⟨o,g,_⟩:=h4.there;exact Heap.lt_size g
    ·obtain⟨o,g,_⟩:=h5.there;exact Heap.lt_size g
   rw [upd_ne (Nat.ne_of_lt lt)]
   exact(fo c hcm).1
 done:=by
  intro X e1 e2 e3 hc i pins s σ H E I fo st go
  subst e1 e2 e3
  obtain⟨h1,h2,⟨x,y,h3⟩,h4,h5⟩:=st
  obtain⟨xs,ys,sx,sy,hi⟩:=go
  obtain⟨us,ru,au,_⟩:=sqX_at I sx
  obtain⟨vs,rv,av,_⟩:=sqX_at I sy
  have l1:=ru.length
  have l2:=rv.length
  have hd:=I.ok.hd hc
  refine wpAny_pyNext_zipD2_end S (draws_x (A:=X.A.in1) k hd i1 a na us.toArray) (draws_x (A:=X.A.in1) l hd i2 b nb vs.toArray) h1 h2 h3 ⟨h4,au⟩ ⟨h5,av⟩ (by rw [List.size_toArray];omega) (by rw [List.size_toArray];omega) (by rw [List.size_toArray,List.size_toArray];omega) fun m tk k7=>?_
  refine⟨rfl,I.turnedL (t':=tk) (ch:=zcells z TI TO i1 i2) (fun c ob hn hq=>?_) fo⟩
  obtain⟨n1,n2,n3,n4,n5⟩:=zc_out hn
  exact k7 c ob n1 n3 n4 n5 hq
 self:=fun A i s Q E st h=>wpAny_pyIter_zip st.1 h
def iZx (K:PySem.W.Frag)(ta:TA):TI:=fun σ H R=>ta σ H fun vs H1=>∃k l a b xs ys,vs=[.ref a,.ref b]∧SqX k K H1 a xs∧SqX l K H1 b ys∧R (ItzX K k l a b) H1
theorem pi_zx {X:Cx}{e f:Expr}{ta:TA}{p pos tp:Pos}{es:List Expr}{n:Nat}(hg:Gl X "zip")(hm:X.mg "zip"=none)(ha:PA X [e,f] ta)(hs:starEach [e,f] X.env=(false,eval e X.env)::starEach [f] X.env:=by rfl)
  (hpl:(backTo pos (starEach [f] X.env)).any (·.1)=false:=by rfl):PI X (.Tuple es n tp) (.Call (.Name "zip" p) [e,f] [] pos) (iZx X.K ta):=by
 refine⟨fun pins s σ H R I h=>wpAny_Call_Name_kw (ld_blt I hg hm PyProof.Rows.boot_zip (PyProof.Rows.callWith_type1 (thn (ha.run pos pins s σ H _ I h) fun us s1 ⟨vs,H1,I1,r,q⟩=>?_) hs hpl))⟩
 obtain⟨k,l,a,b,xs,ys,rfl,sx,sy,q⟩:=q
 obtain⟨u,v,rfl,r1,r2⟩:=vals2 r
 obtain rfl:u=Value.ref a:=r1
 obtain rfl:v=Value.ref b:=r2
 obtain⟨us,ru,au,la⟩:=sqX_at I1 sx
 obtain⟨vs,rv,av,lb⟩:=sqX_at I1 sy
 refine zip_begins2 (begins_x k a us.toArray) (begins_x l b vs.toArray) au av fun m h1 h2 h3 g1 g2 sz kp=>wpAny_pyIter_zip h1 ?_
 generalize hN:s1.heap.objs.size=N at *
 have S:ZipSep2 (N+4) (N+2) (N+3) N (N+1) [N,a] [N+1,b]:=zip_sep2 (fp1:=[a]) (fp2:=[b]) (by simpa using la) (by simpa using lb)
 refine⟨N+4,zcells (N+4) (N+2) (N+3) N (N+1),_,_,H1,rfl,I1.kept (t':=s1.toks) kp,turn_zx (k:=k) (l:=l) (a:=a) (b:=b) S (Nat.ne_of_lt la) (Nat.ne_of_lt (Nat.lt_succ_of_lt lb)),⟨h1,h2,⟨_,_,h3⟩,iterX_new g1,iterX_new g2⟩,fun c hc=>?_,q⟩
 have lo:s1.heap.objs.size≤c:=by
  rw [hN]
  rcases zc_mem hc with q|q|q|q|q<;>rw [q]
  ·exact Nat.le_add_right _ _
  ·exact Nat.le_add_right _ _
  ·exact Nat.le_add_right _ _
  ·exact znr _
  ·exact Nat.le_add_right _ _
 exact I1.fpOk lo (I1.hok.fresh lo)
section
variable {X:Cx}{cl:Nat→Addr}
variable {a b c e o:Expr}{es:List Expr}{pos p apos pos' cpos:Pos}{ma mb mc me mo mi:Ex}{x f:Str}{mA:Ax}
def seqQ (p:PV)(m:Mem):Option Sq:=match p with
 | .tup ps=>some ⟨ps,[]⟩
 | .ref _=>sqOf p m
 | _=>none
theorem seqQ_ok {ρ:List Addr}{H:Hp}{m:Mem}{p:PV}{x:V}{s:Sq}(hm:RelM X.K cl ρ H m)(hp:Rep X.K ρ H p x)(h:seqQ p m=some s):∃k a,x=.ref a∧okG s.guard m=true∧(∃xs,SqX k X.K H a xs)∧
  ∀(ρ':List Addr) (H':Hp) (m':Mem),Ext X.K ρ H ρ' H'→RelM X.K cl ρ' H' m'→okG s.guard m'=true→∃xs,SqX k X.K H' a xs∧RepL X.K ρ' H' s.items xs:=by
 cases p with
 | tup ps=>
  cases h
  rw [rep_tup] at hp
  obtain⟨a,xs,rfl,h1,h2⟩:=hp
  replace h1:=h1.t
  exact⟨true,a,rfl,rfl,⟨xs,h1⟩,fun ρ' H' m' e1 _ _=>⟨xs,e1.tup _ _ h1,e1.repL _ _ h2⟩⟩
 | ref i=>
  obtain⟨a,rfl,k1,⟨xs,z1⟩,w1⟩:=sqOf_ok hm hp (show sqOf (.ref i) m=some s from h)
  exact⟨false,a,rfl,k1,⟨xs,z1⟩,w1⟩
 | _=>cases h
def zipX:List PV→Mem→Option Sq
 | [p,q],m=>(seqQ p m).bind fun s=>(seqQ q m).map fun t=>⟨(s.items.zip t.items).map fun z=>.tup [z.1,z.2],s.guard++t.guard⟩
 | _,_=>none
def iZx' (a:Ax):Ix:=fun env m=>(a env m).bind fun r=>(zipX r.1 r.2).map (·,r.2)
theorem ri_zipX {elts:List Expr}{kk:Nat}{tpos:Pos}(hg:Gl X "zip")(hm:X.mg "zip"=none)(ha:RA cl X [a,b] mA)(hs:starEach [a,b] X.env=(false,eval a X.env)::starEach [b] X.env:=by rfl)(hpl:(backTo pos (starEach [b] X.env)).any (·.1)=false:=by rfl):
  RI cl X (.Tuple elts kk tpos) (.Call (.Name "zip" p) [a,b] [] pos) (iZx' mA):=PI.imp (pi_zx hg hm ha hs hpl) fun σ H R ⟨ρ,env,mem,r,hm,hE,h,q⟩=>by
 unfold iZx' at h
 obtain⟨r1,e1,h⟩:=zbm h
 obtain⟨s,e2,h⟩:=zmm h
 subst h
 refine⟨ρ,env,mem,r1,hm,hE,e1,fun ρ1 vs H1 x1 m1 p1=>?_⟩
 unfold zipX at e2
 split at e2
 ·rename_i p q' hpq
  obtain⟨s1,e3,e2⟩:=zbm e2
  obtain⟨s2,e4,e2⟩:=zmm e2
  subst e2
  rw [hpq] at p1
  obtain⟨x,xs,rfl,i1,i2⟩:=p1.inv
  obtain⟨y,ys,rfl,i3,i4⟩:=i2.inv
  obtain rfl:=i4.inv0
  obtain⟨k,a,rfl,k1,⟨us,z1⟩,w1⟩:=seqQ_ok m1 i1 e3
  obtain⟨l,b,rfl,k2,⟨ws,z2⟩,w2⟩:=seqQ_ok m1 i3 e4
  refine⟨k,l,a,b,us,ws,rfl,z1,z2,q ρ1 H1 _ x1 m1 (okG_append.mpr ⟨k1,k2⟩) ⟨fun ρ' H' m i p x2 m2 k hi=>?_,fun ρ' H' m x2 m2 k=>?_⟩⟩
  ·obtain⟨ka,kb⟩:=okG_append.mp k
   obtain⟨as,a1,a2⟩:=w1 ρ' H' m x2 m2 ka
   obtain⟨bs,b1,b2⟩:=w2 ρ' H' m x2 m2 kb
   simp only [List.getElem?_map,Option.map_eq_some_iff] at hi
   obtain⟨⟨u,w⟩,c1,c2⟩:=hi
   rw [List.getElem?_zip_eq_some] at c1
   obtain⟨x,a3,a4⟩:=a2.get c1.1
   obtain⟨y,b3,b4⟩:=b2.get c1.2
   refine⟨⟨as,bs,x,y,a1,b1,a3,b3⟩,fun v H'' ⟨T,x',y',e1,e2,⟨ob,hob,e3⟩,e4,e5⟩=>?_⟩
   subst e1 e3 c2
   obtain rfl:=zsi ((e4 as a1).symm.trans a3)
   obtain rfl:=zsi ((e5 bs b1).symm.trans b3)
   exact new_tup hob m2 (.cons a4 (.cons b4 .nil)) e2
  ·obtain⟨ka,kb⟩:=okG_append.mp k
   obtain⟨as,a1,a2⟩:=w1 ρ' H' m x2 m2 ka
   obtain⟨bs,b1,b2⟩:=w2 ρ' H' m x2 m2 kb
   refine⟨as,bs,a1,b1,?_⟩
   simp only [zlm,List.length_zip]
   rw [a2.length,b2.length]
 ·cases e2
def splitG:Mg:=fun p xs m=>match p,xs with
 | .str a,[.str b]=>if(b.length == 0)=false∧a.length+2≤sizeLine then some (.ref m.length,m++[.lst ((Txt.split a b).map PV.str)]) else none
 | _,_=>none
theorem repL_strs {K:PySem.W.Frag}{ρ:List Addr}{H:Hp}:∀ys:List Str,RepL K ρ H (ys.map PV.str) (ys.map V.str)
 | []=>.nil
 | y::ys=>.cons (by rw [rep_str]) (repL_strs ys)
theorem mx_split:MtR X "str.split" (GM X.K cl splitG):=by
 intro pins s σ H x xs v us Q I rx rs ⟨ρ,p,ps,mem,r,hm,hp,hps,h,k⟩
 unfold splitG at h
 split at h
 ·rename_i a b
  split at h
  ·rename_i hc
   obtain rfl:=zsi h
   rw [rep_str] at hp
   subst hp
   obtain⟨w,ws,rfl,i1,i2⟩:=hps.inv
   obtain rfl:=i2.inv0
   rw [rep_str] at i1
   subst i1
   refine mt_split pins s σ H _ _ v us Q I rx rs ⟨a,b,rfl,rfl,hc.1,hc.2,fun p hp=>?_⟩
   obtain⟨y1,y2,y3⟩:=new_lst hm (repL_strs (Txt.split a b)) hp
   exact k _ _ _ y1 y2 y3
  ·cases h
 ·cases h
theorem rx_split (ho:RX cl X o mo)(ha:RX cl X e me)
  (hbase:attributeBase o "split" X.env (eval o X.env)=eval o X.env:=by rfl)
  (hfew:((backTo cpos (starEach [e] X.env)).all (fun x => !x.1)&&(backToKw cpos (keywordEach [] X.env)).all (fun x=>x.1.isSome)
   && decide (([e]:List Expr).length+([]:List Keyword).length+(if([]:List Keyword).isEmpty then 0 else 1)<30))=true:=by rfl)
  (hline:(apos.endLine == cpos.line)=true:=by rfl) (hs:starEach [e] X.env=(false,eval e X.env)::starEach [] X.env:=by rfl) (hplain:(backTo cpos (starEach [] X.env)).any (·.1)=false:=by rfl):
  RX cl X (.Call (.Attribute o "split" apos) [e] [] cpos) (xM chkS splitG mo (Ac me An)):=
 rx_m PySem.F.plainAttrs_str PySem.F.slot_str_split PySem.F.type_str_split mx_split (fun _ _ _ _ _=>chkS_ok) ho (Rc ha Rn hs) hbase hfew hline hs hplain
def strsP:List PV→Option (List Str)
 | []=>some []
 | .str y::ps=>(strsP ps).map (y :: ·)
 | _::_=>none
theorem strsP_eq:∀ {ps:List PV} {ys:List Str},strsP ps=some ys→ps=ys.map PV.str
 | [],ys,h=>by cases h;rfl
 | .str y::ps,ys,h=>by
  obtain⟨zs,h1,rfl⟩:=zmm h
  rw [strsP_eq h1]
  rfl
 | .int _::_,_,h=>by cases h
 | .non::_,_,h=>by cases h
 | .bl _::_,_,h=>by cases h
 | .tup _::_,_,h=>by cases h
 | .ref _::_,_,h=>by cases h
theorem repL_strs_inv {K:PySem.W.Frag}{ρ:List Addr}{H:Hp}:∀ {ys:List Str} {xs:List V},RepL K ρ H (ys.map PV.str) xs→xs=ys.map V.str
 | [],xs,h=>h.inv0
 | y::ys,xs,h=>by
  obtain⟨w,ws,rfl,i1,i2⟩:=RepL.inv h
  rw [rep_str] at i1
  rw [i1,repL_strs_inv i2]
  rfl
def joinG:Mg:=fun p xs m=>match p,xs with
 | .str a,[q]=>(itemsB q m).bind fun ps=>(strsP ps).bind fun ys=>if(ys.map (·.length)).sum+ys.length*a.length≤16777216 then some (.str (Txt.join a ys),m) else none
 | _,_=>none
theorem mx_join:MtR X "str.join" (GM X.K cl joinG):=by
 intro pins s σ H x xs v us Q I rx rs ⟨ρ,p,ps,mem,r,hm,hp,hps,h,k⟩
 unfold joinG at h
 split at h
 ·rename_i a q
  obtain⟨qs,h1,h⟩:=zbm h
  obtain⟨ys,h2,h⟩:=zbm h
  split at h
  ·rename_i hc
   obtain rfl:=zsi h
   obtain rfl:=strsP_eq h2
   rw [rep_str] at hp
   subst hp
   obtain⟨w,ws,rfl,i1,i2⟩:=hps.inv
   obtain rfl:=i2.inv0
   obtain⟨t,zs,rfl,z1,z2⟩:=seq_of hm i1 (itemsB_seq h1)
   obtain rfl:=repL_strs_inv z2
   exact mt_join pins s σ H _ _ v us Q I rx rs ⟨a,t,ys,rfl,rfl,z1,hc,k ρ _ _ .refl hm (by rw [rep_str])⟩
  ·cases h
 ·cases h
theorem rx_join (ho:RX cl X o mo)(ha:RX cl X e me)
  (hbase:attributeBase o "join" X.env (eval o X.env)=eval o X.env:=by rfl)
  (hfew:((backTo cpos (starEach [e] X.env)).all (fun x => !x.1)&&(backToKw cpos (keywordEach [] X.env)).all (fun x=>x.1.isSome)
   && decide (([e]:List Expr).length+([]:List Keyword).length+(if([]:List Keyword).isEmpty then 0 else 1)<30))=true:=by rfl)
  (hline:(apos.endLine == cpos.line)=true:=by rfl) (hs:starEach [e] X.env=(false,eval e X.env)::starEach [] X.env:=by rfl) (hplain:(backTo cpos (starEach [] X.env)).any (·.1)=false:=by rfl):
  RX cl X (.Call (.Attribute o "join" apos) [e] [] cpos) (xM chkS joinG mo (Ac me An)):=
 rx_m PySem.F.plainAttrs_str PySem.F.slot_str_join PySem.F.type_str_join mx_join (fun _ _ _ _ _=>chkS_ok) ho (Rc ha Rn hs) hbase hfew hline hs hplain
def startsG:Mg:=fun p xs m=>match p,xs with
 | .str a,[.str b]=>some (.bl (Txt.startswith a b),m)
 | _,_=>none
theorem mx_starts:MtR X "str.startswith" (GM X.K cl startsG):=by
 intro pins s σ H x xs v us Q I rx rs ⟨ρ,p,ps,mem,r,hm,hp,hps,h,k⟩
 unfold startsG at h
 split at h
 ·rename_i a b
  obtain rfl:=zsi h
  rw [rep_str] at hp
  subst hp
  obtain⟨w,ws,rfl,i1,i2⟩:=hps.inv
  obtain rfl:=i2.inv0
  rw [rep_str] at i1
  subst i1
  exact mt_startswith pins s σ H _ _ v us Q I rx rs ⟨a,b,rfl,rfl,k ρ _ _ .refl hm (by rw [rep_bl])⟩
 ·cases h
theorem rx_starts (ho:RX cl X o mo)(ha:RX cl X e me)
  (hbase:attributeBase o "startswith" X.env (eval o X.env)=eval o X.env:=by rfl)
  (hfew:((backTo cpos (starEach [e] X.env)).all (fun x => !x.1)&&(backToKw cpos (keywordEach [] X.env)).all (fun x=>x.1.isSome)
   && decide (([e]:List Expr).length+([]:List Keyword).length+(if([]:List Keyword).isEmpty then 0 else 1)<30))=true:=by rfl)
  (hline:(apos.endLine == cpos.line)=true:=by rfl) (hs:starEach [e] X.env=(false,eval e X.env)::starEach [] X.env:=by rfl) (hplain:(backTo cpos (starEach [] X.env)).any (·.1)=false:=by rfl):
  RX cl X (.Call (.Attribute o "startswith" apos) [e] [] cpos) (xM chkS startsG mo (Ac me An)):=
 rx_m PySem.F.plainAttrs_str PySem.F.slot_str_startswith PySem.F.type_str_startswith mx_starts (fun _ _ _ _ _=>chkS_ok) ho (Rc ha Rn hs) hbase hfew hline hs hplain
def isasciiG:Mg:=fun p xs m=>match p,xs with
 | .str a,[]=>some (.bl (Txt.isascii a),m)
 | _,_=>none
def isdigitG:Mg:=fun p xs m=>match p,xs with
 | .str a,[]=>some (.bl (Txt.isdigit a),m)
 | _,_=>none
theorem mx_isascii:MtR X "str.isascii" (GM X.K cl isasciiG):=by
 intro pins s σ H x xs v us Q I rx rs ⟨ρ,p,ps,mem,r,hm,hp,hps,h,k⟩
 unfold isasciiG at h
 split at h
 ·obtain rfl:=zsi h
  rw [rep_str] at hp
  subst hp
  obtain rfl:=hps.inv0
  exact mt_isascii pins s σ H _ _ v us Q I rx rs ⟨_,rfl,rfl,trivial,k ρ _ _ .refl hm (by rw [rep_bl])⟩
 ·cases h
theorem mx_isdigit:MtR X "str.isdigit" (GM X.K cl isdigitG):=by
 intro pins s σ H x xs v us Q I rx rs ⟨ρ,p,ps,mem,r,hm,hp,hps,h,k⟩
 unfold isdigitG at h
 split at h
 ·obtain rfl:=zsi h
  rw [rep_str] at hp
  subst hp
  obtain rfl:=hps.inv0
  exact mt_isdigit pins s σ H _ _ v us Q I rx rs ⟨_,rfl,rfl,trivial,k ρ _ _ .refl hm (by rw [rep_bl])⟩
 ·cases h
theorem rx_isascii (ho:RX cl X o mo)(hbase:attributeBase o "isascii" X.env (eval o X.env)=eval o X.env:=by rfl)(hline:(apos.endLine == cpos.line)=true:=by rfl):
  RX cl X (.Call (.Attribute o "isascii" apos) [] [] cpos) (xM chkS isasciiG mo An):=
 rx_m0 PySem.F.plainAttrs_str PySem.F.slot_str_isascii PySem.F.type_str_isascii mx_isascii (fun _ _ _ _ _=>chkS_ok) ho hbase hline
theorem rx_isdigit (ho:RX cl X o mo)(hbase:attributeBase o "isdigit" X.env (eval o X.env)=eval o X.env:=by rfl)(hline:(apos.endLine == cpos.line)=true:=by rfl):
  RX cl X (.Call (.Attribute o "isdigit" apos) [] [] cpos) (xM chkS isdigitG mo An):=
 rx_m0 PySem.F.plainAttrs_str PySem.F.slot_str_isdigit PySem.F.type_str_isdigit mx_isdigit (fun _ _ _ _ _=>chkS_ok) ho hbase hline
end
section
variable {X:Cx}{cl:Nat→Addr}
variable {a b c e o:Expr}{es:List Expr}{pos p apos pos' cpos:Pos}{ma mb mc me mo mi:Ex}{x f:Str}{mA:Ax}
def xJs:List Ex→Str→Ex
 | [],acc=>fun _ m=>some (.str acc,m)
 | g::gs,acc=>fun env m=>(g env m).bind fun r=>match r.1 with
  | .str y=>if(acc++y).length≤sizeLine then xJs gs (acc++y) env r.2 else none
  | _=>none
inductive RJ (cl:Nat→Addr) (X:Cx):List Expr→List Ex→Prop where
 | nil:RJ cl X [] []
 | cons {e:Expr} {m:Ex} {es:List Expr} {ms:List Ex} (h:RX cl X e m) (r:RJ cl X es ms):RJ cl X (e::es) (m::ms)
abbrev Tab:=List (Str×List Str)
def KVal (K:PySem.W.Frag)(d:Addr)(z:Str)(ws:List Str):Prop:=∃t,W.nsIn K d z=some (some (.ref t))∧∀H,SqP K H t (ws.map V.str)
structure KTab (K:PySem.W.Frag) (w:World) (mg:Str→Option Value) (x:Str) (T:Tab):Prop where
 ex:∃d es n,mg x=some (.ref d)∧KDict K w d es n∧∀q∈T,KVal K d q.1 q.2
theorem tab_mem:∀ {T:Tab} {z:Str} {ws:List Str},T.lookup z=some ws→(z,ws)∈T
 | [],_,_,h=>by cases h
 | (y,vs)::T,z,ws,h=>by
  rw [List.lookup_cons] at h
  cases e:z == y with
  | true=>
   rw [e] at h
   cases h
   rw [eq_of_beq e]
   exact zms
  | false=>
   rw [e] at h
   exact zmt _ (tab_mem h)
def kdG (T:Tab)(p:PV)(m:Mem):Option (PV×Mem):=match p with
 | .str z=>(T.lookup z).map fun ws=>(.tup (ws.map PV.str),m)
 | _=>none
theorem rx_kd {T:Tab}(h:KTab X.K X.w X.mg x T)(hg:Gl X x)(hb:RX cl X b mb)(hs:PlainIx b)(hd:(x == ("__debug__":Str))=false:=by decide):RX cl X (.Subscript (.Name x p) b pos) (x1 (kdG T) mb):=by
 obtain⟨d,es,n,h1,D,h2⟩:=h
 refine PE.imp (pe_ix ix_kdict (pe_glob (v:=.ref d) hg h1 rfl hd) hb hs) fun σ H Q ⟨ρ,env,mem,r,hm,hE,e,q⟩=>?_
 unfold x1 at e
 obtain⟨⟨y,mm⟩,e1,e2⟩:=zbm e
 refine⟨ρ,env,mem,_,hm,hE,e1,fun ρ1 v H1 y1 m1 p1=>?_⟩
 cases y with
 | str z=>
  obtain⟨ws,f1,rfl⟩:=zmm (show(T.lookup z).map (fun ws=>(PV.tup (ws.map PV.str),mm))=some r from e2)
  replace p1:Rep X.K ρ1 H1 (.str z) v:=p1
  rw [rep_str] at p1
  obtain⟨t,g1,g2⟩:=h2 _ (tab_mem f1)
  exact⟨d,z,.ref t,rfl,p1,⟨es,n,_,D.at_,D.lit,g1,rfl⟩,q _ _ _ y1 m1 (by rw [rep_tup];exact⟨t,_,rfl,g2 _,repL_strs ws⟩)⟩
 | _=>cases e2
theorem kval_mk {K:PySem.W.Frag}{d t:Addr}{z:Str}{ws:List Str}{its:Array Value}{n:Nat}{sl:Array (Option Value)}(h1:W.nsIn K d z=some (some (.ref t)))(h2:K.lookup t=some ⟨.type "tuple",none,.seq its n,sl⟩)(h3:Vals (ws.map V.str) its.toList)(h4:its.size≤sizeLine):KVal K d z ws:=
 ⟨t,h1,fun H=>.inr ⟨_,its,n,h2,rfl,rfl,rfl,h4,h3⟩⟩
end
end Rf
namespace Rf
open PySem PySem.Spec L2
end Rf
namespace Rf
open PySem PySem.Spec L2
def incG:PV→PV→Mem→Option (PV×Mem)
 | .int i,.int j,m=>some (.int (i+j),m)
 | _,_,_=>none
theorem ip_inc {X:Cx}{cl:Nat→Addr}:PIp X .Add (G2 X.K cl incG):=by
 intro pins s σ H x y v u Q I rx ry ⟨ρ,p,q,mem,r,hm,hp,hq,h,k⟩
 unfold incG at h
 split at h
 ·obtain rfl:=zsi h
  rw [rep_int] at hp hq
  subst hp hq
  exact ip_add pins s σ H _ _ v u Q I rx ry ⟨_,_,rfl,rfl,k _ _ _ .refl hm (by rw [rep_int])⟩
 ·cases h
end Rf
end
section
set_option autoImplicit false
namespace V2
open PySem Rf L2
inductive DV where
 | non|bl (b:Bool)|int (i:Int)|str (s:Str)|tup (xs:List DV)|lst (xs:List DV)|dic (kvs:List (Key×Int))|dct (ks:List Key) (vs:List DV)|tok
structure Cs where
 ns:List Int
 a:Int
 n:Int
 t:Int
 ha:0≤a
 hn:0≤n
 ht:0≤t
inductive Sl where
 | v (d:DV)|o (ds:List DV)
abbrev Env2:=List (Option Sl)
abbrev E2:=Env2→Cs→Option (DV×Cs)
abbrev T2:=Env2→Cs→Option (Bool×Cs)
abbrev A2:=Env2→Cs→Option (List DV×Cs)
inductive Fl2 where
 | nx|rt (d:DV)|bk|ct
abbrev S2:=Env2→Cs→Option (Fl2×Env2×Cs)
abbrev F2:=List DV→Cs→Option (DV×Cs)
structure Tk where
 c:Nat
 j:Nat
section
variable (T:Tk)(A:Nat→Prop)(m:Mem)
mutual
def D2:DV→PV→Prop
 | .non,p=>p=.non
 | .bl b,p=>p=.bl b
 | .int i,p=>p=.int i
 | .str s,p=>p=.str s
 | .tup ds,p=>∃ps,p=.tup ps∧D2L ds ps
 | .lst ds,p=>∃k ps,p=.ref k∧A k∧m[k]?=some (.lst ps)∧D2L ds ps
 | .dic kvs,p=>∃k,p=.ref k∧A k∧m[k]?=some (.dic (kvs.map fun q=>(q.1,.int q.2)))
 | .dct ks vs,p=>∃k ps,p=.ref k∧A k∧m[k]?=some (.dic (ks.zip ps))∧D2L vs ps
 | .tok,p=>p=.ref T.c
def D2L:List DV→List PV→Prop
 | [],ps=>ps=[]
 | d::ds,ps=>∃p r,ps=p::r∧D2 d p∧D2L ds r
end
def Dt:DV→PV→Prop
 | .lst ds,p=>∃k ps,p=.ref k∧k≠T.c∧k<m.length∧m[k]?=some (.lst ps)∧D2L T A m ds ps
 | d,p=>D2 T A m d p
structure WF (c:Cs):Prop where
 at_:m[T.c]?=some (.lst [.ref T.j,.int c.a,.int c.n,.int c.t,.int 20])
 cells:m[T.j]?=some (.lst (c.ns.map PV.int))
 nA:¬A T.c
 jA:A T.j
 lt:∀k,A k→k<m.length
def Fs (B:Nat)(d:DV)(p:PV):Prop:=∃ds k ps,d=.lst ds∧p=.ref k∧B≤k∧¬A k∧k≠T.c∧m[k]?=some (.lst ps)∧D2L T A m ds ps
def SlR (B:Nat):Sl→PV→Prop
 | .v d,p=>D2 T A m d p
 | .o ds,p=>∃k ps,p=.ref k∧B≤k∧¬A k∧k≠T.c∧m[k]?=some (.lst ps)∧D2L T A m ds ps
structure EnvR (B:Nat) (e2:Env2) (e:Rf.Env):Prop where
 len:e.length=e2.length
 ok:∀(i:Nat) (s:Sl),e2[i]?=some (some s)→∃p:PV,e[i]?=some (some p)∧SlR T A m B s p
 inj:∀(i j:Nat) (ds es:List DV) (k:Nat),e2[i]?=some (some (.o ds))→e2[j]?=some (some (.o es))→e[i]?=some (some (.ref k))→e[j]?=some (some (.ref k))→i=j
end
structure Xt (T:Tk) (A:Nat→Prop) (m:Mem) (A':Nat→Prop) (m':Mem):Prop where
 le:m.length≤m'.length
 old:∀k,k<m.length→k≠T.c→m'[k]?=m[k]?
 up:∀k,A k→A' k
 dn:∀k,k<m.length→A' k→A k
structure Xs (T:Tk) (B:Nat) (A:Nat→Prop) (m:Mem) (A':Nat→Prop) (m':Mem):Prop where
 le:m.length≤m'.length
 old:∀k,k<B→k≠T.c→m'[k]?=m[k]?
 fix:∀k,A k→m'[k]?=m[k]?
 up:∀k,A k→A' k
 dn:∀k,k<B→A' k→A k
section
variable {T:Tk}{A A' A'':Nat→Prop}{m m' m'':Mem}
theorem lt_of {k:Nat}{o:Ob}(h:m[k]?=some o):k<m.length:=(zge h).1
theorem Xt.refl:Xt T A m A m:=⟨znr _,fun _ _ _=>rfl,fun _ h=>h,fun _ _ h=>h⟩
theorem Xt.trans (a:Xt T A m A' m')(b:Xt T A' m' A'' m''):Xt T A m A'' m'':=
 ⟨znt a.le b.le,fun k h n=>(b.old k (Nat.lt_of_lt_of_le h a.le) n).trans (a.old k h n),fun k h=>b.up k (a.up k h),fun k h q=>a.dn k h (b.dn k (Nat.lt_of_lt_of_le h a.le) q)⟩
theorem Xt.fix {c:Cs}(x:Xt T A m A' m')(w:WF T A m c)(k:Nat)(h:A k):m'[k]?=m[k]?:=x.old k (w.lt k h) fun e=>w.nA (e▸h)
section
variable (h1:∀k,A k→A' k)(h2:∀k,A k→m'[k]?=m[k]?)
include h1 h2
mutual
theorem D2.mono:∀(d:DV) (p:PV),D2 T A m d p→D2 T A' m' d p
 | .non,_,h=>h
 | .bl _,_,h=>h
 | .int _,_,h=>h
 | .str _,_,h=>h
 | .tup ds,p,h=>by
  rw [D2] at h ⊢
  obtain⟨ps,e,h⟩:=h
  exact⟨ps,e,D2L.mono ds ps h⟩
 | .lst ds,p,h=>by
  rw [D2] at h ⊢
  obtain⟨k,ps,e,a,g,h⟩:=h
  exact⟨k,ps,e,h1 k a,(h2 k a).trans g,D2L.mono ds ps h⟩
 | .dic kvs,p,h=>by
  rw [D2] at h ⊢
  obtain⟨k,e,a,g⟩:=h
  exact⟨k,e,h1 k a,(h2 k a).trans g⟩
 | .dct ks vs,p,h=>by
  rw [D2] at h ⊢
  obtain⟨k,ps,e,a,g,h⟩:=h
  exact⟨k,ps,e,h1 k a,(h2 k a).trans g,D2L.mono vs ps h⟩
 | .tok,_,h=>h
theorem D2L.mono:∀(ds:List DV) (ps:List PV),D2L T A m ds ps→D2L T A' m' ds ps
 | [],_,h=>h
 | d::ds,ps,h=>by
  rw [D2L] at h ⊢
  obtain⟨p,r,e,a,b⟩:=h
  exact⟨p,r,e,D2.mono d p a,D2L.mono ds r b⟩
end
end
theorem D2.x {c:Cs}{d:DV}{p:PV}(h:D2 T A m d p)(w:WF T A m c)(x:Xt T A m A' m'):D2 T A' m' d p:=D2.mono x.up (x.fix w) d p h
theorem D2L.x {c:Cs}{d:List DV}{p:List PV}(h:D2L T A m d p)(w:WF T A m c)(x:Xt T A m A' m'):D2L T A' m' d p:=D2L.mono x.up (x.fix w) d p h
theorem D2L.xs {B:Nat}{d:List DV}{p:List PV}(h:D2L T A m d p)(x:Xs T B A m A' m'):D2L T A' m' d p:=D2L.mono x.up x.fix d p h
theorem Xs.refl {B:Nat}:Xs T B A m A m:=⟨znr _,fun _ _ _=>rfl,fun _ _=>rfl,fun _ h=>h,fun _ _ h=>h⟩
theorem Xs.trans {B:Nat}(a:Xs T B A m A' m')(b:Xs T B A' m' A'' m''):Xs T B A m A'' m'':=
 ⟨znt a.le b.le,fun k h n=>(b.old k h n).trans (a.old k h n),fun k h=>(b.fix k (a.up k h)).trans (a.fix k h),fun k h=>b.up k (a.up k h),fun k h q=>a.dn k h (b.dn k h q)⟩
theorem Xt.s {c:Cs}{B:Nat}(x:Xt T A m A' m')(w:WF T A m c)(hB:B≤m.length):Xs T B A m A' m':=⟨x.le,fun k h n=>x.old k (Nat.lt_of_lt_of_le h hB) n,x.fix w,x.up,fun k h q=>x.dn k (Nat.lt_of_lt_of_le h hB) q⟩
theorem Xs.t (x:Xs T m.length A m A' m'):Xt T A m A' m':=⟨x.le,x.old,x.up,x.dn⟩
theorem Dt.x {c:Cs}{d:DV}{p:PV}(h:Dt T A m d p)(w:WF T A m c)(x:Xt T A m A' m'):Dt T A' m' d p:=by
 cases d with
 | lst ds=>
  obtain⟨k,ps,e,n,l,g,h⟩:=h
  exact⟨k,ps,e,n,Nat.lt_of_lt_of_le l x.le,(x.old k l n).trans g,h.x w x⟩
 | _=>exact D2.x h w x
theorem D2.t {c:Cs}{d:DV}{p:PV}(h:D2 T A m d p)(w:WF T A m c):Dt T A m d p:=by
 cases d with
 | lst ds=>
  rw [D2] at h
  obtain⟨k,ps,e,a,g,h⟩:=h
  exact⟨k,ps,e,fun z=>w.nA (z▸a),w.lt k a,g,h⟩
 | _=>exact h
theorem Fs.t {B:Nat}{d:DV}{p:PV}(h:Fs T A m B d p):Dt T A m d p:=by
 obtain⟨ds,k,ps,rfl,e,_,_,n,g,h⟩:=h
 exact⟨k,ps,e,n,lt_of g,g,h⟩
theorem Fs.fix {c:Cs}{d:DV}{p:PV}{A0:Nat→Prop}{m0:Mem}(x:Xt T A0 m0 A m)(w:WF T A m c)(h:Fs T A m m0.length d p):∃A',Xt T A0 m0 A' m∧WF T A' m c∧D2 T A' m d p:=by
 obtain⟨ds,k,ps,rfl,e,hk,a,n,g,h⟩:=h
 refine⟨fun i=>A i∨i=k,⟨x.le,x.old,fun i q=>.inl (x.up i q),fun i l q=>q.elim (x.dn i l) fun z=>absurd l (by omega)⟩,⟨w.at_,w.cells,fun q=>q.elim w.nA fun z=>n z.symm,.inl w.jA,fun i q=>q.elim (w.lt i) fun z=>z▸lt_of g⟩,?_⟩
 rw [D2]
 exact⟨k,ps,e,.inr rfl,g,D2L.mono (fun _=>.inl) (fun _ _=>rfl) ds ps h⟩
theorem SlR.x {c:Cs}{B:Nat}{s:Sl}{p:PV}(h:SlR T A m B s p)(w:WF T A m c)(x:Xt T A m A' m'):SlR T A' m' B s p:=by
 cases s with
 | v d=>exact D2.x h w x
 | o ds=>
  obtain⟨k,ps,e,hk,a,n,g,h⟩:=h
  exact⟨k,ps,e,hk,fun q=>a (x.dn k (lt_of g) q),n,(x.old k (lt_of g) n).trans g,h.x w x⟩
theorem EnvR.x {c:Cs}{B:Nat}{e2:Env2}{e:Rf.Env}(h:EnvR T A m B e2 e)(w:WF T A m c)(x:Xt T A m A' m'):EnvR T A' m' B e2 e:=
 ⟨h.len,fun i s q=>let ⟨p,a,b⟩:=h.ok i s q;⟨p,a,b.x w x⟩,h.inj⟩
theorem WF.app {c:Cs}(w:WF T A m c)(o:Ob):WF T A (m++[o]) c:=
 ⟨by rw [zgl (lt_of w.at_)];exact w.at_,by rw [zgl (lt_of w.cells)];exact w.cells,w.nA,w.jA,fun k h=>by have:=w.lt k h;simp;omega⟩
theorem Xt.app {o:Ob}(h:∀k,A k→k<m.length):Xt T A m A (m++[o]):=⟨by simp,fun k l _=>zgl l,fun _ q=>q,fun _ _ q=>q⟩
theorem D2L.length:∀ {ds:List DV} {ps:List PV},D2L T A m ds ps→ps.length=ds.length
 | [],ps,h=>by rw [D2L] at h;rw [h];rfl
 | d::ds,ps,h=>by
  rw [D2L] at h
  obtain⟨p,r,rfl,_,h⟩:=h
  rw [zlc,zlc,D2L.length h]
theorem D2L.inv {d:DV}{ds:List DV}{ps:List PV}(h:D2L T A m (d::ds) ps):∃p r,ps=p::r∧D2 T A m d p∧D2L T A m ds r:=by rwa [D2L] at h
theorem D2L.inv0 {ps:List PV}(h:D2L T A m [] ps):ps=[]:=by rwa [D2L] at h
theorem D2L.nil:D2L T A m [] []:=by rw [D2L]
theorem D2L.cons {d:DV}{ds:List DV}{p:PV}{ps:List PV}(h:D2 T A m d p)(h':D2L T A m ds ps):D2L T A m (d::ds) (p::ps):=by
 rw [D2L]
 exact⟨p,ps,rfl,h,h'⟩
theorem D2L.one {d:DV}{p:PV}(h:D2 T A m d p):D2L T A m [d] [p]:=.cons h .nil
theorem D2L.append:∀ {ds es:List DV} {ps qs:List PV},D2L T A m ds ps→D2L T A m es qs→D2L T A m (ds++es) (ps++qs)
 | [],es,ps,qs,h,h'=>by rw [h.inv0];exact h'
 | d::ds,es,ps,qs,h,h'=>by
  obtain⟨p,r,rfl,a,b⟩:=h.inv
  exact .cons a (D2L.append b h')
theorem D2L.get:∀ {ds:List DV} {ps:List PV} {i:Nat} {d:DV},D2L T A m ds ps→ds[i]?=some d→∃p,ps[i]?=some p∧D2 T A m d p
 | [],_,i,d,_,e=>by simp at e
 | q::ds,ps,i,d,h,e=>by
  obtain⟨x,r,rfl,h2,h3⟩:=h.inv
  cases i with
  | zero=>
   simp only [List.getElem?_cons_zero,Option.some.injEq] at e
   subst e
   exact⟨x,rfl,h2⟩
  | succ i=>
   simp only [List.getElem?_cons_succ] at e
   obtain⟨y,h4,h5⟩:=D2L.get h3 e
   exact⟨y,by simpa using h4,h5⟩
theorem D2L.set:∀ {ds:List DV} {ps:List PV} {d:DV} {p:PV} (i:Nat),D2L T A m ds ps→D2 T A m d p→D2L T A m (ds.set i d) (ps.set i p)
 | [],ps,_,_,i,h,h'=>by rw [h.inv0];exact .nil
 | q::ds,ps,_,_,i,h,h'=>by
  obtain⟨x,r,rfl,h2,h3⟩:=h.inv
  cases i with
  | zero=>exact .cons h' h3
  | succ i=>exact .cons h2 (D2L.set i h3 h')
theorem D2L.take:∀ {ds:List DV} {ps:List PV} (n:Nat),D2L T A m ds ps→D2L T A m (ds.take n) (ps.take n)
 | [],ps,n,h=>by rw [h.inv0];simp;exact .nil
 | q::ds,ps,n,h=>by
  obtain⟨x,r,rfl,h2,h3⟩:=h.inv
  cases n with
  | zero=>exact .nil
  | succ n=>exact .cons h2 (D2L.take n h3)
theorem D2L.drop:∀ {ds:List DV} {ps:List PV} (n:Nat),D2L T A m ds ps→D2L T A m (ds.drop n) (ps.drop n)
 | [],ps,n,h=>by rw [h.inv0];simp;exact .nil
 | q::ds,ps,n,h=>by
  obtain⟨x,r,rfl,h2,h3⟩:=h.inv
  cases n with
  | zero=>exact .cons h2 h3
  | succ n=>exact D2L.drop n h3
@[simp] theorem d2_non {p:PV}:D2 T A m .non p↔p=.non:=by rw [D2]
@[simp] theorem d2_bl {b:Bool} {p:PV}:D2 T A m (.bl b) p↔p=.bl b:=by rw [D2]
@[simp] theorem d2_int {b:Int} {p:PV}:D2 T A m (.int b) p↔p=.int b:=by rw [D2]
@[simp] theorem d2_str {b:Str} {p:PV}:D2 T A m (.str b) p↔p=.str b:=by rw [D2]
theorem d2_tup {ds:List DV}{p:PV}:D2 T A m (.tup ds) p↔∃ps,p=.tup ps∧D2L T A m ds ps:=by rw [D2]
theorem d2_tok {p:PV}:D2 T A m .tok p↔p=.ref T.c:=by rw [D2]
end
section
variable (T:Tk)
def SX (e2:E2)(e:Ex):Prop:=∀A m c B v2 v,WF T A m c→EnvR T A m B v2 v→∀r c',e2 v2 c=some (r,c')→∃p m' A',e v m=some (p,m')∧Xt T A m A' m'∧WF T A' m' c'∧D2 T A' m' r p
def SXf (e2:E2)(e:Ex):Prop:=∀A m c B v2 v,WF T A m c→EnvR T A m B v2 v→∀r c',e2 v2 c=some (r,c')→∃p m' A',e v m=some (p,m')∧Xt T A m A' m'∧WF T A' m' c'∧Fs T A' m' m.length r p
def SXp (e2:E2)(e:Ex):Prop:=∀A m c B v2 v,WF T A m c→EnvR T A m B v2 v→∀r c',e2 v2 c=some (r,c')→∃p m' A',e v m=some (p,m')∧Xt T A m A' m'∧WF T A' m' c'∧Dt T A' m' r p
def ST (e2:T2)(e:Tx):Prop:=∀A m c B v2 v,WF T A m c→EnvR T A m B v2 v→∀r c',e2 v2 c=some (r,c')→∃m' A',e v m=some (r,m')∧Xt T A m A' m'∧WF T A' m' c'
def SA (e2:A2)(e:Ax):Prop:=∀A m c B v2 v,WF T A m c→EnvR T A m B v2 v→∀r c',e2 v2 c=some (r,c')→∃ps m' A',e v m=some (ps,m')∧Xt T A m A' m'∧WF T A' m' c'∧D2L T A' m' r ps
def SF (f2:F2)(f:Fn):Prop:=∀A m c ds ps,WF T A m c→D2L T A m ds ps→∀r c',f2 ds c=some (r,c')→∃p m' A',f ps m=some (p,m')∧Xt T A m A' m'∧WF T A' m' c'∧D2 T A' m' r p
def SFf (f2:F2)(f:Fn):Prop:=∀A m c ds ps,WF T A m c→D2L T A m ds ps→∀r c',f2 ds c=some (r,c')→∃p m' A',f ps m=some (p,m')∧Xt T A m A' m'∧WF T A' m' c'∧Fs T A' m' m.length r p
def FlR (φ:Bool)(A:Nat→Prop)(m:Mem)(B:Nat):Fl2→Fl→Prop
 | .nx,f=>f=.nx
 | .bk,f=>f=.bk
 | .ct,f=>f=.ct
 | .rt d,f=>∃p,f=.rt p∧if φ=true then Fs T A m B d p else D2 T A m d p
def SS (φ:Bool)(s2:S2)(s:Sx):Prop:=∀A m c B v2 v,WF T A m c→EnvR T A m B v2 v→B≤m.length→∀f2 v2' c',s2 v2 c=some (f2,v2',c')→∃f v' m' A',s v m=some (f,v',m')∧Xs T B A m A' m'∧WF T A' m' c'∧EnvR T A' m' B v2' v'∧FlR T φ A' m' B f2 f
end
section
variable {T:Tk}{e2 a2 b2:E2}{e a b:Ex}{t2 u2:T2}{t u:Tx}{as2:A2}{as:Ax}
theorem SX.p (h:SX T e2 e):SXp T e2 e:=fun A m c B v2 v w E r c' q=>let ⟨p,m',A',h1,h2,h3,h4⟩:=h A m c B v2 v w E r c' q;⟨p,m',A',h1,h2,h3,h4.t h3⟩
theorem SXf.p (h:SXf T e2 e):SXp T e2 e:=fun A m c B v2 v w E r c' q=>let ⟨p,m',A',h1,h2,h3,h4⟩:=h A m c B v2 v w E r c' q;⟨p,m',A',h1,h2,h3,h4.t⟩
theorem SXf.x (h:SXf T e2 e):SX T e2 e:=fun A m c B v2 v w E r c' q=>by
 obtain⟨p,m',A',h1,h2,h3,h4⟩:=h A m c B v2 v w E r c' q
 obtain⟨A'',x1,x2,x3⟩:=h4.fix h2 h3
 exact⟨p,m',A'',h1,x1,x2,x3⟩
def Yv (i:Nat):E2:=fun v c=>match v[i]? with
 | some (some (.v d))=>some (d,c)
 | _=>none
def yPk (i:Nat):E2:=fun v c=>match v[i]? with
 | some (some (.v d))=>some (d,c)
 | some (some (.o ds))=>some (.lst ds,c)
 | _=>none
def yC (d:DV):E2:=fun _ c=>some (d,c)
theorem Sv {i:Nat}:SX T (Yv i) (Xv i):=fun A m c B v2 v w E r c' q=>by
 unfold Yv at q
 split at q
 ·rename_i d hd
  cases q
  obtain⟨p,h1,h2⟩:=E.ok i _ hd
  exact⟨p,m,A,by unfold Xv;rw [h1],.refl,w,h2⟩
 ·cases q
theorem Spv {i:Nat}:SXp T (yPk i) (Xv i):=fun A m c B v2 v w E r c' q=>by
 unfold yPk at q
 split at q
 ·rename_i d hd
  cases q
  obtain⟨p,h1,h2⟩:=E.ok i _ hd
  exact⟨p,m,A,by unfold Xv;rw [h1],.refl,w,D2.t h2 w⟩
 ·rename_i d hd
  cases q
  obtain⟨p,h1,k,ps,rfl,hk,a,n,g,h⟩:=E.ok i _ hd
  exact⟨_,m,A,by unfold Xv;rw [h1],.refl,w,k,ps,rfl,n,lt_of g,g,h⟩
 ·cases q
theorem sx_c {d:DV}{p:PV}(h:∀A m,D2 T A m d p):SX T (yC d) (xC p):=fun A m c B v2 v w E r c' q=>by
 cases q
 exact⟨p,m,A,rfl,.refl,w,h A m⟩
theorem Sxi {i:Int}:SX T (yC (.int i)) (xC (.int i)):=sx_c fun _ _=>by rw [D2]
theorem sx_bl {i:Bool}:SX T (yC (.bl i)) (xC (.bl i)):=sx_c fun _ _=>by rw [D2]
theorem sx_str {i:Str}:SX T (yC (.str i)) (xC (.str i)):=sx_c fun _ _=>by rw [D2]
theorem sx_non:SX T (yC .non) (xC .non):=sx_c fun _ _=>by rw [D2]
def OpX (g2:DV→Option DV)(g:PV→Mem→Option (PV×Mem))(T:Tk):Prop:=∀A m c d p,WF T A m c→Dt T A m d p→∀r,g2 d=some r→∃p' m' A',g p m=some (p',m')∧Xt T A m A' m'∧WF T A' m' c∧D2 T A' m' r p'
def OpF (g2:DV→Option DV)(g:PV→Mem→Option (PV×Mem))(T:Tk):Prop:=∀A m c d p,WF T A m c→Dt T A m d p→∀r,g2 d=some r→∃p' m' A',g p m=some (p',m')∧Xt T A m A' m'∧WF T A' m' c∧Fs T A' m' m.length r p'
def Op2 (g2:DV→DV→Option DV)(g:PV→PV→Mem→Option (PV×Mem))(T:Tk):Prop:=∀A m c d p e q,WF T A m c→Dt T A m d p→Dt T A m e q→∀r,g2 d e=some r→∃p' m' A',g p q m=some (p',m')∧Xt T A m A' m'∧WF T A' m' c∧D2 T A' m' r p'
def Op2f (g2:DV→DV→Option DV)(g:PV→PV→Mem→Option (PV×Mem))(T:Tk):Prop:=∀A m c d p e q,WF T A m c→Dt T A m d p→Dt T A m e q→∀r,g2 d e=some r→∃p' m' A',g p q m=some (p',m')∧Xt T A m A' m'∧WF T A' m' c∧Fs T A' m' m.length r p'
def y1 (g:DV→Option DV)(a:E2):E2:=fun v c=>(a v c).bind fun r=>(g r.1).map fun d=>(d,r.2)
def y2 (g:DV→DV→Option DV)(a b:E2):E2:=fun v c=>(a v c).bind fun r=>(b v r.2).bind fun s=>(g r.1 s.1).map fun d=>(d,s.2)
theorem sx_1 {g2:DV→Option DV}{g:PV→Mem→Option (PV×Mem)}(o:OpX g2 g T)(h:SXp T a2 a):SX T (y1 g2 a2) (x1 g a):=fun A m c B v2 v w E r c' q=>by
 obtain⟨⟨d,c1⟩,q1,q⟩:=zbm q
 obtain⟨d',q2,q⟩:=zmm q
 cases q
 obtain⟨p,m1,A1,h1,h2,h3,h4⟩:=h A m c B v2 v w E _ _ q1
 obtain⟨p',m2,A2,h5,h6,h7,h8⟩:=o A1 m1 _ d p h3 h4 _ q2
 exact⟨p',m2,A2,by unfold x1;rw [h1];exact h5,h2.trans h6,h7,h8⟩
theorem sf_1 {g2:DV→Option DV}{g:PV→Mem→Option (PV×Mem)}(o:OpF g2 g T)(h:SXp T a2 a):SXf T (y1 g2 a2) (x1 g a):=fun A m c B v2 v w E r c' q=>by
 obtain⟨⟨d,c1⟩,q1,q⟩:=zbm q
 obtain⟨d',q2,q⟩:=zmm q
 cases q
 obtain⟨p,m1,A1,h1,h2,h3,h4⟩:=h A m c B v2 v w E _ _ q1
 obtain⟨p',m2,A2,h5,h6,h7,ds,k,ps,e1,e2,hk,h8⟩:=o A1 m1 _ d p h3 h4 _ q2
 exact⟨p',m2,A2,by unfold x1;rw [h1];exact h5,h2.trans h6,h7,ds,k,ps,e1,e2,znt h2.le hk,h8⟩
def un1 (g:List PV→Mem→Option (PV×Mem)):PV→Mem→Option (PV×Mem):=fun p m=>g [p] m
theorem xA_1 {g:List PV→Mem→Option (PV×Mem)}:xA g (Ac a An)=x1 (un1 g) a:=by
 funext v m
 unfold xA Ac An x1 un1
 cases a v m<;>rfl
theorem sx_A {g2:DV→Option DV}{g:List PV→Mem→Option (PV×Mem)}(o:OpX g2 (un1 g) T)(h:SXp T a2 a):SX T (y1 g2 a2) (xA g (Ac a An)):=xA_1▸sx_1 o h
theorem sf_A {g2:DV→Option DV}{g:List PV→Mem→Option (PV×Mem)}(o:OpF g2 (un1 g) T)(h:SXp T a2 a):SXf T (y1 g2 a2) (xA g (Ac a An)):=xA_1▸sf_1 o h
theorem sx_2 {g2:DV→DV→Option DV}{g:PV→PV→Mem→Option (PV×Mem)}(o:Op2 g2 g T)(h:SXp T a2 a)(h':SXp T b2 b):SX T (y2 g2 a2 b2) (x2 g a b):=fun A m c B v2 v w E r c' q=>by
 obtain⟨⟨d,c1⟩,q1,q⟩:=zbm q
 obtain⟨⟨d',c2⟩,q2,q⟩:=zbm q
 obtain⟨d'',q3,q⟩:=zmm q
 cases q
 obtain⟨p,m1,A1,h1,h2,h3,h4⟩:=h A m c B v2 v w E _ _ q1
 obtain⟨p',m2,A2,h5,h6,h7,h8⟩:=h' A1 m1 _ B v2 v h3 (E.x w h2) _ _ q2
 obtain⟨p'',m3,A3,h9,h10,h11,h12⟩:=o A2 m2 _ _ _ _ _ h7 (h4.x h3 h6) h8 _ q3
 exact⟨p'',m3,A3,by unfold x2;rw [h1];simp only [zob];rw [h5];exact h9,h2.trans (h6.trans h10),h11,h12⟩
theorem sf_2 {g2:DV→DV→Option DV}{g:PV→PV→Mem→Option (PV×Mem)}(o:Op2f g2 g T)(h:SXp T a2 a)(h':SXp T b2 b):SXf T (y2 g2 a2 b2) (x2 g a b):=fun A m c B v2 v w E r c' q=>by
 obtain⟨⟨d,c1⟩,q1,q⟩:=zbm q
 obtain⟨⟨d',c2⟩,q2,q⟩:=zbm q
 obtain⟨d'',q3,q⟩:=zmm q
 cases q
 obtain⟨p,m1,A1,h1,h2,h3,h4⟩:=h A m c B v2 v w E _ _ q1
 obtain⟨p',m2,A2,h5,h6,h7,h8⟩:=h' A1 m1 _ B v2 v h3 (E.x w h2) _ _ q2
 obtain⟨p'',m3,A3,h9,h10,h11,ds,k,ps,e1,e2,hk,h12⟩:=o A2 m2 _ _ _ _ _ h7 (h4.x h3 h6) h8 _ q3
 exact⟨p'',m3,A3,by unfold x2;rw [h1];simp only [zob];rw [h5];exact h9,h2.trans (h6.trans h10),h11,ds,k,ps,e1,e2,znt h2.le (znt h6.le hk),h12⟩
def Zn:A2:=fun _ c=>some ([],c)
def zCons (a:E2)(r:A2):A2:=fun v c=>(a v c).bind fun x=>(r v x.2).bind fun xs=>some (x.1::xs.1,xs.2)
theorem Sn:SA T Zn An:=fun A m c B v2 v w E r c' q=>by
 cases q
 exact⟨[],m,A,rfl,.refl,w,.nil⟩
theorem Sa (h:SX T a2 a)(h':SA T as2 as):SA T (zCons a2 as2) (Ac a as):=fun A m c B v2 v w E r c' q=>by
 obtain⟨⟨d,c1⟩,q1,q⟩:=zbm q
 obtain⟨⟨ds,c2⟩,q2,q⟩:=zbm q
 cases q
 obtain⟨p,m1,A1,h1,h2,h3,h4⟩:=h A m c B v2 v w E _ _ q1
 obtain⟨ps,m2,A2,h5,h6,h7,h8⟩:=h' A1 m1 _ B v2 v h3 (E.x w h2) _ _ q2
 exact⟨p::ps,m2,A2,by unfold Ac;rw [h1];simp only [zob];rw [h5];rfl,h2.trans h6,h7,.cons (h4.x h3 h6) h8⟩
def Yc (n:Nat)(F:F2)(a:A2):E2:=fun v c=>(a v c).bind fun r=>if r.1.length=n then F r.1 r.2 else none
theorem sx_call {n:Nat}{f2:F2}{f:Fn}(hf:SF T f2 f)(h:SA T as2 as):SX T (Yc n f2 as2) (Xc n f as):=fun A m c B v2 v w E r c' q=>by
 obtain⟨⟨d,c1⟩,q1,q⟩:=zbm q
 obtain⟨ps,m1,A1,h1,h2,h3,h4⟩:=h A m c B v2 v w E _ _ q1
 split at q
 ·rename_i hl
  obtain⟨p',m2,A2,h5,h6,h7,h8⟩:=hf A1 m1 _ _ _ h3 h4 _ _ q
  exact⟨p',m2,A2,by unfold Xc;rw [h1];simp only [zob];rw [if_pos (by rw [h4.length];exact hl)];exact h5,h2.trans h6,h7,h8⟩
 ·cases q
theorem sf_call {n:Nat}{f2:F2}{f:Fn}(hf:SFf T f2 f)(h:SA T as2 as):SXf T (Yc n f2 as2) (Xc n f as):=fun A m c B v2 v w E r c' q=>by
 obtain⟨⟨d,c1⟩,q1,q⟩:=zbm q
 obtain⟨ps,m1,A1,h1,h2,h3,h4⟩:=h A m c B v2 v w E _ _ q1
 split at q
 ·rename_i hl
  obtain⟨p',m2,A2,h5,h6,h7,ds,k,qs,e1,e2,hk,h8⟩:=hf A1 m1 _ _ _ h3 h4 _ _ q
  exact⟨p',m2,A2,by unfold Xc;rw [h1];simp only [zob];rw [if_pos (by rw [h4.length];exact hl)];exact h5,h2.trans h6,h7,ds,k,qs,e1,e2,znt h2.le hk,h8⟩
 ·cases q
def yTup (a:A2):E2:=fun v c=>(a v c).bind fun r=>if r.1.length≤sizeLine then some (.tup r.1,r.2) else none
def yLst (a:A2):E2:=fun v c=>(a v c).bind fun r=>if r.1.length≤sizeLine then some (.lst r.1,r.2) else none
theorem sx_tup (h:SA T as2 as):SX T (yTup as2) (xA tupG as):=fun A m c B v2 v w E r c' q=>by
 obtain⟨⟨d,c1⟩,q1,q⟩:=zbm q
 obtain⟨ps,m1,A1,h1,h2,h3,h4⟩:=h A m c B v2 v w E _ _ q1
 split at q
 ·rename_i hl
  cases q
  exact⟨.tup ps,m1,A1,by unfold xA;rw [h1];simp only [zob];unfold tupG;rw [if_pos (by rw [h4.length];exact hl)],h2,h3,by rw [d2_tup];exact⟨ps,rfl,h4⟩⟩
 ·cases q
theorem fs_new {A:Nat→Prop}{m:Mem}{c:Cs}{ds:List DV}{ps:List PV}(w:WF T A m c)(h:D2L T A m ds ps):Xt T A m A (m++[.lst ps])∧WF T A (m++[.lst ps]) c∧Fs T A (m++[.lst ps]) m.length (.lst ds) (.ref m.length):=by
 refine⟨.app w.lt,w.app _,ds,m.length,ps,rfl,rfl,znr _,fun q=>absurd (w.lt _ q) (Nat.lt_irrefl _),fun e=>absurd (lt_of w.at_) (by rw [←e];exact Nat.lt_irrefl _),by simp,h.x w (.app w.lt)⟩
theorem sf_lst (h:SA T as2 as):SXf T (yLst as2) (xA lstG as):=fun A m c B v2 v w E r c' q=>by
 obtain⟨⟨d,c1⟩,q1,q⟩:=zbm q
 obtain⟨ps,m1,A1,h1,h2,h3,h4⟩:=h A m c B v2 v w E _ _ q1
 split at q
 ·rename_i hl
  cases q
  obtain⟨z1,z2,ds,k,qs,e1,e2,hk,z3⟩:=fs_new h3 h4
  exact⟨.ref m1.length,m1++[.lst ps],A1,by unfold xA;rw [h1];simp only [zob];unfold lstG;rw [if_pos (by rw [h4.length];exact hl)],h2.trans z1,z2,ds,k,qs,e1,e2,znt h2.le hk,z3⟩
 ·cases q
def yIf (t:T2)(a b:E2):E2:=fun v c=>(t v c).bind fun r=>if r.1=true then a v r.2 else b v r.2
def yNt (a:E2):E2:=fun v c=>(a v c).bind fun r=>match r.1 with
 | .bl b=>some (.bl (!b),r.2)
 | _=>none
def yAn (a b:E2):E2:=fun v c=>(a v c).bind fun r=>match r.1 with
 | .bl k=>if k=true then b v r.2 else some (.bl false,r.2)
 | _=>none
def yOr (a b:E2):E2:=fun v c=>(a v c).bind fun r=>match r.1 with
 | .bl k=>if k=true then some (.bl true,r.2) else b v r.2
 | _=>none
def uBl (a:E2):T2:=fun v c=>(a v c).bind fun r=>match r.1 with
 | .bl b=>some (b,r.2)
 | _=>none
def uNt (a:T2):T2:=fun v c=>(a v c).map fun r=>(!r.1,r.2)
def uAn (a b:T2):T2:=fun v c=>(a v c).bind fun r=>if r.1=true then b v r.2 else some (false,r.2)
def uOr (a b:T2):T2:=fun v c=>(a v c).bind fun r=>if r.1=true then some (true,r.2) else b v r.2
def uYs:T2:=fun _ c=>some (true,c)
def truV:DV→Option Bool
 | .non=>some false
 | .bl b=>some b
 | .int i=>some (decide (i≠0))
 | .str s=>if s.length≤sizeLine then some (decide (s.length≠0)) else none
 | .tup ds=>some (!ds.isEmpty)
 | .lst ds=>some (!ds.isEmpty)
 | _=>none
def uTru (a:E2):T2:=fun v c=>(a v c).bind fun r=>(truV r.1).map fun k=>(k,r.2)
theorem sx_if (ht:ST T t2 t)(ha:SX T a2 a)(hb:SX T b2 b):SX T (yIf t2 a2 b2) (xIf t a b):=fun A m c B v2 v w E r c' q=>by
 obtain⟨⟨d,c1⟩,q1,q⟩:=zbm q
 obtain⟨m1,A1,h1,h2,h3⟩:=ht A m c B v2 v w E _ _ q1
 split at q
 ·rename_i z
  obtain⟨p,m2,A2,h4,h5,h6,h7⟩:=ha A1 m1 _ B v2 v h3 (E.x w h2) _ _ q
  exact⟨p,m2,A2,by unfold xIf;rw [h1];simp only [zob];rw [if_pos z];exact h4,h2.trans h5,h6,h7⟩
 ·rename_i z
  obtain⟨p,m2,A2,h4,h5,h6,h7⟩:=hb A1 m1 _ B v2 v h3 (E.x w h2) _ _ q
  exact⟨p,m2,A2,by unfold xIf;rw [h1];simp only [zob];rw [if_neg z];exact h4,h2.trans h5,h6,h7⟩
theorem sx_not (ha:SX T a2 a):SX T (yNt a2) (xNt a):=fun A m c B v2 v w E r c' q=>by
 obtain⟨⟨d,c1⟩,q1,q⟩:=zbm q
 obtain⟨p,m1,A1,h1,h2,h3,h4⟩:=ha A m c B v2 v w E _ _ q1
 cases d with
 | bl k=>
  cases q
  rw [d2_bl] at h4
  subst h4
  exact⟨_,m1,A1,by unfold xNt;rw [h1];rfl,h2,h3,by rw [D2]⟩
 | _=>cases q
theorem sx_and (ha:SX T a2 a)(hb:SX T b2 b):SX T (yAn a2 b2) (xAn a b):=fun A m c B v2 v w E r c' q=>by
 obtain⟨⟨d,c1⟩,q1,q⟩:=zbm q
 obtain⟨p,m1,A1,h1,h2,h3,h4⟩:=ha A m c B v2 v w E _ _ q1
 cases d with
 | bl k=>
  rw [d2_bl] at h4
  subst h4
  cases k with
  | true=>
   obtain⟨p,m2,A2,h4,h5,h6,h7⟩:=hb A1 m1 _ B v2 v h3 (E.x w h2) _ _ q
   exact⟨p,m2,A2,by unfold xAn;rw [h1];exact h4,h2.trans h5,h6,h7⟩
  | false=>
   cases q
   exact⟨_,m1,A1,by unfold xAn;rw [h1];rfl,h2,h3,by rw [D2]⟩
 | _=>cases q
theorem sx_or (ha:SX T a2 a)(hb:SX T b2 b):SX T (yOr a2 b2) (xOr a b):=fun A m c B v2 v w E r c' q=>by
 obtain⟨⟨d,c1⟩,q1,q⟩:=zbm q
 obtain⟨p,m1,A1,h1,h2,h3,h4⟩:=ha A m c B v2 v w E _ _ q1
 cases d with
 | bl k=>
  rw [d2_bl] at h4
  subst h4
  cases k with
  | false=>
   obtain⟨p,m2,A2,h4,h5,h6,h7⟩:=hb A1 m1 _ B v2 v h3 (E.x w h2) _ _ q
   exact⟨p,m2,A2,by unfold xOr;rw [h1];exact h4,h2.trans h5,h6,h7⟩
  | true=>
   cases q
   exact⟨_,m1,A1,by unfold xOr;rw [h1];rfl,h2,h3,by rw [D2]⟩
 | _=>cases q
theorem st_bl (ha:SX T a2 a):ST T (uBl a2) (tBl a):=fun A m c B v2 v w E r c' q=>by
 obtain⟨⟨d,c1⟩,q1,q⟩:=zbm q
 obtain⟨p,m1,A1,h1,h2,h3,h4⟩:=ha A m c B v2 v w E _ _ q1
 cases d with
 | bl k=>
  rw [d2_bl] at h4
  subst h4
  cases q
  exact⟨m1,A1,by unfold tBl;rw [h1];rfl,h2,h3⟩
 | _=>cases q
theorem st_not (ha:ST T t2 t):ST T (uNt t2) (tNt t):=fun A m c B v2 v w E r c' q=>by
 obtain⟨⟨d,c1⟩,q1,q⟩:=zmm q
 cases q
 obtain⟨m1,A1,h1,h2,h3⟩:=ha A m c B v2 v w E _ _ q1
 exact⟨m1,A1,by unfold tNt;rw [h1];rfl,h2,h3⟩
theorem st_and (ha:ST T t2 t)(hb:ST T u2 u):ST T (uAn t2 u2) (tAn t u):=fun A m c B v2 v w E r c' q=>by
 obtain⟨⟨d,c1⟩,q1,q⟩:=zbm q
 obtain⟨m1,A1,h1,h2,h3⟩:=ha A m c B v2 v w E _ _ q1
 split at q
 ·rename_i z
  obtain⟨m2,A2,h4,h5,h6⟩:=hb A1 m1 _ B v2 v h3 (E.x w h2) _ _ q
  exact⟨m2,A2,by unfold tAn;rw [h1];simp only [zob];rw [if_pos z];exact h4,h2.trans h5,h6⟩
 ·rename_i z
  cases q
  exact⟨m1,A1,by unfold tAn;rw [h1];simp only [zob];rw [if_neg z],h2,h3⟩
theorem st_or (ha:ST T t2 t)(hb:ST T u2 u):ST T (uOr t2 u2) (tOr' t u):=fun A m c B v2 v w E r c' q=>by
 obtain⟨⟨d,c1⟩,q1,q⟩:=zbm q
 obtain⟨m1,A1,h1,h2,h3⟩:=ha A m c B v2 v w E _ _ q1
 split at q
 ·rename_i z
  cases q
  exact⟨m1,A1,by unfold tOr';rw [h1];simp only [zob];rw [if_pos z],h2,h3⟩
 ·rename_i z
  obtain⟨m2,A2,h4,h5,h6⟩:=hb A1 m1 _ B v2 v h3 (E.x w h2) _ _ q
  exact⟨m2,A2,by unfold tOr';rw [h1];simp only [zob];rw [if_neg z];exact h4,h2.trans h5,h6⟩
theorem st_ys:ST T uYs tYs:=fun A m c B v2 v w E r c' q=>by
 cases q
 exact⟨m,A,rfl,.refl,w⟩
theorem D2L.empty {A:Nat→Prop}{m:Mem}{ds:List DV}{ps:List PV}(h:D2L T A m ds ps):ps.isEmpty=ds.isEmpty:=by
 cases ds with
 | nil=>rw [h.inv0];rfl
 | cons d ds=>obtain⟨p,r,rfl,_⟩:=h.inv;rfl
theorem truV_ok {A:Nat→Prop}{m:Mem}{d:DV}{p:PV}{k:Bool}(h:Dt T A m d p)(e:truV d=some k):truG p m=some k:=by
 cases d with
 | non=>cases e;rw [show p=.non from h];rfl
 | bl b=>rw [show p=.bl b from h];exact e
 | int i=>cases e;rw [show p=.int i from h];rfl
 | str s=>rw [show p=.str s from h];exact e
 | tup ds=>
  cases e
  obtain⟨ps,rfl,h'⟩:=d2_tup.mp (show D2 T A m (.tup ds) p from h)
  show some (!ps.isEmpty)=_
  rw [h'.empty]
 | lst ds=>
  cases e
  obtain⟨k,ps,rfl,n,l,g,h⟩:=h
  unfold truG
  simp only [g]
  rw [h.empty]
 | _=>cases e
theorem st_tru (ha:SXp T a2 a):ST T (uTru a2) (tTru a):=fun A m c B v2 v w E r c' q=>by
 obtain⟨⟨d,c1⟩,q1,q⟩:=zbm q
 obtain⟨k,q2,q⟩:=zmm q
 cases q
 obtain⟨p,m1,A1,h1,h2,h3,h4⟩:=ha A m c B v2 v w E _ _ q1
 exact⟨m1,A1,by unfold tTru;rw [h1];simp only [zob];rw [truV_ok h4 q2];rfl,h2,h3⟩
end
end V2
end
section
set_option autoImplicit false
namespace Rf
open PySem PySem.Spec L2
abbrev Px:=PV→Env→Option Env
abbrev Pxs:=List PV→Env→Option Env
structure PatOk (K:PySem.W.Frag) (vs:List Nat) (g:Px) (t:TG):Prop where
 run:∀(ρ:List Addr) (H:Hp) (p:PV) (v:V) (env env':Env) (σ:L2.St) (Q:L2.St→Hp→Prop),RelE K ρ H σ env→Rep K ρ H p v→g p env=some env'→(∀ σ',RelE K ρ H σ' env'→wipe σ' vs=wipe σ vs→Q σ' H)→t v σ H Q
structure PatsOk (K:PySem.W.Frag) (vs:List Nat) (g:Pxs) (t:TGs):Prop where
 run:∀(ρ:List Addr) (H:Hp) (ps:List PV) (us:List V) (env env':Env) (σ:L2.St) (Q:L2.St→Hp→Prop),RelE K ρ H σ env→RepL K ρ H ps us→g ps env=some env'→(∀ σ',RelE K ρ H σ' env'→wipe σ' vs=wipe σ vs→Q σ' H)→t us σ H Q
def pNm (i:Nat):Px:=fun p env=>some (env.set i (some p))
def Pc (g:Px)(r:Pxs):Pxs:=fun ps env=>match ps with
 | p::qs=>(g p env).bind fun e=>r qs e
 | []=>none
section
variable {K:PySem.W.Frag}{vs:List Nat}
theorem pat_nm {i:Nat}(h:i∈vs):PatOk K vs (pNm i) (gName i):=⟨fun ρ H p v env env' σ Q hE hp e k=>by
 cases e
 exact k _ (hE.set i hp) (set_wipe _ _ _ _ h)⟩
end
def lcLP (g:Px)(tt:Tx)(te:Ex)(gd:List (Nat×Ob))(D:Nat)(env:Env):List PV→Mem→List PV→Option (List PV×Mem)
 | [],m,acc=>some (acc,m)
 | p::ps,m,acc=>(g p env).bind fun env'=>(tt env' m).bind fun r=>if r.1=true then(te env' r.2).bind fun s=>
   if okG gd s.2=true∧s.2[D]?=some (.lst acc)∧acc.length<sizeLine then lcLP g tt te gd D env ps (s.2.set D (.lst (acc++[s.1]))) (acc++[s.1]) else none
  else if okG gd r.2=true∧r.2[D]?=some (.lst acc) then lcLP g tt te gd D env ps r.2 acc else none
def xLcP (vs:List Nat)(it:Ix)(g:Px)(tt:Tx)(te:Ex):Ex:=fun env m=>(it env m).bind fun r=>if okG r.1.guard r.2=true∧(∀g∈r.1.guard,g.1<r.2.length) then
  (lcLP g tt te r.1.guard r.2.length (wipeE env vs) r.1.items (r.2++[.lst []]) []).bind fun s=>some (.ref r.2.length,s.2) else none
section
variable {X:Cx}{cl:Nat→Addr}{pos:Pos}
theorem tLcP_of {vs:List Nat}{g:Px}{tg:TG}{mi:Ix}{tt:Tx}{te:Ex} {σ H Q}(hP:PatOk X.K vs g tg)(h:TX X.K cl (xLcP vs mi g tt te) σ H Q):tLc (TIX X.K cl mi) tg (TTX X.K cl tt) (TX X.K cl te) vs σ H Q:=by
 obtain⟨ρ,env,mem,r,hm,hE,h,q⟩:=h
 unfold xLcP at h
 obtain⟨r1,e1,h⟩:=zbm h
 split at h
 ·rename_i hk
  obtain⟨hk,hlow⟩:=hk
  obtain⟨r2,e2,h⟩:=zbm h
  obtain rfl:=zsi h
  refine⟨ρ,env,mem,r1,hm,hE,e1,fun ρ1 H1 J x1 m1 k1 IJ D hD=>?_⟩
  obtain⟨z1,z2,z3⟩:=new_lst m1 RepL.nil hD
  have q1:=q.ext (x1.trans z1)
  have ED:(ρ1++[D])[r1.2.length]?=some D:=by rw [←m1.len];simp
  refine⟨fun j n H'=>n=r1.1.items.length-j∧j≤r1.1.items.length∧∃ ρ' m' acc,Ext X.K (ρ1++[D]) (upd H1 D (.lst [])) ρ' H'∧RelM X.K cl ρ' H' m'∧okG r1.1.guard m'=true∧m'[r1.2.length]?=some (.lst acc)∧lcLP g tt te r1.1.guard r1.2.length (wipeE env vs) (r1.1.items.drop j) m' acc=some r2,
   ⟨_,rfl,Nat.zero_le _,ρ1++[D],r1.2++[.lst []],[],.refl,z2,okG_app hk,by simp,by rw [List.drop_zero];exact e2⟩,?_⟩
  rintro j n H' ⟨rfl,hj,ρ',m',acc,x2,m2,k2,hacc,hf⟩
  by_cases hlt:j<r1.1.items.length
  ·have hd:r1.1.items.drop j=r1.1.items[j]::r1.1.items.drop (j+1):=List.drop_eq_getElem_cons hlt
   rw [hd] at hf
   unfold lcLP at hf
   obtain⟨env1,e0,hf⟩:=zbm hf
   obtain⟨r3,e3,hf⟩:=zbm hf
   obtain⟨g1,g2⟩:=(IJ.ext z1).go ρ' H' m' j r1.1.items[j] x2 m2 k2 (List.getElem?_eq_getElem hlt)
   refine .inr ⟨g1,fun H''=>j+1≤r1.1.items.length∧∃ ρ' m' acc,Ext X.K (ρ1++[D]) (upd H1 D (.lst [])) ρ' H''∧RelM X.K cl ρ' H'' m'∧okG r1.1.guard m'=true∧m'[r1.2.length]?=some (.lst acc)∧lcLP g tt te r1.1.guard r1.2.length (wipeE env vs) (r1.1.items.drop (j+1)) m' acc=some r2,
    fun H'' hN=>⟨_,by omega,rfl,hN⟩,fun y H'' hy=>?_⟩
   obtain⟨y1,y2,y3⟩:=g2 y H'' hy
   have xy:=(x1.trans z1).trans (x2.trans y1)
   refine hP.run ρ' H'' _ _ _ env1 _ _ ((hE.wipe vs).ext xy) y3 e0 fun σ' hE' hw=>⟨by rw [hw,wipe_idem σ vs vs fun _ h=>h],ρ',env1,m',r3,y2,hE',e3,fun ρ3 H3 x3 m3=>?_⟩
   split at hf
   ·rename_i hb
    rw [if_pos hb]
    obtain⟨r4,e4,hf⟩:=zbm hf
    refine⟨ρ3,_,r3.2,r4,m3,hE'.ext x3,e4,fun ρ4 v4 H4 x4 m4 p4=>?_⟩
    split at hf
    ·rename_i hg
     obtain⟨k4,a4,l4⟩:=hg
     have xx:=(x2.trans y1).trans (x3.trans x4)
     have ha:=xx.at ED
     obtain⟨as,s1,s2⟩:=m4.ok _ _ _ ha a4
     have x5:Ext X.K ρ4 H4 ρ4 (upd H4 D (.lst (as++[v4]))):=ext_set m4 ha a4 rfl
     refine⟨as,s1,by rw [s2.length];exact l4,hlt,ρ4,_,_,xx.trans x5,m4.set (o':=.lst (acc++[r4.1])) ha a4 rfl rfl ⟨_,upd_same,(x5.repL _ _ s2).append (.one (x5.rep _ _ p4))⟩,okG_set k4 hlow,?_,hf⟩
     rw [zss (zge a4).1]
    ·cases hf
   ·rename_i hb
    rw [if_neg hb]
    split at hf
    ·rename_i hg
     exact⟨hlt,ρ3,r3.2,acc,(x2.trans y1).trans x3,m3,hg.1,hg.2,hf⟩
    ·cases hf
  ·have e:j=r1.1.items.length:=by omega
   subst e
   rw [List.drop_length] at hf
   obtain rfl:=zsi hf
   refine .inl ⟨(IJ.ext z1).stop ρ' H' m' x2 m2 k2,q1 ρ' _ H' x2 m2 ?_⟩
   rw [rep_ref]
   exact⟨D,x2.at ED,rfl⟩
 ·cases h
theorem rx_lcP {elt iter:Expr}{ifs:List Expr}{scope:Scope}{own:List (Str×Nat)}{tg:Expr}{mi:Ix}{g:Px}{tG:TG}{tt:Tx}{te:Ex}(hP:PatOk X.K (own.map (·.2)) g tG)(hc:X.calm=true)(hN:X.N.Nodup)(hi:RI cl X tg iter mi)(ok:BlkOk X.N X.env.scope scope own)
  (hg:∀(s:Shared) (H:Hp) (C:Addr) (cl:List (Str×Addr)) (fp:List Addr),PG (X.blk s H scope (compEnvC scope cl C X.env) fp) tg tG) (ht:∀(s:Shared) (H:Hp) (C:Addr) (cl':List (Str×Addr)) (fp:List Addr),RTs cl (X.blk s H scope (compEnvC scope cl' C X.env) fp) ifs tt)
  (he:∀(s:Shared) (H:Hp) (C:Addr) (cl':List (Str×Addr)) (fp:List Addr),RX cl (X.blk s H scope (compEnvC scope cl' C X.env) fp) elt te) (hs:∀x,foldedSetIterable iter X.env x=pure x:=by intro _;rfl):
  RX cl X (.ListComp elt [⟨tg,iter,ifs,0⟩] scope pos) (xLcP (own.map (·.2)) mi g tt te):=PE.imp (pe_lc hc hN hi ok hg ht he hs) fun _ _ _ h=>tLcP_of hP h
theorem rs_setLcP {j:Nat}{y:Str}{py spos:Pos}{elt iter:Expr}{ifs:List Expr}{scope:Scope}{own:List (Str×Nat)}{tg:Expr}{mi:Ix}{g:Px}{tG:TG}{tt:Tx}{te:Ex}(hP:PatOk X.K (own.map (·.2)) g tG)(hc:X.calm=true)(hN:X.N.Nodup)(hy:X.N[j]?=some y)(hyl:X.env.scope.names.lookup y=some .local)
  (hsw:swapsWith (.ListComp elt [⟨tg,iter,ifs,0⟩] scope pos) (some (.Name y py)) spos.line X.env=pure true) (hi:RI cl X tg iter mi) (ok:BlkOk X.N X.env.scope scope own)
  (hg:∀(s:Shared) (H:Hp) (C:Addr) (cl:List (Str×Addr)) (fp:List Addr),PG (X.blk s H scope (compEnvC scope cl C X.env) fp) tg tG) (ht:∀(s:Shared) (H:Hp) (C:Addr) (cl':List (Str×Addr)) (fp:List Addr),RTs cl (X.blk s H scope (compEnvC scope cl' C X.env) fp) ifs tt)
  (he:∀(s:Shared) (H:Hp) (C:Addr) (cl':List (Str×Addr)) (fp:List Addr),RX cl (X.blk s H scope (compEnvC scope cl' C X.env) fp) elt te) (hs:∀x,foldedSetIterable iter X.env x=pure x:=by intro _;rfl):
  RS cl X (.Assign [.Name y py] (.ListComp elt [⟨tg,iter,ifs,0⟩] scope pos) spos) (sAs (xLcP (own.map (·.2)) mi g tt te) (gNm j)):=PS.imp (ps_setLc hc hN hy hyl hsw hi ok hg ht he hs) fun D σ H h=>by
 obtain⟨ρ,env,mem,r,hm,hE,h,q⟩:=tAs_of h
 refine tLcP_of hP ⟨ρ,env,mem,r,hm,hE,h,fun ρ1 v1 H1 x1 m1 p1=>?_⟩
 obtain⟨ρ2,p,env2,mem2,r2,n1,n2,n3,n4,n5⟩:=q ρ1 v1 H1 x1 m1 p1
 obtain rfl:=zsi n4
 exact n5 ρ2 _ H1 .refl n1 (n2.set j n3)
end
def IteX (K:PySem.W.Frag)(k:Bool)(a:Addr):It:=
 ⟨fun i H=>∃(xs:List V) (x:V),SqX k K H a xs∧xs[i]?=some x,fun i H v H'=>∃T x,v=.ref T∧H T=none∧(∃ob:Obj,ob.dict=none∧H'=upd H T (.frz ob (.tup [.int (i:Nat),x])))∧∀xs,SqX k K H a xs→xs[i]?=some x,fun i H=>∃xs:List V,SqX k K H a xs∧xs.length=i⟩
theorem turn_enumX {P:Program}{w:World}{K:PySem.W.Frag}{elts:List Expr}{kk:Nat}{tpos:Pos}(k:Bool)(a e it:Addr):
  Turn P w K (.Tuple elts kk tpos) (IteX K k a) [e,it] e (fun i h=>(∃old,IsEnum h e it ((i:Nat):Int) old)∧IterX k h it a i∧e≠it∧e≠a∧a≠it) where
 mem:=by simp
 obj:=fun i h st b hb=>by
  obtain⟨⟨old,he⟩,hi,_⟩:=st
  have e':b=e∨b=it:=by simpa using hb
  rcases e' with z|z
  ·rw [z];exact⟨_,he,fun v q=>nomatch q⟩
  ·rw [z];exact hi.there
 keep:=fun i h h' st q=>let ⟨⟨old,he⟩,hi,hne⟩:=st;⟨⟨old,q e (by simp) _ he⟩,hi.keep (q it (by simp)),hne⟩
 item:=by
  intro X hP hw hK hc i pins s σ H E I hf st hg
  subst hP hw hK
  obtain⟨⟨old,he⟩,hit,hne,hea,hai⟩:=st
  obtain⟨xs,x,hq,hx⟩:=hg
  obtain⟨its,rv,p,hz⟩:=sqX_at I hq
  obtain⟨u,hu,ru⟩:=rv.get hx
  have hel:e<s.heap.objs.size:=Heap.lt_size he
  have hil:it<s.heap.objs.size:=by obtain⟨_,q,_⟩:=hit.there;exact Heap.lt_size q
  have hlt:i<its.toArray.size:=by
   have:=(zge hu).1
   simpa using this
  refine wpAny_pyNext_enum_itemC (draws_x (A:=X.A.in1) k (I.ok.hd hc) it a hai its.toArray) he ⟨hit,p⟩ hlt hne (by simp;exact⟨hne,hea⟩) fun x' h' tk hx' ho st' hT hsz hk=>?_
  have ex:x'=u:=by
   have:its.toArray[i]?=some u:=by simpa using hu
   rw [this] at hx'
   exact(zsi hx').symm
  subst ex
  refine⟨_,rfl,wpAny_letOwnedTupleGo_enum (s:={ s with heap:=h',toks:=tk+1 }) ho fun h'' he' sb=>?_⟩
  have hT2:h''.get? s.heap.objs.size=some { cls:=.type "tuple",data:=.seq #[.int i tk,x'] }:=(sb.2 _ (Nat.ne_of_gt hel)).trans hT
  have new:ObjOk X.prog X.w (upd H s.heap.objs.size (.frz { cls:=.type "tuple",data:=.seq #[.int i tk,x'] } (.tup [.int (i:Nat),x]))) h'' s.heap.objs.size (.frz { cls:=.type "tuple",data:=.seq #[.int i tk,x'] } (.tup [.int (i:Nat),x])):=
   ⟨hT2,by show 2≤sizeLine;decide,[.int i tk,x'],.cons ⟨_,rfl⟩ (.cons ru .nil),⟨_,hT2,rfl,_,rfl⟩⟩
  have I1:Inv X pins σ (upd H s.heap.objs.size (.frz { cls:=.type "tuple",data:=.seq #[.int i tk,x'] } (.tup [.int (i:Nat),x]))) { s with heap:=h'',toks:=tk+1 }:=
   I.turnedNew (ch:=[e,it]) (fun b ob hb q=>(sb.2 b (fun z=>hb (by simp [z]))).trans (hk b ob (fun z=>hb (by simp [z])) (fun z=>hb (by simp [z])) q)) hf (znr _) new
  refine⟨.ref s.heap.objs.size,_,I1,rfl,⟨_,x,rfl,I.hok.fresh (znr _),⟨_,rfl,rfl⟩,fun ys hy=>by rw [sqX_inj I hy hq];exact hx⟩,⟨⟨x',?_⟩,st'.1.keep fun o q=>(sb.2 it (Ne.symm hne)).trans q,hne,hea,hai⟩,fun b hb=>?_⟩
  ·have e1:((i+1:Nat):Int)=(i:Int)+1:=by omega
   rw [e1];exact he'
  ·have hb':b<s.heap.objs.size:=by
    have e':b=e∨b=it:=by simpa using hb
    rcases e' with z|z
    ·rw [z];exact hel
    ·rw [z];exact hil
   rw [upd_ne (Nat.ne_of_lt hb')]
   exact(hf b hb).1
 done:=by
  intro X hP hw hK hc i pins s σ H E I hf st hg
  subst hP hw hK
  obtain⟨⟨old,he⟩,hit,hne,hea,hai⟩:=st
  obtain⟨xs,hq,hx⟩:=hg
  obtain⟨its,rv,p,hz⟩:=sqX_at I hq
  obtain⟨f0,f1,f2,f3,f4,f5⟩:=hf it (by simp)
  have hl:its.toArray.size=i:=by
   have:=rv.length
   simp;omega
  subst hl
  exact wpAny_pyNext_enum_endD (draws_x (A:=X.A.in1) k (I.ok.hd hc) it a hai its.toArray) he ⟨hit,p⟩ fun h' eb=>⟨rfl,I.turned (t':=s.toks) (fun b o hb q=>eb b o hb q) f0 f1 f3 f4 f5⟩
 self:=fun A i s Q E st h=>let ⟨⟨_,he⟩,_⟩:=st;wpAny_pyIter_enum he h
def iEnumX (K:PySem.W.Frag)(ta:TA):TI:=fun σ H R=>ta σ H fun vs H1=>∃k a xs,vs=[.ref a]∧SqX k K H1 a xs∧R (IteX K k a) H1
theorem pi_enumX {X:Cx}{e:Expr}{ta:TA}{p pos tpos:Pos}{elts:List Expr}{kk:Nat}(hg:Gl X "enumerate")(hm:X.mg "enumerate"=none)(ha:PA X [e] ta)(hs:starEach [e] X.env=[(false,eval e X.env)]:=by rfl):
  PI X (.Tuple elts kk tpos) (.Call (.Name "enumerate" p) [e] [] pos) (iEnumX X.K ta):=by
 refine⟨fun pins s σ H R I h=>?_⟩
 refine PyProof.Rows.Call_ (ld_blt I hg hm PyProof.Rows.boot_enumerate (PyProof.Rows.callWith_type1 (thn (ha.run pos pins s σ H _ I h) fun us s1 ⟨vs,H1,I1,r1,q1⟩=>?_) hs rfl))
 obtain⟨k,a,xs,ex,hq,q⟩:=q1
 subst ex
 cases r1 with
 | cons r rr=>
  cases rr
  cases r
  have fin:∀(h':Heap),IsEnum h' (s1.heap.objs.size+1) s1.heap.objs.size 0 .none→IterX k h' s1.heap.objs.size a 0→a<s1.heap.objs.size→(∀b o,s1.heap.get? b=some o→h'.get? b=some o)→
    wpAny (model X.prog X.w) X.A (pyIter (.ref (s1.heap.objs.size+1))) (PIE X pins σ (.Tuple elts kk tpos) R) X.xe { s1 with heap:=h' }:=fun h' he hit al hk=>wpAny_pyIter_enum he (by
   have I2:Inv X pins σ H1 { s1 with heap:=h' }:=I1.kept (t':=s1.toks) hk
   refine⟨s1.heap.objs.size+1,[s1.heap.objs.size+1,s1.heap.objs.size],_,_,H1,rfl,I2,turn_enumX k a (s1.heap.objs.size+1) s1.heap.objs.size,⟨⟨.none,he⟩,hit,Nat.succ_ne_self _,Nat.ne_of_gt (Nat.lt_succ_of_lt al),Nat.ne_of_lt al⟩,fun b hb=>?_,q⟩
   have e':b=s1.heap.objs.size+1∨b=s1.heap.objs.size:=by simpa using hb
   have hle:s1.heap.objs.size≤b:=by
    rcases e' with z|z
    ·rw [z];exact Nat.le_add_right _ _
    ·rw [z];exact znr _
   exact I1.fpOk hle (I1.hok.fresh hle))
  cases k with
  | true=>
   obtain⟨its,rv,p',hz⟩:=I1.tuple (show SqT X.K H1 a xs from hq)
   have al:a<s1.heap.objs.size:=by
    obtain⟨o,ho,_⟩:=p'
    exact Heap.lt_size ho
   exact en_call (begins_tuple a its.toArray) p' fun h' he g2 hk hsz=>fin h' he ⟨_,g2,rfl,rfl⟩ al hk
  | false=>
   obtain⟨its,rv,p',hz⟩:=I1.list (show SqL X.K H1 a xs from hq)
   have al:a<s1.heap.objs.size:=by
    obtain⟨o,ho,_⟩:=p'.isList
    exact Heap.lt_size ho
   exact call_enumerate_list p'.isList fun h' he hit hsz hk=>fin h' he hit al hk
def enX:List PV→Mem→Option Sq
 | [p],m=>(seqQ p m).map fun s=>⟨enP 0 s.items,s.guard⟩
 | _,_=>none
def iEnX (a:Ax):Ix:=fun env m=>(a env m).bind fun r=>(enX r.1 r.2).map (·,r.2)
theorem ri_enumX {X:Cx}{cl:Nat→Addr}{a:Expr}{mA:Ax}{p pos tpos:Pos}{elts:List Expr}{kk:Nat}(hg:Gl X "enumerate")(hm:X.mg "enumerate"=none)(ha:RA cl X [a] mA)(hs:starEach [a] X.env=[(false,eval a X.env)]:=by rfl):
  RI cl X (.Tuple elts kk tpos) (.Call (.Name "enumerate" p) [a] [] pos) (iEnX mA):=PI.imp (pi_enumX hg hm ha hs) fun σ H R ⟨ρ,env,mem,r,hm,hE,h,q⟩=>by
 unfold iEnX at h
 obtain⟨r1,e1,h⟩:=zbm h
 obtain⟨s,e2,h⟩:=zmm h
 subst h
 obtain⟨ps,m0⟩:=r1
 unfold enX at e2
 split at e2
 ·rename_i p0 p hpp
  obtain⟨s1,e3,e2⟩:=zmm e2
  subst e2
  replace hpp:ps=[p]:=hpp
  subst hpp
  refine⟨ρ,env,mem,_,hm,hE,e1,fun ρ1 vs H1 x1 m1 p1=>?_⟩
  obtain⟨x,xs,rfl,i1,i2⟩:=p1.inv
  obtain rfl:=i2.inv0
  obtain⟨k,a,rfl,k1,⟨us,z1⟩,w1⟩:=seqQ_ok m1 i1 e3
  refine⟨k,a,us,rfl,z1,q ρ1 H1 _ x1 m1 k1 ⟨fun ρ' H' m i p x2 m2 kk hi=>?_,fun ρ' H' m x2 m2 kk=>?_⟩⟩
  ·obtain⟨as,a1,a2⟩:=w1 ρ' H' m x2 m2 kk
   obtain⟨u,c1,c2⟩:=enP_get _ _ _ _ hi
   obtain⟨x,a3,a4⟩:=a2.get c1
   refine⟨⟨as,x,a1,a3⟩,fun v H'' ⟨T,x',e1,e2,⟨ob,hob,e3⟩,e4⟩=>?_⟩
   subst e1 e3 c2
   obtain rfl:=zsi ((e4 as a1).symm.trans a3)
   rw [Nat.zero_add]
   exact new_tup hob m2 (.cons (by rw [Rep]) (.cons a4 .nil)) e2
  ·obtain⟨as,a1,a2⟩:=w1 ρ' H' m x2 m2 kk
   refine⟨as,a1,?_⟩
   rw [enP_len,a2.length]
 ·cases e2
end Rf
end
section
set_option autoImplicit false
namespace V2
open PySem Rf L2
abbrev I2:=Env2→Cs→Option (List DV×Cs)
abbrev P2:=DV→Env2→Option Env2
abbrev Ps2:=List DV→Env2→Option Env2
section
variable {T:Tk}{A A' A'':Nat→Prop}{m m' m'':Mem}
theorem EnvR.set {B:Nat}{v2:Env2}{v:Rf.Env}(h:EnvR T A m B v2 v)(i:Nat){d:DV}{p:PV}(r:D2 T A m d p):EnvR T A m B (v2.set i (some (.v d))) (v.set i (some p)):=by
 refine⟨by simp [h.len],fun j s e=>?_,fun j j' ds es k e1 e2 e3 e4=>?_⟩
 ·by_cases hj:j=i
  ·subst hj
   have hl:j<v2.length:=by
    have:=(zge e).1
    simpa using this
   rw [zss hl] at e
   cases e
   exact⟨p,by rw [zss (by rw [h.len];exact hl)],r⟩
  ·rw [zsn (Ne.symm hj)] at e ⊢
   exact h.ok j s e
 ·have n1:i≠j:=fun z=>by
   subst z
   have hl:i<v2.length:=by
    have:=(zge e1).1
    simpa using this
   rw [zss hl] at e1
   cases e1
  have n2:i≠j':=fun z=>by
   subst z
   have hl:i<v2.length:=by
    have:=(zge e2).1
    simpa using this
   rw [zss hl] at e2
   cases e2
  rw [zsn n1] at e1 e3
  rw [zsn n2] at e2 e4
  exact h.inj j j' ds es k e1 e2 e3 e4
theorem EnvR.wipe1 {B:Nat}{v2:Env2}{v:Rf.Env}(h:EnvR T A m B v2 v)(i:Nat):EnvR T A m B (v2.set i none) (v.set i none):=by
 refine⟨by simp [h.len],fun j s e=>?_,fun j j' ds es k e1 e2 e3 e4=>?_⟩
 ·by_cases hj:j=i
  ·subst hj
   have hl:j<v2.length:=by
    have:=(zge e).1
    simpa using this
   rw [zss hl] at e
   cases e
  ·rw [zsn (Ne.symm hj)] at e ⊢
   exact h.ok j s e
 ·have nn:∀j (ds:List DV),(v2.set i none)[j]?=some (some (Sl.o ds))→i≠j:=fun j ds e z=>by
   subst z
   have hl:i<v2.length:=by
    have:=(zge e).1
    simpa using this
   rw [zss hl] at e
   cases e
  have n1:=nn j ds e1
  have n2:=nn j' es e2
  rw [zsn n1] at e1 e3
  rw [zsn n2] at e2 e4
  exact h.inj j j' ds es k e1 e2 e3 e4
def wipe2 (v:Env2):List Nat→Env2
 | []=>v
 | i::is=>(wipe2 v is).set i none
theorem EnvR.wipe {B:Nat}{v2:Env2}{v:Rf.Env}(h:EnvR T A m B v2 v):∀is:List Nat,EnvR T A m B (wipe2 v2 is) (wipeE v is)
 | []=>h
 | i::is=>(h.wipe is).wipe1 i
theorem EnvR.setO {B k:Nat}{v2:Env2}{v:Rf.Env}{ps:List PV}{ds:List DV}(h:EnvR T A m B v2 v)(i:Nat)(hk:B≤k)(a:¬A k)(n:k≠T.c)(g:m[k]?=some (.lst ps))(r:D2L T A m ds ps)
  (no:∀(j:Nat) (es:List DV),j≠i→v2[j]?=some (some (.o es))→v[j]?≠some (some (.ref k))):EnvR T A m B (v2.set i (some (.o ds))) (v.set i (some (.ref k))):=by
 have at_:∀(j:Nat) (s:Sl),(v2.set i (some (.o ds)))[j]?=some (some s)→(j=i∧s=.o ds∧(v.set i (some (PV.ref k)))[j]?=some (some (.ref k)))∨(j≠i∧v2[j]?=some (some s)∧(v.set i (some (PV.ref k)))[j]?=v[j]?):=fun j s e=>by
  by_cases hj:j=i
  ·subst hj
   have hl:j<v2.length:=by
    have:=(zge e).1
    simpa using this
   rw [zss hl] at e
   cases e
   exact .inl ⟨rfl,rfl,by rw [zss (by rw [h.len];exact hl)]⟩
  ·rw [zsn (Ne.symm hj)] at e
   exact .inr ⟨hj,e,zsn (Ne.symm hj)⟩
 refine⟨by simp [h.len],fun j s e=>?_,fun j j' es fs k' e1 e2 e3 e4=>?_⟩
 ·rcases at_ j s e with⟨_,rfl,q⟩|⟨_,q1,q2⟩
  ·exact⟨_,q,k,ps,rfl,hk,a,n,g,r⟩
  ·obtain⟨p,z1,z2⟩:=h.ok j s q1
   exact⟨p,by rw [q2];exact z1,z2⟩
 ·rcases at_ j _ e1 with⟨q0,_,q⟩|⟨q0,q1,q2⟩
  ·rcases at_ j' _ e2 with⟨r0,_,_⟩|⟨r0,r1,r2⟩
   ·rw [q0,r0]
   ·rw [q] at e3
    cases e3
    rw [r2] at e4
    exact absurd e4 (no j' fs r0 r1)
  ·rcases at_ j' _ e2 with⟨r0,_,r⟩|⟨r0,r1,r2⟩
   ·rw [r] at e4
    cases e4
    rw [q2] at e3
    exact absurd e3 (no j es q0 q1)
   ·rw [q2] at e3
    rw [r2] at e4
    exact h.inj j j' es fs k' q1 r1 e3 e4
end
section
variable {T:Tk}
def SI (T:Tk)(i2:I2)(i:Ix):Prop:=∀A m c B v2 v,WF T A m c→EnvR T A m B v2 v→∀r c',i2 v2 c=some (r,c')→∃sq m' A',i v m=some (sq,m')∧Xt T A m A' m'∧WF T A' m' c'∧D2L T A' m' r sq.items∧okG sq.guard m'=true∧∀g∈sq.guard,A' g.1
def SIp (T:Tk)(i2:I2)(i:Ix):Prop:=∀A m c B v2 v,WF T A m c→EnvR T A m B v2 v→∀r c',i2 v2 c=some (r,c')→∃sq m' A',i v m=some (sq,m')∧Xt T A m A' m'∧WF T A' m' c'∧D2L T A' m' r sq.items∧okG sq.guard m'=true∧∀g∈sq.guard,g.1≠T.c∧g.1<m'.length
variable {i2:I2}{i:Ix}{a2 b2:E2}{a b:Ex}
theorem SI.p (h:SI T i2 i):SIp T i2 i:=fun A m c B v2 v w E r c' q=>by
 obtain⟨sq,m',A',h1,h2,h3,h4,h5,h6⟩:=h A m c B v2 v w E r c' q
 exact⟨sq,m',A',h1,h2,h3,h4,h5,fun g hg=>⟨fun z=>h3.nA (z▸h6 g hg),h3.lt _ (h6 g hg)⟩⟩
def itV:DV→Option (List DV)
 | .lst ds=>some ds
 | .tup ds=>some ds
 | .str z=>some (z.cps.toList.map fun c=>.str ⟨#[c]⟩)
 | _=>none
def jAny (a:E2):I2:=fun v c=>(a v c).bind fun r=>(itV r.1).map fun ds=>(ds,r.2)
theorem d2_signs {A:Nat→Prop}{m:Mem}:∀cs:List Nat,D2L T A m (cs.map fun c=>DV.str ⟨#[c]⟩) (cs.map fun c=>PV.str ⟨#[c]⟩)
 | []=>.nil
 | c::cs=>.cons (by rw [D2]) (d2_signs cs)
theorem itV_dt {A:Nat→Prop}{m:Mem}{d:DV}{p:PV}{ds:List DV}(h:Dt T A m d p)(e:itV d=some ds):∃sq,anyQ p m=some sq∧D2L T A m ds sq.items∧okG sq.guard m=true∧∀g∈sq.guard,g.1≠T.c∧g.1<m.length:=by
 cases d with
 | lst es=>
  cases e
  obtain⟨k,ps,rfl,n,l,g,h⟩:=h
  refine⟨⟨ps,[(k,.lst ps)]⟩,?_,h,?_,fun q hq=>?_⟩
  ·show sqOf (.ref k) m=_
   unfold sqOf
   simp only [g]
  ·rw [okG_1];exact zdt g
  ·rw [List.mem_singleton] at hq
   subst hq
   exact⟨n,l⟩
 | tup es=>
  cases e
  obtain⟨ps,rfl,h'⟩:=d2_tup.mp (show D2 T A m (.tup ds) p from h)
  exact⟨⟨ps,[]⟩,rfl,h',rfl,nofun⟩
 | str z=>
  cases e
  rw [show p=.str z from h]
  exact⟨⟨signsP z,[]⟩,rfl,d2_signs _,rfl,nofun⟩
 | _=>cases e
theorem itV_d2 {A:Nat→Prop}{m:Mem}{d:DV}{p:PV}{ds:List DV}(h:D2 T A m d p)(e:itV d=some ds):∃sq,anyQ p m=some sq∧D2L T A m ds sq.items∧okG sq.guard m=true∧∀g∈sq.guard,A g.1:=by
 cases d with
 | lst es=>
  cases e
  rw [D2] at h
  obtain⟨k,ps,rfl,a,g,h⟩:=h
  refine⟨⟨ps,[(k,.lst ps)]⟩,?_,h,?_,fun q hq=>?_⟩
  ·show sqOf (.ref k) m=_
   unfold sqOf
   simp only [g]
  ·rw [okG_1];exact zdt g
  ·rw [List.mem_singleton] at hq
   subst hq
   exact a
 | tup es=>
  cases e
  obtain⟨ps,rfl,h'⟩:=d2_tup.mp h
  exact⟨⟨ps,[]⟩,rfl,h',rfl,nofun⟩
 | str z=>
  cases e
  rw [show p=.str z from by rwa [D2] at h]
  exact⟨⟨signsP z,[]⟩,rfl,d2_signs _,rfl,nofun⟩
 | _=>cases e
theorem si_any (h:SX T a2 a):SI T (jAny a2) (iAny a):=fun A m c B v2 v w E r c' q=>by
 obtain⟨⟨d,c1⟩,q1,q⟩:=zbm q
 obtain⟨ds,q2,q⟩:=zmm q
 cases q
 obtain⟨p,m1,A1,h1,h2,h3,h4⟩:=h A m c B v2 v w E _ _ q1
 obtain⟨sq,z1,z2⟩:=itV_d2 h4 q2
 exact⟨sq,m1,A1,by unfold iAny;rw [h1];simp only [zob];rw [z1];rfl,h2,h3,z2⟩
theorem sip_any (h:SXp T a2 a):SIp T (jAny a2) (iAny a):=fun A m c B v2 v w E r c' q=>by
 obtain⟨⟨d,c1⟩,q1,q⟩:=zbm q
 obtain⟨ds,q2,q⟩:=zmm q
 cases q
 obtain⟨p,m1,A1,h1,h2,h3,h4⟩:=h A m c B v2 v w E _ _ q1
 obtain⟨sq,z1,z2⟩:=itV_dt h4 q2
 exact⟨sq,m1,A1,by unfold iAny;rw [h1];simp only [zob];rw [z1];rfl,h2,h3,z2⟩
def rangeD (lo:Int)(n:Nat):List DV:=(List.range n).map fun(i:Nat)=>DV.int (lo+i)
theorem d2_range {A:Nat→Prop}{m:Mem}(lo:Int)(n:Nat):D2L T A m (rangeD lo n) (rangeP lo n):=by
 unfold rangeD rangeP
 induction List.range n with
 | nil=>exact .nil
 | cons i is ih=>exact .cons (by rw [D2]) ih
def jRg1 (a:E2):I2:=fun v c=>(a v c).bind fun r=>match r.1 with
 | .int j=>if -(2 ^ 62)≤j∧j<2 ^ 62 then some (rangeD 0 j.toNat,r.2) else none
 | _=>none
def jRg2 (a b:E2):I2:=fun v c=>(a v c).bind fun r=>(b v r.2).bind fun s=>match r.1,s.1 with
 | .int i,.int j=>if -(2 ^ 62)≤i∧i<2 ^ 62 ∧ -(2 ^ 62)≤j∧j<2 ^ 62 then some (rangeD i (j-i).toNat,s.2) else none
 | _,_=>none
theorem si_rg1 (h:SX T a2 a):SI T (jRg1 a2) (iRg (Ac a An)):=fun A m c B v2 v w E r c' q=>by
 obtain⟨⟨d,c1⟩,q1,q⟩:=zbm q
 obtain⟨p,m1,A1,h1,h2,h3,h4⟩:=h A m c B v2 v w E _ _ q1
 cases d with
 | int j=>
  simp only at q
  split at q
  ·rename_i hj
   cases q
   rw [d2_int] at h4
   subst h4
   exact⟨⟨rangeP 0 j.toNat,[]⟩,m1,A1,by unfold iRg Ac An;rw [h1];simp only [zob,rngG];rw [if_pos hj];rfl,h2,h3,d2_range _ _,rfl,nofun⟩
  ·cases q
 | _=>cases q
def enD:Nat→List DV→List DV
 | _,[]=>[]
 | i,d::ds=>.tup [.int i,d]::enD (i+1) ds
theorem d2_en {A:Nat→Prop}{m:Mem}:∀(i:Nat) {ds:List DV} {ps:List PV},D2L T A m ds ps→D2L T A m (enD i ds) (enP i ps)
 | i,[],ps,h=>by rw [h.inv0];exact .nil
 | i,d::ds,ps,h=>by
  obtain⟨p,r,rfl,h1,h2⟩:=h.inv
  exact .cons (d2_tup.mpr ⟨_,rfl,.cons (by rw [D2]) (.one h1)⟩) (d2_en (i+1) h2)
def itS:DV→Option (List DV)
 | .lst ds=>some ds
 | .tup ds=>some ds
 | _=>none
def jEn (a:E2):I2:=fun v c=>(a v c).bind fun r=>(itS r.1).map fun ds=>(enD 0 ds,r.2)
theorem itS_d2 {A:Nat→Prop}{m:Mem}{d:DV}{p:PV}{ds:List DV}(h:D2 T A m d p)(e:itS d=some ds):∃sq,seqQ p m=some sq∧D2L T A m ds sq.items∧okG sq.guard m=true∧∀g∈sq.guard,A g.1:=by
 cases d with
 | lst es=>
  cases e
  rw [D2] at h
  obtain⟨k,ps,rfl,a,g,h⟩:=h
  refine⟨⟨ps,[(k,.lst ps)]⟩,?_,h,?_,fun q hq=>?_⟩
  ·show sqOf (.ref k) m=_
   unfold sqOf
   simp only [g]
  ·rw [okG_1];exact zdt g
  ·rw [List.mem_singleton] at hq
   subst hq
   exact a
 | tup es=>
  cases e
  obtain⟨ps,rfl,h'⟩:=d2_tup.mp h
  exact⟨⟨ps,[]⟩,rfl,h',rfl,nofun⟩
 | _=>cases e
theorem si_en (h:SX T a2 a):SI T (jEn a2) (iEnX (Ac a An)):=fun A m c B v2 v w E r c' q=>by
 obtain⟨⟨d,c1⟩,q1,q⟩:=zbm q
 obtain⟨ds,q2,q⟩:=zmm q
 cases q
 obtain⟨p,m1,A1,h1,h2,h3,h4⟩:=h A m c B v2 v w E _ _ q1
 obtain⟨sq,z1,z2,z3,z4⟩:=itS_d2 h4 q2
 exact⟨⟨enP 0 sq.items,sq.guard⟩,m1,A1,by unfold iEnX Ac An;rw [h1];simp only [zob,enX];rw [z1];rfl,h2,h3,d2_en 0 z2,z3,z4⟩
def zipD:List DV→List DV→List DV
 | a::as,b::bs=>.tup [a,b]::zipD as bs
 | _,_=>[]
theorem d2_zip {A:Nat→Prop}{m:Mem}:∀ {ds es:List DV} {ps qs:List PV},D2L T A m ds ps→D2L T A m es qs→D2L T A m (zipD ds es) ((ps.zip qs).map fun z=>.tup [z.1,z.2])
 | [],es,ps,qs,h,h'=>by rw [h.inv0];exact .nil
 | d::ds,[],ps,qs,h,h'=>by rw [h'.inv0];simp only [List.zip_nil_right];exact .nil
 | d::ds,e::es,ps,qs,h,h'=>by
  obtain⟨p,r,rfl,h1,h2⟩:=h.inv
  obtain⟨q,s,rfl,h3,h4⟩:=h'.inv
  exact .cons (d2_tup.mpr ⟨_,rfl,.cons h1 (.one h3)⟩) (d2_zip h2 h4)
def jZp (a b:E2):I2:=fun v c=>(a v c).bind fun r=>(b v r.2).bind fun s=>(itS r.1).bind fun ds=>(itS s.1).map fun es=>(zipD ds es,s.2)
theorem si_zp (h:SX T a2 a)(h':SX T b2 b):SI T (jZp a2 b2) (iZx' (Ac a (Ac b An))):=fun A m c B v2 v w E r c' q=>by
 obtain⟨⟨d,c1⟩,q1,q⟩:=zbm q
 obtain⟨⟨e,c2⟩,q2,q⟩:=zbm q
 obtain⟨ds,q3,q⟩:=zbm q
 obtain⟨es,q4,q⟩:=zmm q
 cases q
 obtain⟨p,m1,A1,h1,h2,h3,h4⟩:=h A m c B v2 v w E _ _ q1
 obtain⟨p',m2,A2,h5,h6,h7,h8⟩:=h' A1 m1 _ B v2 v h3 (E.x w h2) _ _ q2
 obtain⟨sq,z1,z2,z3,z4⟩:=itS_d2 (h4.x h3 h6) q3
 obtain⟨sq',y1,y2,y3,y4⟩:=itS_d2 h8 q4
 refine⟨⟨(sq.items.zip sq'.items).map fun z=>.tup [z.1,z.2],sq.guard++sq'.guard⟩,m2,A2,?_,h2.trans h6,h7,d2_zip z2 y2,okG_append.mpr ⟨z3,y3⟩,fun g hg=>(zma hg).elim (z4 g) (y4 g)⟩
 unfold iZx'
 simp only [Ac,An]
 rw [h1]
 simp only [zob]
 rw [h5]
 simp only [zob,zipX]
 rw [z1]
 simp only [zob]
 rw [y1]
 rfl
def SP (T:Tk)(g2:P2)(g:Px):Prop:=∀A m B v2 v d p,EnvR T A m B v2 v→D2 T A m d p→∀v2',g2 d v2=some v2'→∃v',g p v=some v'∧EnvR T A m B v2' v'
def qNm (i:Nat):P2:=fun d v=>some (v.set i (some (.v d)))
def qTp (n:Nat)(g:Ps2):P2:=fun d v=>match d with
 | .tup ds=>if ds.length=n then g ds v else none
 | _=>none
def qNil:Ps2:=fun ds v=>match ds with
 | []=>some v
 | _=>none
def qCons (g:P2)(r:Ps2):Ps2:=fun ds v=>match ds with
 | d::es=>(g d v).bind fun e=>r es e
 | []=>none
theorem sp_nm {i:Nat}:SP T (qNm i) (pNm i):=fun A m B v2 v d p E D v2' q=>by
 cases q
 exact⟨_,rfl,E.set i D⟩
def lcW (g:P2)(tt:T2)(te:E2)(v:Env2):List DV→Cs→Option (List DV×Cs)
 | [],c=>some ([],c)
 | d::ds,c=>(g d v).bind fun v'=>(tt v' c).bind fun r=>if r.1=true then(te v' r.2).bind fun s=>(lcW g tt te v ds s.2).map fun o=>(s.1::o.1,o.2) else lcW g tt te v ds r.2
def yLc (vs:List Nat)(it:I2)(g:P2)(tt:T2)(te:E2):E2:=fun v c=>(it v c).bind fun r=>if r.1.length≤sizeLine then(lcW g tt te (wipe2 v vs) r.1 r.2).map fun o=>(.lst o.1,o.2) else none
theorem EnvR.put {A:Nat→Prop}{m:Mem}{B D:Nat}{ob:Ob}{v2:Env2}{v:Rf.Env}(h:EnvR T A m B v2 v)(nD:¬A D)(own:∀(j:Nat)(es:List DV),v2[j]?=some (some (.o es))→v[j]?≠some (some (.ref D))):EnvR T A (m.set D ob) B v2 v:=by
 have fixA:∀j,A j→(m.set D ob)[j]?=m[j]?:=fun j a=>zsn fun(z:D=j)=>nD (z▸a)
 refine⟨h.len,fun i s q=>?_,h.inj⟩
 obtain⟨p,a,b⟩:=h.ok i s q
 refine⟨p,a,?_⟩
 cases s with
 | v d=>exact D2.mono (fun _ h=>h) fixA _ _ b
 | o es=>
  obtain⟨k,qs,rfl,hk,a',n,g,r⟩:=b
  refine⟨k,qs,rfl,hk,a',n,?_,D2L.mono (fun _ h=>h) fixA _ _ r⟩
  rw [zsn fun z=>own i es q (by rw [z];exact a)]
  exact g
theorem WF.put {A:Nat→Prop}{m:Mem}{c:Cs}{D:Nat}{ob:Ob}(w:WF T A m c)(nD:¬A D)(hD:D≠T.c):WF T A (m.set D ob) c:=
 ⟨by rw [zsn hD];exact w.at_,by rw [zsn fun(z:D=T.j)=>nD (z▸w.jA)];exact w.cells,w.nA,w.jA,fun j a=>by rw [List.length_set];exact w.lt j a⟩
theorem lc_sim {g2:P2}{g:Px}{t2:T2}{t:Tx}{e2:E2}{e:Ex}(hg:SP T g2 g)(ht:ST T t2 t)(he:SX T e2 e){B:Nat}{gd:List (Nat×Ob)}{D:Nat}{v2:Env2}{v:Rf.Env}(hD:D≠T.c)(hgd:∀q∈gd,q.1≠T.c∧q.1<D)
  (own:∀(j:Nat) (es:List DV),v2[j]?=some (some (.o es))→v[j]?≠some (some (.ref D))):
  ∀(ds:List DV) (A:Nat→Prop) (m:Mem) (c:Cs) (items acc:List PV) (as:List DV),WF T A m c→EnvR T A m B v2 v→D2L T A m ds items→D2L T A m as acc→¬A D→m[D]?=some (.lst acc)→okG gd m=true→acc.length+ds.length≤sizeLine→∀out c',lcW g2 t2 e2 v2 ds c=some (out,c')→
  ∃ps m' A',lcLP g t e gd D v items m acc=some (ps,m')∧m.length≤m'.length∧(∀k,k<m.length→k≠T.c→k≠D→m'[k]?=m[k]?)∧(∀k,A k→A' k)∧(∀k,k<m.length→A' k→A k)∧WF T A' m' c'∧m'[D]?=some (.lst ps)∧D2L T A' m' (as++out) ps
 | [],A,m,c,items,acc,as,w,E,Di,Da,nD,gD,kg,hl,out,c',q=>by
  cases q
  rw [Di.inv0,List.append_nil]
  exact⟨acc,m,A,rfl,znr _,fun _ _ _ _=>rfl,fun _ h=>h,fun _ _ h=>h,w,gD,Da⟩
 | d::ds,A,m,c,items,acc,as,w,E,Di,Da,nD,gD,kg,hl,out,c',q=>by
  obtain⟨p,ps,rfl,D1,Dr⟩:=Di.inv
  unfold lcW at q
  obtain⟨v2',q1,q⟩:=zbm q
  obtain⟨⟨k,c1⟩,q2,q⟩:=zbm q
  obtain⟨v',g1,E1⟩:=hg A m B v2 v d p E D1 v2' q1
  obtain⟨m1,A1,h1,h2,h3⟩:=ht A m c B v2' v' w E1 _ _ q2
  have lD:D<m.length:=lt_of gD
  have keepG:∀ {A0 A1:Nat→Prop} {m0 m1:Mem},Xt T A0 m0 A1 m1→D<m0.length→okG gd m0=true→okG gd m1=true:=fun x l k=>by
   unfold okG at k ⊢
   rw [List.all_eq_true] at k ⊢
   intro q hq
   obtain⟨n1,n2⟩:=hgd q hq
   have:=of_decide_eq_true (k q hq)
   exact zdt ((x.old q.1 (Nat.lt_trans n2 l) n1).trans this)
  rw [zlc] at hl
  have gD1:m1[D]?=some (.lst acc):=(h2.old D lD hD).trans gD
  have kg1:=keepG h2 lD kg
  split at q
  ·rename_i hk
   obtain⟨⟨s,c2⟩,q3,q⟩:=zbm q
   obtain⟨⟨o,c3⟩,q4,q⟩:=zmm q
   cases q
   obtain⟨pe,m2,A2,h4,h5,h6,h7⟩:=he A1 m1 c1 B v2' v' h3 (E1.x w h2) _ _ q3
   have x:=h2.trans h5
   have gD2:m2[D]?=some (.lst acc):=(x.old D lD hD).trans gD
   have nD2:¬A2 D:=fun z=>nD (x.dn D lD z)
   have lD2:D<m2.length:=lt_of gD2
   have kg2:=keepG x lD kg
   have fixA:∀j,A2 j→(m2.set D (.lst (acc++[pe])))[j]?=m2[j]?:=fun j a=>zsn fun(z:D=j)=>nD2 (z▸a)
   have monoL:∀(d:List DV) (p:List PV),D2L T A2 m2 d p→D2L T A2 (m2.set D (.lst (acc++[pe]))) d p:=D2L.mono (fun _ h=>h) fixA
   have hal:acc.length<sizeLine:=by omega
   obtain⟨ps',m3,A3,r1,r2,r3,r4,r5,r6,r7,r8⟩:=lc_sim hg ht he hD hgd own ds A2 (m2.set D (.lst (acc++[pe]))) c2 ps (acc++[pe]) (as++[s]) (h6.put nD2 hD) ((E.x w x).put nD2 own) (monoL _ _ (Dr.x w x)) (monoL _ _ ((Da.x w x).append (.one h7))) nD2
    (by rw [zss lD2]) (okG_set kg2 fun q hq=>(hgd q hq).2) (by simp;omega) o _ q4
   rw [List.length_set] at r2 r3 r5
   refine⟨ps',m3,A3,?_,znt x.le r2,fun j l n n'=>?_,fun j a=>r4 j (x.up j a),fun j l a=>x.dn j l (r5 j (Nat.lt_of_lt_of_le l x.le) a),r6,r7,by rw [List.append_assoc] at r8;exact r8⟩
   ·unfold lcLP
    rw [g1]
    simp only [zob]
    rw [h1]
    simp only [zob]
    rw [if_pos hk,h4]
    simp only [zob]
    rw [if_pos ⟨kg2,gD2,hal⟩]
    exact r1
   ·rw [r3 j (Nat.lt_of_lt_of_le l x.le) n n',zsn (Ne.symm n')]
    exact x.old j l n
  ·rename_i hk
   obtain⟨ps',m3,A3,r1,r2,r3,r4,r5,r6,r7,r8⟩:=lc_sim hg ht he hD hgd own ds A1 m1 c1 ps acc as h3 (E.x w h2) (Dr.x w h2) (Da.x w h2) (fun z=>nD (h2.dn D lD z)) gD1 kg1 (by omega) out _ q
   refine⟨ps',m3,A3,?_,znt h2.le r2,fun j l n n'=>(r3 j (Nat.lt_of_lt_of_le l h2.le) n n').trans (h2.old j l n),fun j a=>r4 j (h2.up j a),fun j l a=>h2.dn j l (r5 j (Nat.lt_of_lt_of_le l h2.le) a),r6,r7,r8⟩
   unfold lcLP
   rw [g1]
   simp only [zob]
   rw [h1]
   simp only [zob]
   rw [if_neg hk,if_pos ⟨kg1,gD1⟩]
   exact r1
theorem sf_lc {vs:List Nat}{i2:I2}{i:Ix}{g2:P2}{g:Px}{t2:T2}{t:Tx}{e2:E2}{e:Ex}(hi:SIp T i2 i)(hg:SP T g2 g)(ht:ST T t2 t)(he:SX T e2 e):SXf T (yLc vs i2 g2 t2 e2) (xLcP vs i g t e):=fun A m c B v2 v w E r c' q=>by
 obtain⟨⟨ds,c1⟩,q1,q⟩:=zbm q
 split at q
 ·rename_i hl
  obtain⟨⟨o,c2⟩,q2,q⟩:=zmm q
  cases q
  obtain⟨sq,m1,A1,h1,h2,h3,h4,h5,h6⟩:=hi A m c B v2 v w E _ _ q1
  have E1:=(E.x w h2).wipe vs
  have x0:Xt T A1 m1 A1 (m1++[.lst []]):=.app h3.lt
  have w0:=h3.app (.lst [])
  have hD:m1.length≠T.c:=fun z=>absurd (lt_of h3.at_) (by rw [←z];exact Nat.lt_irrefl _)
  have own:∀(j:Nat) (es:List DV),(wipe2 v2 vs)[j]?=some (some (.o es))→(wipeE v vs)[j]?≠some (some (.ref m1.length)):=fun j es q z=>by
   obtain⟨p,a,k,qs,rfl,_,_,_,g',_⟩:=E1.ok j _ q
   rw [a] at z
   cases z
   exact absurd (lt_of g') (Nat.lt_irrefl _)
  obtain⟨ps,m2,A2,r1,r2,r3,r4,r5,r6,r7,r8⟩:=lc_sim hg ht he (gd:=sq.guard) (D:=m1.length) hD h6 own ds A1 (m1++[.lst []]) c1 sq.items [] [] w0 (E1.x h3 x0) (h4.x h3 x0) .nil (fun a=>absurd (h3.lt _ a) (Nat.lt_irrefl _)) (by simp) (okG_app h5) (by simpa using hl) o _ q2
  simp only [zla,zlc,List.length_nil] at r2 r3 r5
  have nD:¬A2 m1.length:=fun a=>absurd (h3.lt _ (r5 _ (by omega) a)) (Nat.lt_irrefl _)
  refine⟨.ref m1.length,m2,A2,?_,h2.trans ⟨by omega,fun k l n=>?_,r4,fun k l a=>r5 k (by omega) a⟩,r6,o,m1.length,ps,rfl,rfl,h2.le,nD,hD,r7,by simpa using r8⟩
  ·unfold xLcP
   rw [h1]
   simp only [zob]
   rw [if_pos ⟨h5,fun q hq=>(h6 q hq).2⟩,r1]
   rfl
  ·rw [r3 k (by omega) n (by omega),zgl l]
 ·cases q
end
def rNx:S2:=fun v c=>some (.nx,v,c)
def rBk:S2:=fun v c=>some (.bk,v,c)
def rCt:S2:=fun v c=>some (.ct,v,c)
def rSq (a b:S2):S2:=fun v c=>(a v c).bind fun r=>match r.1 with
 | .nx=>b r.2.1 r.2.2
 | _=>some r
def rEx (a:E2):S2:=fun v c=>(a v c).bind fun r=>some (.nx,v,r.2)
def rRt (a:E2):S2:=fun v c=>(a v c).bind fun r=>some (.rt r.1,v,r.2)
def rRn:S2:=fun v c=>some (.rt .non,v,c)
def rRo (i:Nat):S2:=fun v c=>match v[i]? with
 | some (some (.o ds))=>some (.rt (.lst ds),v,c)
 | _=>none
def rIf (t:T2)(a b:S2):S2:=fun v c=>(t v c).bind fun r=>if r.1=true then a v r.2 else b v r.2
def rAs (i:Nat)(a:E2):S2:=fun v c=>(a v c).bind fun r=>some (.nx,v.set i (some (.v r.1)),r.2)
def rAo (i:Nat)(a:E2):S2:=fun v c=>(a v c).bind fun r=>match r.1 with
 | .lst ds=>some (.nx,v.set i (some (.o ds)),r.2)
 | _=>none
def rAp (g:P2)(a:E2):S2:=fun v c=>(a v c).bind fun r=>(g r.1 v).map fun v'=>(.nx,v',r.2)
def rFz (i:Nat):S2:=fun v c=>match v[i]? with
 | some (some (.o ds))=>some (.nx,v.set i (some (.v (.lst ds))),c)
 | _=>some (.nx,v,c)
def rSi (i:Nat)(k a:E2):S2:=fun v c=>(a v c).bind fun r=>(k v r.2).bind fun s=>match v[i]?,s.1 with
 | some (some (.o ds)),.int z=>(ixN ds.length z).map fun j=>(.nx,v.set i (some (.o (ds.set j r.1))),s.2)
 | _,_=>none
def rAe (i:Nat)(a:E2):S2:=fun v c=>(a v c).bind fun r=>match v[i]? with
 | some (some (.o ds))=>if ds.length<sizeLine then some (.nx,v.set i (some (.o (ds++[r.1]))),r.2) else none
 | _=>none
def rAu (i:Nat)(a:E2):S2:=fun v c=>match v[i]? with
 | some (some (.v (.int x)))=>(a v c).bind fun r=>match r.1 with
  | .int y=>some (.nx,v.set i (some (.v (.int (x+y)))),r.2)
  | _=>none
 | _=>none
def forW (g:P2)(b:S2):List DV→Env2→Cs→Option (Fl2×Env2×Cs)
 | [],v,c=>some (.nx,v,c)
 | d::ds,v,c=>(g d v).bind fun v'=>(b v' c).bind fun s=>match s.1 with
  | .nx=>forW g b ds s.2.1 s.2.2
  | .ct=>forW g b ds s.2.1 s.2.2
  | .bk=>some (.nx,s.2)
  | .rt _=>some s
def rFor (it:I2)(g:P2)(b:S2):S2:=fun v c=>(it v c).bind fun r=>forW g b r.1 v r.2
section
variable {T:Tk}{φ:Bool}{a2 b2 e2:E2}{a b e:Ex}{t2:T2}{t:Tx}{sa2 sb2:S2}{sa sb:Sx}
theorem ss_nx:SS T φ rNx sNx:=fun A m c B v2 v w E hB f2 v2' c' q=>by
 cases q
 exact⟨.nx,v,m,A,rfl,.refl,w,E,rfl⟩
theorem ss_ct:SS T φ rCt sCt:=fun A m c B v2 v w E hB f2 v2' c' q=>by
 cases q
 exact⟨.ct,v,m,A,rfl,.refl,w,E,rfl⟩
theorem ss_sq (h:SS T φ sa2 sa)(h':SS T φ sb2 sb):SS T φ (rSq sa2 sb2) (sSq sa sb):=fun A m c B v2 v w E hB f2 v2' c' q=>by
 obtain⟨⟨f,v1,c1⟩,q1,q⟩:=zbm q
 obtain⟨g,u,m1,A1,h1,h2,h3,h4,h5⟩:=h A m c B v2 v w E hB _ _ _ q1
 cases f with
 | nx=>
  obtain rfl:g=.nx:=h5
  obtain⟨g',u',m2,A2,h6,h7,h8,h9,h10⟩:=h' A1 m1 c1 B v1 u h3 h4 (znt hB h2.le) _ _ _ q
  exact⟨g',u',m2,A2,by unfold sSq;rw [h1];exact h6,h2.trans h7,h8,h9,h10⟩
 | bk=>
  obtain rfl:g=.bk:=h5
  cases q
  exact⟨.bk,u,m1,A1,by unfold sSq;rw [h1];rfl,h2,h3,h4,rfl⟩
 | ct=>
  obtain rfl:g=.ct:=h5
  cases q
  exact⟨.ct,u,m1,A1,by unfold sSq;rw [h1];rfl,h2,h3,h4,rfl⟩
 | rt d=>
  cases q
  obtain⟨p,rfl,k⟩:=h5
  exact⟨.rt p,u,m1,A1,by unfold sSq;rw [h1];rfl,h2,h3,h4,p,rfl,k⟩
theorem ss_rt (h:SX T a2 a):SS T false (rRt a2) (sRt a):=fun A m c B v2 v w E hB f2 v2' c' q=>by
 obtain⟨⟨d,c1⟩,q1,q⟩:=zbm q
 cases q
 obtain⟨p,m1,A1,h1,h2,h3,h4⟩:=h A m c B v2 v w E _ _ q1
 exact⟨.rt p,v,m1,A1,by unfold sRt;rw [h1];rfl,h2.s w hB,h3,E.x w h2,p,rfl,by rw [if_neg Bool.false_ne_true];exact h4⟩
theorem ss_rtf (h:SXf T a2 a):SS T true (rRt a2) (sRt a):=fun A m c B v2 v w E hB f2 v2' c' q=>by
 obtain⟨⟨d,c1⟩,q1,q⟩:=zbm q
 cases q
 obtain⟨p,m1,A1,h1,h2,h3,ds,k,ps,e1,e2,hk,h4⟩:=h A m c B v2 v w E _ _ q1
 exact⟨.rt p,v,m1,A1,by unfold sRt;rw [h1];rfl,h2.s w hB,h3,E.x w h2,p,rfl,by rw [if_pos rfl];exact⟨ds,k,ps,e1,e2,znt hB hk,h4⟩⟩
theorem ss_ro {i:Nat}:SS T true (rRo i) (sRt (Xv i)):=fun A m c B v2 v w E hB f2 v2' c' q=>by
 unfold rRo at q
 split at q
 ·rename_i ds hd
  cases q
  obtain⟨p,h1,k,ps,rfl,hk,a,n,g,r⟩:=E.ok i _ hd
  have er:sRt (Xv i) v m=some (.rt (.ref k),v,m):=by unfold sRt Xv;rw [h1];rfl
  exact⟨_,v,m,A,er,.refl,w,E,_,rfl,by rw [if_pos rfl];exact⟨ds,k,ps,rfl,rfl,hk,a,n,g,r⟩⟩
 ·cases q
theorem ss_if (ht:ST T t2 t)(ha:SS T φ sa2 sa)(hb:SS T φ sb2 sb):SS T φ (rIf t2 sa2 sb2) (sIf t sa sb):=fun A m c B v2 v w E hB f2 v2' c' q=>by
 obtain⟨⟨d,c1⟩,q1,q⟩:=zbm q
 obtain⟨m1,A1,h1,h2,h3⟩:=ht A m c B v2 v w E _ _ q1
 have hB1:=znt hB h2.le
 split at q
 ·rename_i z
  obtain⟨f,v',m2,A2,h4,h5,h6⟩:=ha A1 m1 c1 B v2 v h3 (E.x w h2) hB1 _ _ _ q
  exact⟨f,v',m2,A2,by unfold sIf;rw [h1];simp only [zob];rw [if_pos z];exact h4,(h2.s w hB).trans h5,h6⟩
 ·rename_i z
  obtain⟨f,v',m2,A2,h4,h5,h6⟩:=hb A1 m1 c1 B v2 v h3 (E.x w h2) hB1 _ _ _ q
  exact⟨f,v',m2,A2,by unfold sIf;rw [h1];simp only [zob];rw [if_neg z];exact h4,(h2.s w hB).trans h5,h6⟩
theorem ss_as {i:Nat}(h:SX T a2 a):SS T φ (rAs i a2) (sAs a (gNm i)):=fun A m c B v2 v w E hB f2 v2' c' q=>by
 obtain⟨⟨d,c1⟩,q1,q⟩:=zbm q
 cases q
 obtain⟨p,m1,A1,h1,h2,h3,h4⟩:=h A m c B v2 v w E _ _ q1
 exact⟨.nx,v.set i (some p),m1,A1,by unfold sAs;rw [h1];rfl,h2.s w hB,h3,(E.x w h2).set i h4,rfl⟩
theorem ss_ao {i:Nat}(h:SXf T a2 a):SS T φ (rAo i a2) (sAs a (gNm i)):=fun A m c B v2 v w E hB f2 v2' c' q=>by
 obtain⟨⟨d,c1⟩,q1,q⟩:=zbm q
 obtain⟨p,m1,A1,h1,h2,h3,ds,k,ps,e1,rfl,hk,a,n,g,r⟩:=h A m c B v2 v w E _ _ q1
 subst e1
 cases q
 refine⟨.nx,v.set i (some (.ref k)),m1,A1,by unfold sAs;rw [h1];rfl,h2.s w hB,h3,(E.x w h2).setO i (znt hB hk) a n g r fun j es _ q z=>?_,rfl⟩
 obtain⟨p,z1,k',qs,e',_,_,_,g',_⟩:=E.ok j _ q
 rw [z1] at z
 cases z
 cases e'
 exact absurd (lt_of g') (by omega)
def SG (T:Tk)(g2:P2)(g:Gx):Prop:=∀A m B v2 v d p,EnvR T A m B v2 v→D2 T A m d p→∀v2',g2 d v2=some v2'→∃v',g p v m=some (v',m)∧EnvR T A m B v2' v'
def SGs (T:Tk)(g2:Ps2)(g:Gxs):Prop:=∀A m B v2 v ds ps,EnvR T A m B v2 v→D2L T A m ds ps→∀v2',g2 ds v2=some v2'→∃v',g ps v m=some (v',m)∧EnvR T A m B v2' v'
theorem sg_nm {i:Nat}:SG T (qNm i) (gNm i):=fun A m B v2 v d p E D v2' q=>by
 cases q
 exact⟨_,rfl,E.set i D⟩
theorem sg_sq {n:Nat}{g2:Ps2}{g:Gxs}(h:SGs T g2 g):SG T (qTp n g2) (gSq n g):=fun A m B v2 v d p E D v2' q=>by
 cases d with
 | tup ds=>
  obtain⟨ps,rfl,D'⟩:=d2_tup.mp D
  simp only [qTp] at q
  split at q
  ·rename_i hl
   obtain⟨v',h1,h2⟩:=h A m B v2 v ds ps E D' v2' q
   exact⟨v',by simp only [gSq];rw [if_pos (by rw [D'.length];exact hl)];exact h1,h2⟩
  ·cases q
 | _=>cases q
theorem sgs_nil:SGs T qNil gsNil:=fun A m B v2 v ds ps E D v2' q=>by
 cases ds with
 | nil=>
  cases q
  rw [D.inv0]
  exact⟨_,rfl,E⟩
 | cons _ _=>cases q
theorem sgs_cons {g2:P2}{g:Gx}{r2:Ps2}{r:Gxs}(h:SG T g2 g)(h':SGs T r2 r):SGs T (qCons g2 r2) (Gsc g r):=fun A m B v2 v ds ps E D v2' q=>by
 cases ds with
 | nil=>cases q
 | cons d ds=>
  obtain⟨p,rs,rfl,D1,D2'⟩:=D.inv
  obtain⟨e,q1,q2⟩:=zbm (show(g2 d v2).bind (fun e=>r2 ds e)=some v2' from q)
  obtain⟨v1,h1,h2⟩:=h A m B v2 v d p E D1 e q1
  obtain⟨v3,h3,h4⟩:=h' A m B e v1 ds rs h2 D2' v2' q2
  exact⟨v3,by simp only [Gsc];rw [h1];exact h3,h4⟩
theorem own_set {A:Nat→Prop}{m:Mem}{c:Cs}{B i k:Nat}{v2:Env2}{v:Rf.Env}{ds es:List DV}{qs:List PV}(w:WF T A m c)(E:EnvR T A m B v2 v)(hd:v2[i]?=some (some (.o ds)))(hv:v[i]?=some (some (.ref k)))(r:D2L T A m es qs):
  Xs T B A m A (m.set k (.lst qs))∧WF T A (m.set k (.lst qs)) c∧EnvR T A (m.set k (.lst qs)) B (v2.set i (some (.o es))) v:=by
 obtain⟨p,h1,k',ps,rfl,hk,a,n,g,_⟩:=E.ok i _ hd
 rw [hv] at h1
 cases h1
 have fixA:∀j,A j→(m.set k (.lst qs))[j]?=m[j]?:=fun j a'=>zsn fun(z:k=j)=>a (z▸a')
 have x:Xs T B A m A (m.set k (.lst qs)):=⟨by simp,fun j l _=>zsn (by omega),fixA,fun _ h=>h,fun _ _ h=>h⟩
 refine⟨x,w.put a n,?_⟩
 have hl:i<v2.length:=(zge hd).1
 have lk:=lt_of g
 refine⟨by simp [E.len],fun j s q=>?_,fun j j' ds' es' k' e1 e2 e3 e4=>?_⟩
 ·by_cases hj:j=i
  ·subst hj
   rw [zss hl] at q
   cases q
   exact⟨_,hv,k,qs,rfl,hk,a,n,by rw [zss lk],D2L.mono (fun _ h=>h) fixA _ _ r⟩
  ·rw [zsn (Ne.symm hj)] at q
   obtain⟨p,z1,z2⟩:=E.ok j s q
   refine⟨p,z1,?_⟩
   cases s with
   | v d=>exact D2.mono (fun _ h=>h) fixA _ _ z2
   | o fs=>
    obtain⟨k2,rs,rfl,hk2,a2,n2,g2,r2⟩:=z2
    refine⟨k2,rs,rfl,hk2,a2,n2,?_,D2L.mono (fun _ h=>h) fixA _ _ r2⟩
    rw [zsn fun z=>hj (E.inj j i fs ds k q hd (by rw [z];exact z1) hv)]
    exact g2
 ·have at_:∀(j:Nat) (fs:List DV),(v2.set i (some (.o es)))[j]?=some (some (.o fs))→∃gs,v2[j]?=some (some (.o gs)):=fun j fs q=>by
   by_cases hj:j=i
   ·exact⟨ds,by rw [hj];exact hd⟩
   ·rw [zsn (Ne.symm hj)] at q
    exact⟨fs,q⟩
  obtain⟨g1,q1⟩:=at_ j _ e1
  obtain⟨g2,q2⟩:=at_ j' _ e2
  exact E.inj j j' g1 g2 k' q1 q2 e3 e4
theorem ss_ae {i:Nat}(h:SX T a2 a):SS T φ (rAe i a2) (sEx (xM chkL appG (Xv i) (Ac a An))):=fun A m c B v2 v w E hB f2 v2' c' q=>by
 obtain⟨⟨d,c1⟩,q1,q⟩:=zbm q
 obtain⟨p,m1,A1,h1,h2,h3,h4⟩:=h A m c B v2 v w E _ _ q1
 split at q
 ·rename_i ds hd
  split at q
  ·rename_i hl
   cases q
   obtain⟨p0,z1,k,ps,rfl,hk,a',n,g,r⟩:=E.ok i _ hd
   have g1:m1[k]?=some (.lst ps):=(h2.old k (lt_of g) n).trans g
   obtain⟨x1,x2,x3⟩:=own_set h3 (E.x w h2) hd z1 ((r.x w h2).append (.one h4))
   refine⟨.nx,v,_,A1,?_,(h2.s w hB).trans x1,x2,x3,rfl⟩
   unfold sEx xM Xv
   rw [z1]
   simp only [zob]
   have hc:chkL (.ref k) m=true:=by unfold chkL lstB;simp only [g];rfl
   rw [if_pos hc]
   simp only [Ac,An]
   rw [h1]
   simp only [zob,appG,g1]
   rw [if_pos (by rw [r.length];exact hl)]
   rfl
  ·cases q
 ·cases q
theorem ss_si {i:Nat}{k2:E2}{k:Ex}(hk:SX T k2 k)(h:SX T a2 a):SS T φ (rSi i k2 a2) (sAs a (gIx (Xv i) k)):=fun A m c B v2 v w E hB f2 v2' c' q=>by
 obtain⟨⟨d,c1⟩,q1,q⟩:=zbm q
 obtain⟨⟨d2,c2⟩,q2,q⟩:=zbm q
 obtain⟨p,m1,A1,h1,h2,h3,h4⟩:=h A m c B v2 v w E _ _ q1
 obtain⟨p',m2,A2,h5,h6,h7,h8⟩:=hk A1 m1 c1 B v2 v h3 (E.x w h2) _ _ q2
 have x:=h2.trans h6
 split at q
 ·rename_i ds z hd hz
  obtain⟨j,q3,q⟩:=zmm q
  cases q
  simp only at hz
  subst hz
  rw [d2_int] at h8
  subst h8
  obtain⟨p0,z1,k0,ps,rfl,hk0,a',n,g,r⟩:=E.ok i _ hd
  have g1:m2[k0]?=some (.lst ps):=(x.old k0 (lt_of g) n).trans g
  obtain⟨x1,x2,x3⟩:=own_set h7 (E.x w x) hd z1 ((r.x w x).set j (h4.x h3 h6))
  refine⟨.nx,v,_,A2,?_,(x.s w hB).trans x1,x2,x3,rfl⟩
  unfold sAs gIx Xv
  rw [h1]
  simp only [zob,z1]
  rw [h5]
  simp only [zob,setG,g1]
  rw [r.length,q3]
  rfl
 ·cases q
theorem ss_au {i:Nat}(h:SX T a2 a):SS T φ (rAu i a2) (sAu i incG a):=fun A m c B v2 v w E hB f2 v2' c' q=>by
 unfold rAu at q
 split at q
 ·rename_i x hx
  obtain⟨⟨d,c1⟩,q1,q⟩:=zbm q
  obtain⟨p,m1,A1,h1,h2,h3,h4⟩:=h A m c B v2 v w E _ _ q1
  obtain⟨p0,z1,z2⟩:=E.ok i _ hx
  cases d with
  | int y=>
   cases q
   rw [show p0=.int x from by have:D2 T A m (.int x) p0:=z2;rwa [d2_int] at this] at z1
   rw [d2_int] at h4
   subst h4
   exact⟨.nx,v.set i (some (.int (x+y))),m1,A1,by unfold sAu;simp only [z1];rw [h1];rfl,h2.s w hB,h3,(E.x w h2).set i (by rw [D2]),rfl⟩
  | _=>cases q
 ·cases q
theorem okG_xs {B:Nat}{A A':Nat→Prop}{m m':Mem}{gd:List (Nat×Ob)}(x:Xs T B A m A' m')(h:∀g∈gd,A g.1)(k:okG gd m=true):okG gd m'=true:=by
 unfold okG at k ⊢
 rw [List.all_eq_true] at k ⊢
 intro q hq
 have:=of_decide_eq_true (k q hq)
 exact zdt ((x.fix q.1 (h q hq)).trans this)
theorem for_sim {g2:P2}{g:Gx}(hg:SG T g2 g)(hb:SS T φ sb2 sb){B:Nat}{gd:List (Nat×Ob)}:∀(ds:List DV) (A:Nat→Prop) (m:Mem) (c:Cs) (items:List PV) (v2:Env2) (v:Rf.Env),WF T A m c→EnvR T A m B v2 v→B≤m.length→D2L T A m ds items→okG gd m=true→(∀q∈gd,A q.1)→
  ∀f2 v2' c',forW g2 sb2 ds v2 c=some (f2,v2',c')→∃f v' m' A',forL g sb gd items v m=some (f,v',m')∧Xs T B A m A' m'∧WF T A' m' c'∧EnvR T A' m' B v2' v'∧FlR T φ A' m' B f2 f
 | [],A,m,c,items,v2,v,w,E,hB,D,kg,hgd,f2,v2',c',q=>by
  cases q
  rw [D.inv0]
  exact⟨.nx,v,m,A,rfl,.refl,w,E,rfl⟩
 | d::ds,A,m,c,items,v2,v,w,E,hB,D,kg,hgd,f2,v2',c',q=>by
  obtain⟨p,ps,rfl,D1,Dr⟩:=D.inv
  unfold forW at q
  obtain⟨u2,q1,q⟩:=zbm q
  obtain⟨⟨f,v3,c3⟩,q2,q⟩:=zbm q
  obtain⟨u,g1,E1⟩:=hg A m B v2 v d p E D1 _ q1
  obtain⟨f',v',m1,A1,h1,h2,h3,h4,h5⟩:=hb A m c B u2 u w E1 hB _ _ _ q2
  have kg1:=okG_xs h2 hgd kg
  have hB1:=znt hB h2.le
  have go:forW g2 sb2 ds v3 c3=some (f2,v2',c')→(f'=.nx∨f'=.ct)→∃f v' m' A',forL g sb gd (p::ps) v m=some (f,v',m')∧Xs T B A m A' m'∧WF T A' m' c'∧EnvR T A' m' B v2' v'∧FlR T φ A' m' B f2 f:=fun q e=>by
   obtain⟨f3,v4,m2,A2,r1,r2,r3⟩:=for_sim hg hb ds A1 m1 c3 ps v3 v' h3 h4 hB1 (Dr.xs h2) kg1 (fun q hq=>h2.up _ (hgd q hq)) _ _ _ q
   refine⟨f3,v4,m2,A2,?_,h2.trans r2,r3⟩
   unfold forL
   rw [g1]
   simp only [zob]
   rw [h1]
   rcases e with rfl|rfl<;>(simp only [zob];rw [if_pos kg1];exact r1)
  cases f with
  | nx=>exact go q (.inl h5)
  | ct=>exact go q (.inr h5)
  | bk=>
   cases q
   obtain rfl:f'=.bk:=h5
   exact⟨.nx,v',m1,A1,by unfold forL;rw [g1];simp only [zob];rw [h1];rfl,h2,h3,h4,rfl⟩
  | rt d=>
   cases q
   obtain⟨p',rfl,k⟩:=h5
   exact⟨.rt p',v',m1,A1,by unfold forL;rw [g1];simp only [zob];rw [h1];rfl,h2,h3,h4,p',rfl,k⟩
theorem ss_for {i2:I2}{i:Ix}{g2:P2}{g:Gx}(hi:SI T i2 i)(hg:SG T g2 g)(hb:SS T φ sb2 sb):SS T φ (rFor i2 g2 sb2) (sFor i g sb):=fun A m c B v2 v w E hB f2 v2' c' q=>by
 obtain⟨⟨ds,c1⟩,q1,q⟩:=zbm q
 obtain⟨sq,m1,A1,h1,h2,h3,h4,h5,h6⟩:=hi A m c B v2 v w E _ _ q1
 obtain⟨f,v',m2,A2,r1,r2,r3⟩:=for_sim hg hb ds A1 m1 c1 sq.items v2 v h3 (E.x w h2) (znt hB h2.le) h4 h5 h6 _ _ _ q
 exact⟨f,v',m2,A2,by unfold sFor;rw [h1];simp only [zob];rw [if_pos h5];exact r1,(h2.s w hB).trans r2,r3⟩
def start2 (N:Nat)(ds:List DV):Env2:=ds.map (fun d=>some (.v d))++List.replicate (N-ds.length) none
def fn2 (N:Nat)(b:S2):F2:=fun ds c=>(b (start2 N ds) c).bind fun r=>match r.1 with
 | .nx=>some (.non,r.2.2)
 | .rt d=>some (d,r.2.2)
 | _=>none
def fn2f (N:Nat)(b:S2):F2:=fun ds c=>(b (start2 N ds) c).bind fun r=>match r.1 with
 | .rt d=>some (d,r.2.2)
 | _=>none
theorem start_env {A:Nat→Prop}{m:Mem}{B N:Nat}{ds:List DV}{ps:List PV}(h:D2L T A m ds ps):EnvR T A m B (start2 N ds) (startE N ps):=by
 have no:∀(j:Nat) (es:List DV),(start2 N ds)[j]?≠some (some (.o es)):=fun j es q=>by
  unfold start2 at q
  by_cases hj:j<ds.length
  ·rw [zgl (by simpa using hj)] at q
   simp at q
  ·rw [List.getElem?_append_right (by simpa using Nat.not_lt.mp hj)] at q
   obtain⟨_,e⟩:=zge q
   simp at e
 refine⟨by unfold start2 startE;simp [h.length],fun i s q=>?_,fun j j' es fs k e1=>absurd e1 (no j es)⟩
 unfold start2 at q
 by_cases hi:i<ds.length
 ·rw [zgl (by simpa using hi)] at q
  simp only [List.getElem?_map,Option.map_eq_some_iff] at q
  obtain⟨d,h1,h2⟩:=q
  cases h2
  obtain⟨p,h3,h4⟩:=h.get h1
  refine⟨p,?_,h4⟩
  unfold startE
  rw [zgl (by simp [h.length];exact hi)]
  simp [h3]
 ·rw [List.getElem?_append_right (by simpa using Nat.not_lt.mp hi)] at q
  obtain⟨_,e⟩:=zge q
  simp at e
theorem sf_fn {N:Nat}{s2:S2}{s:Sx}(h:SS T false s2 s):SF T (fn2 N s2) (fnF N s):=fun A m c ds ps w D r c' q=>by
 obtain⟨⟨f,v,c1⟩,q1,q⟩:=zbm q
 obtain⟨f',v',m1,A1,h1,h2,h3,h4,h5⟩:=h A m c m.length _ _ w (start_env D) (znr _) _ _ _ q1
 cases f with
 | nx=>
  cases q
  obtain rfl:f'=.nx:=h5
  exact⟨.non,m1,A1,by unfold fnF;rw [h1];rfl,h2.t,h3,by rw [D2]⟩
 | rt d=>
  cases q
  obtain⟨p,rfl,k⟩:=h5
  rw [if_neg Bool.false_ne_true] at k
  exact⟨p,m1,A1,by unfold fnF;rw [h1];rfl,h2.t,h3,k⟩
 | _=>cases q
theorem sff_fn {N:Nat}{s2:S2}{s:Sx}(h:SS T true s2 s):SFf T (fn2f N s2) (fnF N s):=fun A m c ds ps w D r c' q=>by
 obtain⟨⟨f,v,c1⟩,q1,q⟩:=zbm q
 obtain⟨f',v',m1,A1,h1,h2,h3,h4,h5⟩:=h A m c m.length _ _ w (start_env D) (znr _) _ _ _ q1
 cases f with
 | rt d=>
  cases q
  obtain⟨p,rfl,k⟩:=h5
  rw [if_pos rfl] at k
  exact⟨p,m1,A1,by unfold fnF;rw [h1];rfl,h2.t,h3,k⟩
 | _=>cases q
end
section
variable {T:Tk}{g:PV→Mem→Option (PV×Mem)}{h:PV→PV→Mem→Option (PV×Mem)}
theorem opx_pure {g2:DV→Option DV}(k:∀A m d p r,Dt T A m d p→g2 d=some r→∃p',g p m=some (p',m)∧D2 T A m r p'):OpX g2 g T:=fun A m c d p w D r e=>by
 obtain⟨p',h1,h2⟩:=k A m d p r D e
 exact⟨p',m,A,h1,.refl,w,h2⟩
theorem op2_pure {g2:DV→DV→Option DV}(k:∀A m d p e q r,Dt T A m d p→Dt T A m e q→g2 d e=some r→∃p',h p q m=some (p',m)∧D2 T A m r p'):Op2 g2 h T:=fun A m c d p e q w D E r z=>by
 obtain⟨p',h1,h2⟩:=k A m d p e q r D E z
 exact⟨p',m,A,h1,.refl,w,h2⟩
end
section
variable {T:Tk}
theorem dt_int {A:Nat→Prop}{m:Mem}{i:Int}{p:PV}(h:Dt T A m (.int i) p):p=.int i:=by have h':D2 T A m (.int i) p:=h;rwa [d2_int] at h'
theorem dt_bl {A:Nat→Prop}{m:Mem}{i:Bool}{p:PV}(h:Dt T A m (.bl i) p):p=.bl i:=by have h':D2 T A m (.bl i) p:=h;rwa [d2_bl] at h'
theorem dt_str {A:Nat→Prop}{m:Mem}{i:Str}{p:PV}(h:Dt T A m (.str i) p):p=.str i:=by have h':D2 T A m (.str i) p:=h;rwa [d2_str] at h'
theorem dt_non {A:Nat→Prop}{m:Mem}{p:PV}(h:Dt T A m .non p):p=.non:=by have h':D2 T A m .non p:=h;rwa [d2_non] at h'
theorem dt_tup {A:Nat→Prop}{m:Mem}{ds:List DV}{p:PV}(h:Dt T A m (.tup ds) p):∃ps,p=.tup ps∧D2L T A m ds ps:=d2_tup.mp h
theorem dt_lst {A:Nat→Prop}{m:Mem}{ds:List DV}{p:PV}(h:Dt T A m (.lst ds) p):∃k ps,p=.ref k∧k≠T.c∧k<m.length∧m[k]?=some (.lst ps)∧D2L T A m ds ps:=h
def subV:DV→DV→Option DV
 | .int i,.int j=>some (.int (i-j))
 | _,_=>none
def mulV:DV→DV→Option DV
 | .int i,.int j=>if(-(2 ^ 64)<i∧i<2 ^ 64)∨(-(2 ^ 64)<j∧j<2 ^ 64) then some (.int (i*j)) else none
 | _,_=>none
def divV:DV→DV→Option DV
 | .int i,.int j=>if 0<j∧j<18446744073709551616 then some (.int (i/j)) else none
 | _,_=>none
def modV:DV→DV→Option DV
 | .int i,.int j=>if 0<j then some (.int (i%j)) else none
 | _,_=>none
def negV:DV→Option DV
 | .int i=>some (.int (-i))
 | _=>none
def cmpV (f:Int→Int→Bool):DV→DV→Option DV
 | .int i,.int j=>some (.bl (f i j))
 | _,_=>none
abbrev ltV:=cmpV fun i j=>decide (i<j)
abbrev gtV:=cmpV fun i j=>decide (j<i)
def addV:DV→DV→Option DV
 | .int i,.int j=>some (.int (i+j))
 | .str s,.str t=>if s.length+t.length≤sizeLine then some (.str (s++t)) else none
 | .tup s,.tup t=>if s.length+t.length≤sizeLine then some (.tup (s++t)) else none
 | _,_=>none
def catV:DV→DV→Option DV
 | .lst s,.lst t=>if s.length+t.length≤sizeLine then some (.lst (s++t)) else none
 | _,_=>none
theorem o_sub:Op2 subV subG T:=op2_pure fun A m d p e q r D E z=>by
 cases d with
 | int i=>cases e with
  | int j=>cases z;rw [dt_int D,dt_int E];exact⟨_,rfl,by rw [D2]⟩
  | _=>cases z
 | _=>cases z
theorem o_cmp {f:Int→Int→Bool}:Op2 (cmpV f) (cmpG f) T:=op2_pure fun A m d p e q r D E z=>by
 cases d with
 | int i=>cases e with
  | int j=>cases z;rw [dt_int D,dt_int E];exact⟨_,rfl,by rw [D2]⟩
  | _=>cases z
 | _=>cases z
theorem o_add:Op2 addV addG T:=op2_pure fun A m d p e q r D E z=>by
 cases d with
 | int i=>cases e with
  | int j=>cases z;rw [dt_int D,dt_int E];exact⟨_,rfl,by rw [D2]⟩
  | _=>cases z
 | str i=>cases e with
  | str j=>
   simp only [addV] at z
   split at z
   ·rename_i hb
    cases z
    rw [dt_str D,dt_str E]
    exact⟨_,by simp only [addG];rw [if_pos hb],by rw [D2]⟩
   ·cases z
  | _=>cases z
 | tup i=>cases e with
  | tup j=>
   simp only [addV] at z
   split at z
   ·rename_i hb
    cases z
    obtain⟨ps,rfl,h1⟩:=dt_tup D
    obtain⟨qs,rfl,h2⟩:=dt_tup E
    exact⟨_,by simp only [addG];rw [if_pos (by rw [h1.length,h2.length];exact hb)],d2_tup.mpr ⟨_,rfl,h1.append h2⟩⟩
   ·cases z
  | _=>cases z
 | _=>cases z
theorem o_cat:Op2f catV addG T:=fun A m c d p e q w D E r z=>by
 cases d with
 | lst i=>cases e with
  | lst j=>
   simp only [catV] at z
   split at z
   ·rename_i hb
    cases z
    obtain⟨k,ps,rfl,n1,l1,g1,h1⟩:=dt_lst D
    obtain⟨k',qs,rfl,n2,l2,g2,h2⟩:=dt_lst E
    obtain⟨z1,z2,z3⟩:=fs_new w (h1.append h2)
    exact⟨_,_,A,by simp only [addG,g1,g2];rw [if_pos (by rw [h1.length,h2.length];exact hb)],z1,z2,z3⟩
   ·cases z
  | _=>cases z
 | _=>cases z
mutual
def toDV:DV→Option PyData
 | .non=>some .none
 | .bl b=>some (.bool b)
 | .int i=>some (.int i)
 | .str s=>some (.str s)
 | .tup ds=>(toDVs ds).map PyData.tuple
 | _=>none
def toDVs:List DV→Option (List PyData)
 | []=>some []
 | d::ds=>(toDV d).bind fun x=>(toDVs ds).map fun xs=>x::xs
end
def toDVm:DV→Option PyData
 | .lst ds=>(toDVs ds).map PyData.list
 | d=>toDV d
mutual
theorem toDV_rep {A:Nat→Prop}{m:Mem}:∀(d:DV) (p:PV) (x:PyData),D2 T A m d p→toDV d=some x→toD p=some x
 | .non,p,x,h,e=>by rw [d2_non] at h;rw [h];exact e
 | .bl b,p,x,h,e=>by rw [d2_bl] at h;rw [h];exact e
 | .int b,p,x,h,e=>by rw [d2_int] at h;rw [h];exact e
 | .str b,p,x,h,e=>by rw [d2_str] at h;rw [h];exact e
 | .tup ds,p,x,h,e=>by
  obtain⟨ps,rfl,h'⟩:=d2_tup.mp h
  rw [toDV] at e
  obtain⟨xs,e1,rfl⟩:=zmm e
  rw [toD,toDVs_rep ds ps xs h' e1];rfl
 | .lst _,_,_,_,e=>by cases e
 | .dic _,_,_,_,e=>by cases e
 | .tok,_,_,_,e=>by cases e
theorem toDVs_rep {A:Nat→Prop}{m:Mem}:∀(ds:List DV) (ps:List PV) (xs:List PyData),D2L T A m ds ps→toDVs ds=some xs→toDs ps=some xs
 | [],ps,xs,h,e=>by rw [h.inv0];exact e
 | d::ds,ps,xs,h,e=>by
  obtain⟨p,r,rfl,h1,h2⟩:=h.inv
  rw [toDVs] at e
  obtain⟨x,e1,e⟩:=zbm e
  obtain⟨ys,e2,rfl⟩:=zmm e
  rw [toDs,toDV_rep d p x h1 e1,toDVs_rep ds r ys h2 e2];rfl
end
theorem toDVm_rep {A:Nat→Prop}{m:Mem}{d:DV}{p:PV}{x:PyData}(h:Dt T A m d p)(e:toDVm d=some x):toDm p m=some x:=by
 cases d with
 | lst ds=>
  obtain⟨k,ps,rfl,_,_,g,h⟩:=dt_lst h
  obtain⟨xs,e1,rfl⟩:=zmm (show(toDVs ds).map PyData.list=some x from e)
  simp only [toDm,g]
  rw [toDVs_rep ds ps xs h e1];rfl
 | tup ds=>
  have:=toDV_rep _ p x (show D2 T A m (.tup ds) p from h) e
  obtain⟨ps,rfl,_⟩:=dt_tup h
  exact this
 | non=>rw [dt_non h];exact e
 | bl b=>rw [dt_bl h];exact e
 | int b=>rw [dt_int h];exact e
 | str b=>rw [dt_str h];exact e
 | _=>cases e
def eqVBg (d e:DV):Option Bool:=(toDVm d).bind fun x=>(toDVm e).bind fun y=>if SeqAt.shaped x=true∧SeqAt.shaped y=true then some (PyData.eqv x y) else none
def eqVB:DV→DV→Option Bool
 | .str i,.str j=>some (decide (i=j))
 | d,e=>eqVBg d e
theorem eqB_of {m:Mem}{p q:PV}{x y:PyData}(h1:toDm p m=some x)(h2:toDm q m=some y)(s1:SeqAt.shaped x=true)(s2:SeqAt.shaped y=true):eqB p q m=some (PyData.eqv x y):=by
 unfold eqB
 split
 ·cases h1;cases h2
  simp only [PyData.eqv,Option.some.injEq]
  first|rfl|(rw [Bool.eq_iff_iff];simp)
 ·cases h1;cases h2
  simp only [PyData.eqv,Option.some.injEq]
  first|rfl|(rw [Bool.eq_iff_iff];simp)
 ·cases h1;cases h2
  simp only [PyData.eqv,Option.some.injEq]
  first|rfl|(rw [Bool.eq_iff_iff];simp)
 ·rw [h1,h2]
  simp only [zob]
  rw [if_pos ⟨s1,s2⟩]
def eqV (d e:DV):Option DV:=(eqVB d e).map .bl
def neV (d e:DV):Option DV:=(eqVB d e).map fun k=>.bl (!k)
theorem eqVB_rep {A:Nat→Prop}{m:Mem}{d e:DV}{p q:PV}{k:Bool}(D:Dt T A m d p)(E:Dt T A m e q)(z:eqVB d e=some k):eqB p q m=some k:=by
 unfold eqVB at z
 split at z
 ·rw [dt_str D,dt_str E]
  exact z
 unfold eqVBg at z
 obtain⟨x,e1,z⟩:=zbm z
 obtain⟨y,e2,z⟩:=zbm z
 split at z
 ·rename_i hs
  cases z
  exact eqB_of (toDVm_rep D e1) (toDVm_rep E e2) hs.1 hs.2
 ·cases z
theorem o_eq:Op2 eqV eqG T:=op2_pure fun A m d p e q r D E z=>by
 obtain⟨k,z1,rfl⟩:=zmm z
 exact⟨.bl k,by unfold eqG;rw [eqVB_rep D E z1];rfl,by rw [D2]⟩
theorem o_ne:Op2 neV neG T:=op2_pure fun A m d p e q r D E z=>by
 obtain⟨k,z1,rfl⟩:=zmm z
 exact⟨.bl (!k),by unfold neG;rw [eqVB_rep D E z1];rfl,by rw [D2]⟩
def nonB:DV→Bool
 | .non=>true
 | _=>false
def isNV (d e:DV):Option DV:=match e with
 | .non=>some (.bl (nonB d))
 | _=>none
def notNV (d e:DV):Option DV:=match e with
 | .non=>some (.bl (!nonB d))
 | _=>none
theorem nonB_rep {A:Nat→Prop}{m:Mem}{d:DV}{p:PV}(D:Dt T A m d p):decide (p=.non)=nonB d:=by
 cases d with
 | non=>rw [dt_non D];rfl
 | bl b=>rw [dt_bl D];rfl
 | int b=>rw [dt_int D];rfl
 | str b=>rw [dt_str D];rfl
 | tup ds=>obtain⟨ps,rfl,_⟩:=dt_tup D;rfl
 | lst ds=>obtain⟨k,ps,rfl,_⟩:=dt_lst D;rfl
 | dic kvs=>
  have D:D2 T A m (.dic kvs) p:=D
  rw [D2] at D
  obtain⟨k,rfl,_⟩:=D;rfl
 | dct ks vs=>
  have D:D2 T A m (.dct ks vs) p:=D
  rw [D2] at D
  obtain⟨k,ps,rfl,_⟩:=D;rfl
 | tok=>rw [show p=.ref T.c from by have D:D2 T A m .tok p:=D;rwa [D2] at D];rfl
theorem o_isN:Op2 isNV isNG T:=op2_pure fun A m d p e q r D E z=>by
 cases e with
 | non=>cases z;rw [dt_non E];exact⟨_,rfl,by rw [D2,nonB_rep D]⟩
 | _=>cases z
theorem o_notN:Op2 notNV notNG T:=op2_pure fun A m d p e q r D E z=>by
 cases e with
 | non=>cases z;rw [dt_non E];exact⟨_,rfl,by rw [D2,nonB_rep D]⟩
 | _=>cases z
def flD:DV→Option V
 | .non=>some .non
 | .bl b=>some (.bl b)
 | .int i=>some (.int i)
 | .str s=>some (.str s)
 | _=>none
def flDs:List DV→Option (List V)
 | []=>some []
 | d::ds=>(flD d).bind fun v=>(flDs ds).map fun vs=>v::vs
theorem flD_rep {A:Nat→Prop}{m:Mem}{d:DV}{p:PV}{v:V}(D:Dt T A m d p)(e:flD d=some v):flP p=some v:=by
 cases d with
 | non=>rw [dt_non D];exact e
 | bl b=>rw [dt_bl D];exact e
 | int b=>rw [dt_int D];exact e
 | str b=>rw [dt_str D];exact e
 | _=>cases e
theorem flDs_rep {A:Nat→Prop}{m:Mem}:∀ {ds:List DV} {ps:List PV} {vs:List V},D2L T A m ds ps→flDs ds=some vs→flPs ps=some vs
 | [],ps,vs,D,e=>by rw [D.inv0];exact e
 | d::ds,ps,vs,D,e=>by
  obtain⟨p,r,rfl,h1,h2⟩:=D.inv
  rw [flDs] at e
  obtain⟨v,e1,e⟩:=zbm e
  obtain⟨ws,e2,rfl⟩:=zmm e
  have fl:flP p=some v:=by
   cases d with
   | non=>rw [d2_non] at h1;rw [h1];exact e1
   | bl b=>rw [d2_bl] at h1;rw [h1];exact e1
   | int b=>rw [d2_int] at h1;rw [h1];exact e1
   | str b=>rw [d2_str] at h1;rw [h1];exact e1
   | _=>cases e1
  rw [flPs,fl,flDs_rep h2 e2];rfl
def inVB (d e:DV):Option Bool:=match e with
 | .tup ds=>(flD d).bind fun v=>(flDs ds).map fun vs=>inV v vs
 | .lst ds=>(flD d).bind fun v=>(flDs ds).map fun vs=>inV v vs
 | _=>none
theorem inVB_rep {A:Nat→Prop}{m:Mem}{d e:DV}{p q:PV}{k:Bool}(D:Dt T A m d p)(E:Dt T A m e q)(z:inVB d e=some k):inB p q m=some k:=by
 cases e with
 | tup ds=>
  obtain⟨v,e1,z⟩:=zbm z
  obtain⟨vs,e2,rfl⟩:=zmm z
  obtain⟨ps,rfl,h⟩:=dt_tup E
  unfold inB
  simp only
  rw [flD_rep D e1,flDs_rep h e2];rfl
 | lst ds=>
  obtain⟨v,e1,z⟩:=zbm z
  obtain⟨vs,e2,rfl⟩:=zmm z
  obtain⟨k,ps,rfl,_,_,g,h⟩:=dt_lst E
  unfold inB
  simp only [g]
  rw [flD_rep D e1,flDs_rep h e2];rfl
 | _=>cases z
def inV2 (d e:DV):Option DV:=(inVB d e).map .bl
theorem o_in:Op2 inV2 inG T:=op2_pure fun A m d p e q r D E z=>by
 obtain⟨k,z1,rfl⟩:=zmm z
 exact⟨.bl k,by unfold inG;rw [inVB_rep D E z1];rfl,by rw [D2]⟩
def atD (ds:List DV)(e:DV):Option DV:=match e with
 | .int i=>L2.atI ds i
 | _=>none
def kyD:DV→Option Key
 | .int i=>some (.inl i)
 | .str s=>some (.inr s)
 | _=>none
def valD (kvs:List (Key×Int))(k:Key):Option Int:=(kvs.find? fun q=>decide (q.1=k)).map (·.2)
def strAt (z:Str):DV→Option DV
 | .int i=>if z.length≤sizeLine then(atI z.cps.toList i).map fun c=>.str ⟨#[c]⟩ else none
 | _=>none
def valK:List Key→List DV→Key→Option DV
 | k::ks,v::vs,j=>if k=j then some v else valK ks vs j
 | _,_,_=>none
theorem valK_rep {A:Nat→Prop}{m:Mem}{j:Key}:∀ {ks:List Key} {vs:List DV} {ps:List PV} {d:DV},D2L T A m vs ps→valK ks vs j=some d→∃p,valP (ks.zip ps) j=some p∧D2 T A m d p
 | [],vs,ps,d,_,e=>by cases vs<;>cases e
 | k::ks,[],ps,d,_,e=>by cases e
 | k::ks,v::vs,ps,d,h,e=>by
  obtain⟨p,r,rfl,a,b⟩:=h.inv
  unfold valK at e
  unfold valP
  rw [List.zip_cons_cons,List.find?_cons]
  by_cases z:k=j
  ·rw [if_pos z] at e
   cases e
   exact⟨p,by simp [z],a⟩
  ·rw [if_neg z] at e
   obtain⟨q,h1,h2⟩:=valK_rep b e
   unfold valP at h1
   exact⟨q,by simp [z];simpa using h1,h2⟩
def ixV:DV→DV→Option DV
 | .tup ds,e=>atD ds e
 | .lst ds,e=>atD ds e
 | .dic kvs,e=>(kyD e).bind fun k=>(valD kvs k).map .int
 | .dct ks vs,e=>(kyD e).bind fun k=>valK ks vs k
 | .str z,e=>strAt z e
 | _,_=>none
theorem D2L.atI {A:Nat→Prop}{m:Mem}{ds:List DV}{ps:List PV}{i:Int}{d:DV}(h:D2L T A m ds ps)(e:L2.atI ds i=some d):∃p,L2.atI ps i=some p∧D2 T A m d p:=by
 unfold L2.atI at e ⊢
 rw [h.length]
 cases z:ixN ds.length i with
 | none=>rw [z] at e;cases e
 | some j=>
  rw [z] at e
  exact h.get e
theorem atD_rep {A:Nat→Prop}{m:Mem}{ds:List DV}{ps:List PV}{e d:DV}{q:PV}(h:D2L T A m ds ps)(E:Dt T A m e q)(z:atD ds e=some d):∃p,seqAt ps q m=some (p,m)∧D2 T A m d p:=by
 cases e with
 | int i=>
  rw [dt_int E]
  obtain⟨p,h1,h2⟩:=h.atI z
  exact⟨p,by simp only [seqAt];rw [h1];rfl,h2⟩
 | _=>cases z
theorem valD_rep (k:Key):∀(kvs:List (Key×Int)),valP (kvs.map fun q=>(q.1,PV.int q.2)) k=(valD kvs k).map PV.int
 | []=>rfl
 | q::kvs=>by
  have ih:=valD_rep k kvs
  unfold valP valD at ih ⊢
  rw [zmc,List.find?_cons,List.find?_cons]
  by_cases e:q.1=k
  ·simp [e]
  ·simp only [e,decide_false]
   exact ih
theorem kyD_rep {A:Nat→Prop}{m:Mem}{e:DV}{q:PV}{k:Key}(E:Dt T A m e q)(z:kyD e=some k):keyOf q=some k:=by
 cases e with
 | int i=>rw [dt_int E];exact z
 | str i=>rw [dt_str E];exact z
 | _=>cases z
theorem o_ix:Op2 ixV ixG T:=op2_pure fun A m d p e q r D E z=>by
 cases d with
 | tup ds=>
  obtain⟨ps,rfl,h⟩:=dt_tup D
  obtain⟨p',h1,h2⟩:=atD_rep h E z
  exact⟨p',by simp only [ixG];exact h1,h2⟩
 | lst ds=>
  obtain⟨k,ps,rfl,_,_,g,h⟩:=dt_lst D
  obtain⟨p',h1,h2⟩:=atD_rep h E z
  exact⟨p',by simp only [ixG,g];exact h1,h2⟩
 | dic kvs=>
  have D:D2 T A m (.dic kvs) p:=D
  rw [D2] at D
  obtain⟨k,rfl,_,g⟩:=D
  obtain⟨kk,z1,z⟩:=zbm (show(kyD e).bind (fun k=>(valD kvs k).map DV.int)=some r from z)
  obtain⟨i,z2,rfl⟩:=zmm z
  exact⟨.int i,by simp only [ixG,g];rw [kyD_rep E z1];simp only [zob];rw [valD_rep,z2];rfl,by rw [D2]⟩
 | dct ks vs=>
  have D:D2 T A m (.dct ks vs) p:=D
  rw [D2] at D
  obtain⟨k,ps,rfl,_,g,h⟩:=D
  obtain⟨kk,z1,z⟩:=zbm (show(kyD e).bind (fun k=>valK ks vs k)=some r from z)
  obtain⟨p',h1,h2⟩:=valK_rep h z
  exact⟨p',by simp only [ixG,g];rw [kyD_rep E z1];simp only [zob];rw [h1];rfl,h2⟩
 | str s=>
  cases e with
  | int i=>
   replace z:(if s.length≤sizeLine then(atI s.cps.toList i).map fun c=>DV.str ⟨#[c]⟩ else none)=some r:=z
   split at z
   ·rename_i hl
    obtain⟨x,z1,rfl⟩:=zmm z
    rw [dt_str D,dt_int E]
    exact⟨.str ⟨#[x]⟩,by simp only [ixG];rw [if_pos hl,z1];rfl,by rw [D2]⟩
   ·cases z
  | _=>cases z
 | _=>cases z
abbrev O2:=Env2→Cs→Option (Option Int×Cs)
def SO (T:Tk)(o2:O2)(o:Ox):Prop:=∀A m c B v2 v,WF T A m c→EnvR T A m B v2 v→∀r c',o2 v2 c=some (r,c')→∃m' A',o v m=some (r,m')∧Xt T A m A' m'∧WF T A' m' c'
def oN2:O2:=fun _ c=>some (none,c)
def oS2 (a:E2):O2:=fun v c=>(a v c).bind fun r=>match r.1 with
 | .int i=>some (some i,r.2)
 | _=>none
theorem so_none:SO T oN2 oNone:=fun A m c B v2 v w E r c' q=>by
 cases q
 exact⟨m,A,rfl,.refl,w⟩
theorem so_some {a2:E2}{a:Ex}(h:SX T a2 a):SO T (oS2 a2) (oSome a):=fun A m c B v2 v w E r c' q=>by
 obtain⟨⟨d,c1⟩,q1,q⟩:=zbm q
 obtain⟨p,m1,A1,h1,h2,h3,h4⟩:=h A m c B v2 v w E _ _ q1
 cases d with
 | int i=>
  cases q
  rw [d2_int] at h4
  subst h4
  exact⟨m1,A1,by unfold oSome;rw [h1];rfl,h2,h3⟩
 | _=>cases q
def cutD (xs:List DV)(lo hi:Option Int):List DV:=(xs.drop (HT.sIx xs.length 0 lo)).take (HT.sIx xs.length xs.length hi-HT.sIx xs.length 0 lo)
theorem cutD_rep {A:Nat→Prop}{m:Mem}{ds:List DV}{ps:List PV}(h:D2L T A m ds ps)(lo hi:Option Int):D2L T A m (cutD ds lo hi) (cutP ps lo hi):=by
 unfold cutD cutP
 rw [h.length]
 exact(h.drop _).take _
def ySl (a:E2)(lo hi:O2):E2:=fun v c=>(a v c).bind fun r=>(lo v r.2).bind fun s=>(hi v s.2).bind fun t=>match r.1 with
 | .tup ds=>some (.tup (cutD ds s.1 t.1),t.2)
 | .str z=>if z.length≤sizeLine then some (.str (cutS z s.1 t.1),t.2) else none
 | _=>none
def ySf (a:E2)(lo hi:O2):E2:=fun v c=>(a v c).bind fun r=>(lo v r.2).bind fun s=>(hi v s.2).bind fun t=>match r.1 with
 | .lst ds=>some (.lst (cutD ds s.1 t.1),t.2)
 | _=>none
variable {a2 b2:E2}{a b:Ex}{lo2 hi2:O2}{lo hi:Ox}
theorem sx_sl (h:SXp T a2 a)(hl:SO T lo2 lo)(hh:SO T hi2 hi):SX T (ySl a2 lo2 hi2) (xSl a lo hi):=fun A m c B v2 v w E r c' q=>by
 obtain⟨⟨d,c1⟩,q1,q⟩:=zbm q
 obtain⟨⟨i,c2⟩,q2,q⟩:=zbm q
 obtain⟨⟨j,c3⟩,q3,q⟩:=zbm q
 obtain⟨p,m1,A1,h1,h2,h3,h4⟩:=h A m c B v2 v w E _ _ q1
 obtain⟨m2,A2,h5,h6,h7⟩:=hl A1 m1 c1 B v2 v h3 (E.x w h2) _ _ q2
 obtain⟨m3,A3,h8,h9,h10⟩:=hh A2 m2 c2 B v2 v h7 ((E.x w h2).x h3 h6) _ _ q3
 have D:=(h4.x h3 h6).x h7 h9
 have er:xSl a lo hi v m=slG p i j m3:=by
  unfold xSl
  rw [h1];simp only [zob]
  rw [h5];simp only [zob]
  rw [h8];rfl
 rw [er]
 cases d with
 | tup ds=>
  cases q
  obtain⟨ps,rfl,h⟩:=dt_tup D
  exact⟨_,m3,A3,rfl,h2.trans (h6.trans h9),h10,d2_tup.mpr ⟨_,rfl,cutD_rep h _ _⟩⟩
 | str z=>
  simp only at q
  split at q
  ·rename_i hz
   cases q
   rw [dt_str D]
   exact⟨_,m3,A3,by simp only [slG];rw [if_pos hz],h2.trans (h6.trans h9),h10,by rw [D2]⟩
  ·cases q
 | _=>cases q
theorem sf_sl (h:SXp T a2 a)(hl:SO T lo2 lo)(hh:SO T hi2 hi):SXf T (ySf a2 lo2 hi2) (xSl a lo hi):=fun A m c B v2 v w E r c' q=>by
 obtain⟨⟨d,c1⟩,q1,q⟩:=zbm q
 obtain⟨⟨i,c2⟩,q2,q⟩:=zbm q
 obtain⟨⟨j,c3⟩,q3,q⟩:=zbm q
 obtain⟨p,m1,A1,h1,h2,h3,h4⟩:=h A m c B v2 v w E _ _ q1
 obtain⟨m2,A2,h5,h6,h7⟩:=hl A1 m1 c1 B v2 v h3 (E.x w h2) _ _ q2
 obtain⟨m3,A3,h8,h9,h10⟩:=hh A2 m2 c2 B v2 v h7 ((E.x w h2).x h3 h6) _ _ q3
 have D:=(h4.x h3 h6).x h7 h9
 have er:xSl a lo hi v m=slG p i j m3:=by
  unfold xSl
  rw [h1];simp only [zob]
  rw [h5];simp only [zob]
  rw [h8];rfl
 rw [er]
 cases d with
 | lst ds=>
  cases q
  obtain⟨k,ps,rfl,_,_,g,h⟩:=dt_lst D
  obtain⟨z1,z2,es,k',qs,e1,e2,hk,z3⟩:=fs_new h10 (cutD_rep h i j)
  have x:=h2.trans (h6.trans h9)
  exact⟨_,_,A3,by simp only [slG,g],x.trans z1,z2,es,k',qs,e1,e2,znt x.le hk,z3⟩
 | _=>cases q
def lenV:DV→Option DV
 | .tup ds=>some (.int ds.length)
 | .lst ds=>some (.int ds.length)
 | .str s=>if s.length≤sizeLine then some (.int s.length) else none
 | _=>none
def intV:DV→Option DV
 | .int i=>some (.int i)
 | .bl k=>some (.int (if k=true then 1 else 0))
 | .str s=>(PySem.intText? s).bind fun n=>if s.length≤640 then some (.int n) else none
 | _=>none
def tupleV:DV→Option DV
 | .tup ds=>some (.tup ds)
 | .lst ds=>some (.tup ds)
 | _=>none
def listV:DV→Option DV
 | .tup ds=>some (.lst ds)
 | .lst ds=>some (.lst ds)
 | _=>none
def blsD:List DV→Option (List Bool)
 | []=>some []
 | .bl b::ds=>(blsD ds).map fun bs=>b::bs
 | _=>none
def anyV:DV→Option DV
 | .lst ds=>(blsD ds).map fun bs=>.bl (bs.any id)
 | _=>none
def allV:DV→Option DV
 | .lst ds=>(blsD ds).map fun bs=>.bl (bs.all id)
 | _=>none
def intsD:List DV→Option (List Int)
 | []=>some []
 | .int i::ds=>(intsD ds).map fun is=>i::is
 | _=>none
theorem blsD_rep {A:Nat→Prop}{m:Mem}:∀ {ds:List DV} {ps:List PV} {bs:List Bool},D2L T A m ds ps→blsD ds=some bs→blsP ps=some bs
 | [],ps,bs,h,e=>by rw [h.inv0];exact e
 | d::ds,ps,bs,h,e=>by
  obtain⟨p,r,rfl,h1,h2⟩:=h.inv
  cases d with
  | bl b=>
   obtain⟨cs,e1,rfl⟩:=zmm (show(blsD ds).map (fun bs=>b::bs)=some bs from e)
   rw [d2_bl] at h1
   rw [h1,blsP,blsD_rep h2 e1];rfl
  | _=>cases e
theorem lstB_of {A:Nat→Prop}{m:Mem}{ds:List DV}{p:PV}(D:Dt T A m (.lst ds) p):∃ps,lstB p m=some ps∧D2L T A m ds ps∧itemsB p m=some ps:=by
 obtain⟨k,ps,rfl,_,_,g,h⟩:=dt_lst D
 exact⟨ps,by simp only [lstB,g],h,by simp only [itemsB,g]⟩
theorem o_len:OpX lenV (un1 lenG) T:=opx_pure fun A m d p r D z=>by
 cases d with
 | tup ds=>
  cases z
  obtain⟨ps,rfl,h⟩:=dt_tup D
  exact⟨.int ds.length,by simp only [un1,lenG,lenB];rw [h.length];rfl,by rw [D2]⟩
 | lst ds=>
  cases z
  obtain⟨k,ps,rfl,_,_,g,h⟩:=dt_lst D
  exact⟨.int ds.length,by simp only [un1,lenG,lenB,g];rw [h.length];rfl,by rw [D2]⟩
 | str s=>
  simp only [lenV] at z
  split at z
  ·rename_i hs
   cases z
   rw [dt_str D]
   exact⟨_,by simp only [un1,lenG,lenB];rw [if_pos hs];rfl,by rw [D2]⟩
  ·cases z
 | _=>cases z
theorem o_int:OpX intV (un1 intG) T:=opx_pure fun A m d p r D z=>by
 cases d with
 | int i=>cases z;rw [dt_int D];exact⟨_,rfl,by rw [D2]⟩
 | bl i=>cases z;rw [dt_bl D];exact⟨_,rfl,by rw [D2]⟩
 | str s=>
  obtain⟨n,h1,h2⟩:=zbm (show((PySem.intText? s).bind fun n=>if s.length≤640 then some (.int n) else none)=some r from z)
  split at h2
  ·rename_i hl
   cases h2
   rw [dt_str D]
   refine⟨.int n,?_,by rw [D2]⟩
   show intG [.str s] m=_
   simp only [intG,h1]
   rw [if_pos hl]
  ·cases h2
 | _=>cases z
theorem o_tuple:OpX tupleV (un1 tupleG) T:=opx_pure fun A m d p r D z=>by
 cases d with
 | tup ds=>
  cases z
  obtain⟨ps,rfl,h⟩:=dt_tup D
  exact⟨.tup ps,rfl,d2_tup.mpr ⟨ps,rfl,h⟩⟩
 | lst ds=>
  cases z
  obtain⟨ps,_,h,e⟩:=lstB_of D
  exact⟨.tup ps,by simp only [un1,tupleG];rw [e];rfl,d2_tup.mpr ⟨ps,rfl,h⟩⟩
 | _=>cases z
theorem o_list:OpF listV (un1 listG) T:=fun A m c d p w D r z=>by
 cases d with
 | tup ds=>
  cases z
  obtain⟨ps,rfl,h⟩:=dt_tup D
  obtain⟨z1,z2,z3⟩:=fs_new w h
  exact⟨_,_,A,rfl,z1,z2,z3⟩
 | lst ds=>
  cases z
  obtain⟨ps,_,h,e⟩:=lstB_of D
  obtain⟨z1,z2,z3⟩:=fs_new w h
  exact⟨_,_,A,by simp only [un1,listG];rw [e];rfl,z1,z2,z3⟩
 | _=>cases z
theorem o_any:OpX anyV (un1 anyG) T:=opx_pure fun A m d p r D z=>by
 cases d with
 | lst ds=>
  obtain⟨bs,e1,rfl⟩:=zmm (show(blsD ds).map (fun bs=>DV.bl (bs.any id))=some r from z)
  obtain⟨ps,e,h,_⟩:=lstB_of D
  exact⟨_,by simp only [un1,anyG];rw [e];simp only [zob];rw [blsD_rep h e1];rfl,by rw [D2]⟩
 | _=>cases z
theorem o_all:OpX allV (un1 allG) T:=opx_pure fun A m d p r D z=>by
 cases d with
 | lst ds=>
  obtain⟨bs,e1,rfl⟩:=zmm (show(blsD ds).map (fun bs=>DV.bl (bs.all id))=some r from z)
  obtain⟨ps,e,h,_⟩:=lstB_of D
  exact⟨_,by simp only [un1,allG];rw [e];simp only [zob];rw [blsD_rep h e1];rfl,by rw [D2]⟩
 | _=>cases z
def yMxD (a d:E2):E2:=fun v c=>(a v c).bind fun r=>(d v r.2).bind fun s=>match r.1 with
 | .lst ds=>(intsD ds).map fun is=>((is.max?.map .int).getD s.1,s.2)
 | _=>none
def tyD:DV→Option String
 | .non=>some "NoneType"
 | .bl _=>some "bool"
 | .int _=>some "int"
 | .str _=>some "str"
 | .tup _=>some "tuple"
 | .lst _=>some "list"
 | .dic _=>some "dict"
 | .dct _ _=>some "dict"
 | .tok=>none
def isV (ty:String)(d:DV):Option DV:=(tyD d).bind fun n=>(kitB n ty).map fun b=>.bl b
theorem o_is {ty:String}:OpX (isV ty) (isG ty) T:=opx_pure fun A m d p r D z=>by
 obtain⟨n,e1,z⟩:=zbm z
 obtain⟨b,e2,rfl⟩:=zmm z
 have ht:tyN p m=some n:=by
  cases d with
  | non=>rw [dt_non D];exact e1
  | bl b=>rw [dt_bl D];exact e1
  | int b=>rw [dt_int D];exact e1
  | str b=>rw [dt_str D];exact e1
  | tup ds=>obtain⟨ps,rfl,_⟩:=dt_tup D;exact e1
  | lst ds=>obtain⟨k,ps,rfl,_,_,g,_⟩:=dt_lst D;simp only [tyN,g];exact e1
  | dic kvs=>
   have D:D2 T A m (.dic kvs) p:=D
   rw [D2] at D
   obtain⟨k,rfl,_,g⟩:=D
   simp only [tyN,g];exact e1
  | dct ks vs=>
   have D:D2 T A m (.dct ks vs) p:=D
   rw [D2] at D
   obtain⟨k,ps,rfl,_,g,_⟩:=D
   simp only [tyN,g];exact e1
  | tok=>cases e1
 exact⟨.bl b,by unfold isG;rw [ht];simp only [zob];rw [e2];rfl,by rw [D2]⟩
def kdV (tb:Tab):DV→Option DV
 | .str z=>(tb.lookup z).map fun ws=>.tup (ws.map .str)
 | _=>none
theorem d2_strs {A:Nat→Prop}{m:Mem}:∀ws:List Str,D2L T A m (ws.map DV.str) (ws.map PV.str)
 | []=>.nil
 | w::ws=>.cons (by rw [D2]) (d2_strs ws)
theorem o_kd {tb:Tab}:OpX (kdV tb) (kdG tb) T:=opx_pure fun A m d p r D z=>by
 cases d with
 | str s=>
  obtain⟨ws,e1,rfl⟩:=zmm (show(tb.lookup s).map (fun ws=>DV.tup (ws.map .str))=some r from z)
  rw [dt_str D]
  exact⟨_,by simp only [kdG];rw [e1];rfl,d2_tup.mpr ⟨_,rfl,d2_strs ws⟩⟩
 | _=>cases z
def min2:DV→DV→Option DV
 | .int i,.int j=>some (.int (if j<i then j else i))
 | _,_=>none
def bin2 (g:List PV→Mem→Option (PV×Mem)):PV→PV→Mem→Option (PV×Mem):=fun p q m=>g [p,q] m
theorem xA_2 {g:List PV→Mem→Option (PV×Mem)}:xA g (Ac a (Ac b An))=x2 (bin2 g) a b:=by
 funext v m
 unfold xA x2 bin2
 simp only [Ac,An]
 cases a v m with
 | none=>rfl
 | some r=>
  simp only [zob]
  cases b v r.2<;>rfl
theorem sx_A2 {g2:DV→DV→Option DV}{g:List PV→Mem→Option (PV×Mem)}(o:Op2 g2 (bin2 g) T)(h:SXp T a2 a)(h':SXp T b2 b):SX T (y2 g2 a2 b2) (xA g (Ac a (Ac b An))):=xA_2▸sx_2 o h h'
theorem o_min2:Op2 min2 (bin2 minG) T:=op2_pure fun A m d p e q r D E z=>by
 cases d with
 | int i=>cases e with
  | int j=>cases z;rw [dt_int D,dt_int E];exact⟨_,rfl,by rw [D2]⟩
  | _=>cases z
 | _=>cases z
end
end V2
namespace V2
open PySem Rf L2
end V2
end
section
set_option autoImplicit false
namespace Rf
open PySem PySem.Spec L2 PyProof.Rows
section
variable {X:Cx}{cl:Nat→Addr}{b:Expr}{pos p apos cpos:Pos}{mb:Ex}{x:Str}
theorem m1_of {o e:Expr}{m:Str}(base:attributeBase o m X.env (eval o X.env)=eval o X.env:=by rfl)(few:((backTo cpos (starEach [e] X.env)).all (fun x => !x.1)&&(backToKw cpos (keywordEach [] X.env)).all (fun x=>x.1.isSome)
  && decide (([e]:List Expr).length+([]:List Keyword).length+(if([]:List Keyword).isEmpty then 0 else 1)<30))=true:=by rfl) (line:(apos.endLine == cpos.line)=true:=by rfl)
  (trees:backTo cpos (starEach [e] X.env)=[(false,eval e X.env)]:=by rfl):M1 X o m apos e cpos:=⟨base,few,line,trees⟩
end
end Rf
end
section
set_option autoImplicit false
namespace V2
open PySem Rf L2
section
variable {T:Tk}{a2 b2:E2}{a b:Ex}{φ:Bool}
theorem sx_m1 {g2:DV→DV→Option DV}{g:Mg}(hc:∀d e r,g2 d e=some r→∃s,d=.str s)(o:Op2 g2 (fun p q m=>g p [q] m) T)(h:SXp T a2 a)(h':SXp T b2 b):SX T (y2 g2 a2 b2) (xM chkS g a (Ac b An)):=fun A m c B v2 v w E r c' q=>by
 obtain⟨⟨d,c1⟩,q1,q⟩:=zbm q
 obtain⟨⟨d',c2⟩,q2,q⟩:=zbm q
 obtain⟨d'',q3,q⟩:=zmm q
 cases q
 obtain⟨p,m1,A1,h1,h2,h3,h4⟩:=h A m c B v2 v w E _ _ q1
 obtain⟨p',m2,A2,h5,h6,h7,h8⟩:=h' A1 m1 _ B v2 v h3 (E.x w h2) _ _ q2
 obtain⟨p'',m3,A3,h9,h10,h11,h12⟩:=o A2 m2 _ _ _ _ _ h7 (h4.x h3 h6) h8 _ q3
 obtain⟨s,hs⟩:=hc _ _ _ q3
 replace hs:d=.str s:=hs
 subst hs
 obtain rfl:=dt_str h4
 refine⟨p'',m3,A3,?_,h2.trans (h6.trans h10),h11,h12⟩
 unfold xM
 rw [h1]
 simp only [zob]
 rw [if_pos (show chkS (PV.str s) m1=true from rfl)]
 simp only [Ac,An]
 rw [h5]
 exact h9
theorem sf_m1 {g2:DV→DV→Option DV}{g:Mg}(hc:∀d e r,g2 d e=some r→∃s,d=.str s)(o:Op2f g2 (fun p q m=>g p [q] m) T)(h:SXp T a2 a)(h':SXp T b2 b):SXf T (y2 g2 a2 b2) (xM chkS g a (Ac b An)):=fun A m c B v2 v w E r c' q=>by
 obtain⟨⟨d,c1⟩,q1,q⟩:=zbm q
 obtain⟨⟨d',c2⟩,q2,q⟩:=zbm q
 obtain⟨d'',q3,q⟩:=zmm q
 cases q
 obtain⟨p,m1,A1,h1,h2,h3,h4⟩:=h A m c B v2 v w E _ _ q1
 obtain⟨p',m2,A2,h5,h6,h7,h8⟩:=h' A1 m1 _ B v2 v h3 (E.x w h2) _ _ q2
 obtain⟨p'',m3,A3,h9,h10,h11,ds,k,ps,e1,e2,hk,h12⟩:=o A2 m2 _ _ _ _ _ h7 (h4.x h3 h6) h8 _ q3
 obtain⟨s,hs⟩:=hc _ _ _ q3
 replace hs:d=.str s:=hs
 subst hs
 obtain rfl:=dt_str h4
 refine⟨p'',m3,A3,?_,h2.trans (h6.trans h10),h11,ds,k,ps,e1,e2,znt h2.le (znt h6.le hk),h12⟩
 unfold xM
 rw [h1]
 simp only [zob]
 rw [if_pos (show chkS (PV.str s) m1=true from rfl)]
 simp only [Ac,An]
 rw [h5]
 exact h9
theorem sx_m0 {g2:DV→Option DV}{g:Mg}(hc:∀d r,g2 d=some r→∃s,d=.str s)(o:OpX g2 (fun p m=>g p [] m) T)(h:SXp T a2 a):SX T (y1 g2 a2) (xM chkS g a An):=fun A m c B v2 v w E r c' q=>by
 obtain⟨⟨d,c1⟩,q1,q⟩:=zbm q
 obtain⟨d'',q3,q⟩:=zmm q
 cases q
 obtain⟨p,m1,A1,h1,h2,h3,h4⟩:=h A m c B v2 v w E _ _ q1
 obtain⟨p'',m3,A3,h9,h10,h11,h12⟩:=o A1 m1 _ _ _ h3 h4 _ q3
 obtain⟨s,hs⟩:=hc _ _ q3
 replace hs:d=.str s:=hs
 subst hs
 obtain rfl:=dt_str h4
 refine⟨p'',m3,A3,?_,h2.trans h10,h11,h12⟩
 unfold xM
 rw [h1]
 simp only [zob]
 rw [if_pos (show chkS (PV.str s) m1=true from rfl)]
 exact h9
def splitV:DV→DV→Option DV
 | .str x,.str y=>if(y.length == 0)=false∧x.length+2≤sizeLine then some (.lst ((Txt.split x y).map .str)) else none
 | _,_=>none
theorem o_split:Op2f splitV (fun p q m=>splitG p [q] m) T:=fun A m c d p e q w D E r z=>by
 cases d with
 | str x=>cases e with
  | str y=>
   replace z:(if(y.length == 0)=false∧x.length+2≤sizeLine then some (DV.lst ((Txt.split x y).map .str)) else none)=some r:=z
   split at z
   ·rename_i hb
    cases z
    rw [dt_str D,dt_str E]
    obtain⟨z1,z2,z3⟩:=fs_new w (d2_strs (T:=T) (A:=A) (m:=m) (Txt.split x y))
    refine⟨_,_,A,?_,z1,z2,z3⟩
    show splitG (.str x) [.str y] m=_
    unfold splitG
    simp only
    rw [if_pos hb]
   ·cases z
  | _=>cases z
 | _=>cases z
theorem c_split (d e r:DV)(h:splitV d e=some r):∃s,d=.str s:=by
 cases d with
 | str s=>exact⟨s,rfl⟩
 | _=>cases h
def strsD:List DV→Option (List Str)
 | []=>some []
 | .str y::ds=>(strsD ds).map fun ys=>y::ys
 | _=>none
theorem strsD_rep {A:Nat→Prop}{m:Mem}:∀ {ds:List DV} {ps:List PV} {ys:List Str},D2L T A m ds ps→strsD ds=some ys→strsP ps=some ys
 | [],ps,ys,h,e=>by rw [h.inv0];exact e
 | d::ds,ps,ys,h,e=>by
  obtain⟨p,r,rfl,h1,h2⟩:=h.inv
  cases d with
  | str y=>
   obtain⟨zs,e1,rfl⟩:=zmm (show(strsD ds).map (fun ys=>y::ys)=some ys from e)
   rw [d2_str] at h1
   subst h1
   unfold strsP
   rw [strsD_rep h2 e1];rfl
  | _=>cases e
def joinV:DV→DV→Option DV
 | .str x,.lst ds=>(strsD ds).bind fun ys=>if(ys.map (·.length)).sum+ys.length*x.length≤16777216 then some (.str (Txt.join x ys)) else none
 | _,_=>none
theorem o_join:Op2 joinV (fun p q m=>joinG p [q] m) T:=op2_pure fun A m d p e q r D E z=>by
 cases d with
 | str x=>cases e with
  | lst ds=>
   obtain⟨ys,e1,z⟩:=zbm (show((strsD ds).bind fun ys=>if(ys.map (·.length)).sum+ys.length*x.length≤16777216 then some (DV.str (Txt.join x ys)) else none)=some r from z)
   split at z
   ·rename_i hb
    cases z
    rw [dt_str D]
    obtain⟨ps,h1,h2,h3⟩:=lstB_of E
    refine⟨.str (Txt.join x ys),?_,by rw [D2]⟩
    show joinG (.str x) [q] m=_
    unfold joinG
    simp only
    rw [h3]
    simp only [zob]
    rw [strsD_rep h2 e1]
    simp only [zob]
    rw [if_pos hb]
   ·cases z
  | _=>cases z
 | _=>cases z
theorem c_join (d e r:DV)(h:joinV d e=some r):∃s,d=.str s:=by
 cases d with
 | str s=>exact⟨s,rfl⟩
 | _=>cases h
def startsV:DV→DV→Option DV
 | .str x,.str y=>some (.bl (Txt.startswith x y))
 | _,_=>none
theorem o_starts:Op2 startsV (fun p q m=>startsG p [q] m) T:=op2_pure fun A m d p e q r D E z=>by
 cases d with
 | str x=>cases e with
  | str y=>cases z;rw [dt_str D,dt_str E];exact⟨_,rfl,by rw [D2]⟩
  | _=>cases z
 | _=>cases z
theorem c_starts (d e r:DV)(h:startsV d e=some r):∃s,d=.str s:=by
 cases d with
 | str s=>exact⟨s,rfl⟩
 | _=>cases h
def isasciiV:DV→Option DV
 | .str x=>some (.bl (Txt.isascii x))
 | _=>none
theorem o_isascii:OpX isasciiV (fun p m=>isasciiG p [] m) T:=opx_pure fun A m d p r D z=>by
 cases d with
 | str x=>cases z;rw [dt_str D];exact⟨_,rfl,by rw [D2]⟩
 | _=>cases z
theorem c_isascii (d r:DV)(h:isasciiV d=some r):∃s,d=.str s:=by
 cases d with
 | str s=>exact⟨s,rfl⟩
 | _=>cases h
def isdigitV:DV→Option DV
 | .str x=>some (.bl (Txt.isdigit x))
 | _=>none
theorem o_isdigit:OpX isdigitV (fun p m=>isdigitG p [] m) T:=opx_pure fun A m d p r D z=>by
 cases d with
 | str x=>cases z;rw [dt_str D];exact⟨_,rfl,by rw [D2]⟩
 | _=>cases z
theorem c_isdigit (d r:DV)(h:isdigitV d=some r):∃s,d=.str s:=by
 cases d with
 | str s=>exact⟨s,rfl⟩
 | _=>cases h
def strV:DV→Option DV
 | .int i=>if i.natAbs<2 ^ 1900 then some (.str (toString i)) else none
 | _=>none
theorem o_str:OpX strV (un1 strG) T:=opx_pure fun A m d p r D z=>by
 cases d with
 | int i=>
  replace z:(if i.natAbs<2 ^ 1900 then some (DV.str (toString i)) else none)=some r:=z
  split at z
  ·rename_i hb
   cases z
   rw [dt_int D]
   exact⟨.str (toString i),by show strG [.int i] m=_;unfold strG;simp only;rw [if_pos hb],by rw [D2]⟩
  ·cases z
 | _=>cases z
def fmtV:DV→Option DV
 | .str y=>if y.length≤sizeLine then some (.str y) else none
 | .int i=>if i.natAbs<2 ^ 1900 then some (.str (toString i)) else none
 | _=>none
inductive SJ (T:Tk):List E2→List Ex→Prop where
 | nil:SJ T [] []
 | cons {e2:E2} {e:Ex} {es2:List E2} {es:List Ex} (h:SX T e2 e) (r:SJ T es2 es):SJ T (e2::es2) (e::es)
end
end V2
end
section
set_option autoImplicit false
namespace Rf
open PySem PySem.Spec L2
end Rf
end
section
set_option autoImplicit false
namespace RY
open PySem PySem.Spec PyProof.Rows
section
variable {K:Type} [DecidableEq K]
def once:List K→List K→List K
 | acc,[]=>acc
 | acc,k::ks=>once (if k∈acc then acc else acc++[k]) ks
end
end RY
end
section
set_option autoImplicit false
namespace Rf
open PySem PySem.Spec L2 PyProof.Rows
end Rf
end
section
set_option autoImplicit false
namespace RY
open PySem PySem.Spec PyProof.Rows L2 PySem.Froz
section
variable {P:Program}{w:World}{A:Around}{E:Value→Shared→Prop}{s:Shared}
structure Tx (P:Program) (w:World) (h:Heap) (S:Addr) (l:List Str):Prop where
 at_:∃D:SD,h.get? S=some (sObj "set" D)∧TxOk P w D l∧Ris D.2.2.place.toList∧(w.params.followText "set-order"=true∨D.2.2.led=true)
variable {R:Result→Shared→Prop}{I:Addr}{fp wr:List Addr}{G:Array GenState→Array GenState→Prop}{n:Nat}{Pv:Nat→Value→Prop}{St:Nat→Shared→Prop}
end
end RY
namespace Rf
open PySem PySem.Spec L2 PyProof.Rows
end Rf
end
section
set_option autoImplicit false
namespace RY
open PySem PySem.Spec PyProof.Rows L2 HT
end RY
namespace Rf
open PySem PySem.Spec L2 PyProof.Rows
end Rf
end
section
set_option autoImplicit false
namespace RY
open PySem PySem.AutoSeq1
end RY
namespace Rf
open PySem PySem.Spec L2 PyProof.Rows
end Rf
end
section
set_option autoImplicit false
namespace V2
open PySem Rf L2
end V2
end
section
set_option autoImplicit false
theorem L2.Room.u65 {k:Nat}{A:PySem.Around}(r:L2.Room k A):A.units+65<PySem.cLine:=by have:=r.un;omega
namespace Rf
open PySem PySem.Spec L2
section
variable {X:Cx}{cl:Nat→Addr}
def inTB (p q:PV)(m:Mem):Option Bool:=match q with
 | .ref i=>match m[i]? with
  | some (.lst ps)=>(toD p).bind fun d=>(toDs ps).bind fun ds=>if SeqAt.shaped d=true∧SeqAt.shaped (.list ds)=true then some (ds.any fun z=>PyData.eqv z d) else none
  | _=>none
 | _=>none
def inTG (p q:PV)(m:Mem):Option (PV×Mem):=(inTB p q m).map fun k=>(.bl k,m)
def ninTG (p q:PV)(m:Mem):Option (PV×Mem):=(inTB p q m).map fun k=>(.bl (!k),m)
theorem inTB_ok {ρ:List Addr}{H:Hp}{m:Mem}{p q:PV}{x y:V}{k:Bool}(hm:RelM X.K cl ρ H m)(hp:Rep X.K ρ H p x)(hq:Rep X.K ρ H q y)(h:inTB p q m=some k):
  ∃d ds,Dp X.K H x d∧Dp X.K H y (.list ds)∧SeqAt.shaped d=true∧SeqAt.shaped (.list ds)=true∧k=ds.any fun z=>PyData.eqv z d:=by
 unfold inTB at h
 split at h
 ·rename_i i
  split at h
  ·rename_i ps z
   obtain⟨d,e1,h⟩:=zbm h
   obtain⟨ds,e2,h⟩:=zbm h
   split at h
   ·rename_i hs
    obtain rfl:=zsi h
    refine⟨d,ds,toD_rep _ _ _ hp e1,?_,hs.1,hs.2,rfl⟩
    refine toDm_rep (p:=.ref i) hm hq ?_
    simp only [toDm,z,e2,Option.map_some]
   ·cases h
  ·cases h
 ·cases h
theorem ox_inT (hu:X.A.units+65<cLine):OpR X (compareOp .In) (G2 X.K cl inTG):=by
 intro pins s σ H x y v u Q I rx ry ⟨ρ,p,q,mem,r,hm,hp,hq,h,k⟩
 obtain⟨b,h1,rfl⟩:=zmm h
 have kk:=k ρ (.bl b) H .refl hm (by rw [Rep])
 obtain⟨d,ds,z1,z2,z3,z4,rfl⟩:=inTB_ok hm hp hq h1
 exact op_inD hu pins s σ H x y v u Q I rx ry ⟨d,ds,z1,z2,z3,z4,kk⟩
theorem ox_ninT (hu:X.A.units+65<cLine):OpR X (compareOp .NotIn) (G2 X.K cl ninTG):=by
 intro pins s σ H x y v u Q I rx ry ⟨ρ,p,q,mem,r,hm,hp,hq,h,k⟩
 obtain⟨b,h1,rfl⟩:=zmm h
 have kk:=k ρ (.bl (!b)) H .refl hm (by rw [Rep])
 obtain⟨d,ds,z1,z2,z3,z4,rfl⟩:=inTB_ok hm hp hq h1
 exact op_notInD hu pins s σ H x y v u Q I rx ry ⟨d,ds,z1,z2,z3,z4,kk⟩
end
end Rf
end
section
set_option autoImplicit false
namespace V2
open PySem Rf L2
section
variable {T:Tk}
def inTVB (d e:DV):Option Bool:=match e with
 | .lst es=>(toDV d).bind fun x=>(toDVs es).bind fun ys=>if SeqAt.shaped x=true∧SeqAt.shaped (.list ys)=true then some (ys.any fun z=>PyData.eqv z x) else none
 | _=>none
theorem inTVB_rep {A:Nat→Prop}{m:Mem}{d e:DV}{p q:PV}{k:Bool}(D:Dt T A m d p)(E:Dt T A m e q)(z:inTVB d e=some k):inTB p q m=some k:=by
 cases e with
 | lst es=>
  obtain⟨x,e1,z⟩:=zbm (show(toDV d).bind _=some k from z)
  obtain⟨ys,e2,z⟩:=zbm z
  have D':D2 T A m d p:=by
   cases d with
   | lst ds=>cases e1
   | _=>exact D
  obtain⟨i,ps,rfl,_,_,g,r⟩:=dt_lst E
  unfold inTB
  simp only [g]
  rw [toDV_rep d p x D' e1]
  simp only [zob]
  rw [toDVs_rep es ps ys r e2]
  exact z
 | _=>cases z
def inTV (d e:DV):Option DV:=(inTVB d e).map .bl
def ninTV (d e:DV):Option DV:=(inTVB d e).map fun k=>.bl (!k)
theorem o_inT:Op2 inTV inTG T:=op2_pure fun A m d p e q r D E z=>by
 obtain⟨k,h,rfl⟩:=zmm z
 exact⟨.bl k,by unfold inTG;rw [inTVB_rep D E h];rfl,by rw [D2]⟩
theorem o_ninT:Op2 ninTV ninTG T:=op2_pure fun A m d p e q r D E z=>by
 obtain⟨k,h,rfl⟩:=zmm z
 exact⟨.bl (!k),by unfold ninTG;rw [inTVB_rep D E h];rfl,by rw [D2]⟩
end
end V2
namespace V2
open PySem Rf L2
mutual
def pl:DV→Bool
 | .non=>true
 | .bl _=>true
 | .int _=>true
 | .str _=>true
 | .tup ds=>plL ds
 | _=>false
def plL:List DV→Bool
 | []=>true
 | d::ds=>pl d&&plL ds
end
mutual
def pvd:DV→PV
 | .non=>.non
 | .bl b=>.bl b
 | .int i=>.int i
 | .str s=>.str s
 | .tup ds=>.tup (pvdL ds)
 | _=>.non
def pvdL:List DV→List PV
 | []=>[]
 | d::ds=>pvd d::pvdL ds
end
mutual
/-- how deep -/
def dp:DV→Nat
 | .tup ds=>dpL ds+1
 | _=>0
def dpL:List DV→Nat
 | []=>0
 | d::ds=>max (dp d) (dpL ds)
end
mutual
/-- how many parts -/
def sz:DV→Nat
 | .tup ds=>szL ds+1
 | _=>1
def szL:List DV→Nat
 | []=>0
 | d::ds=>sz d+szL ds
end
mutual
/-- all parts -/
def fl:DV→List DV
 | .tup ds=>.tup ds::flL ds
 | d=>[d]
def flL:List DV→List DV
 | []=>[]
 | d::ds=>fl d++flL ds
end
mutual
/-- the part at which the count ends becomes another one;what is left of the count -/
def chD:DV→Int→DV→DV×Int
 | .tup ds,k,o=>if k-1=0 then(o,k-1) else(.tup (chL ds (k-1) o).1,(chL ds (k-1) o).2)
 | d,k,o=>if k-1=0 then(o,k-1) else(d,k-1)
def chL:List DV→Int→DV→List DV×Int
 | [],k,_=>([],k)
 | d::ds,k,o=>((chD d k o).1::(chL ds (chD d k o).2 o).1,(chL ds (chD d k o).2 o).2)
end
section
variable {T:Tk}{A:Nat→Prop}{m:Mem}
mutual
theorem d2_pv:∀(d:DV) (p:PV),pl d=true→(D2 T A m d p↔p=pvd d)
 | .non,p,_=>by rw [d2_non,pvd]
 | .bl _,p,_=>by rw [d2_bl,pvd]
 | .int _,p,_=>by rw [d2_int,pvd]
 | .str _,p,_=>by rw [d2_str,pvd]
 | .tup ds,p,h=>by
  rw [pl] at h
  rw [d2_tup,pvd]
  constructor
  ·rintro⟨ps,rfl,h'⟩;rw [(d2L_pv ds ps h).mp h']
  ·rintro rfl;exact⟨_,rfl,(d2L_pv ds _ h).mpr rfl⟩
 | .lst _,p,h=>by cases h
 | .dic _,p,h=>by cases h
 | .dct _ _,p,h=>by cases h
 | .tok,p,h=>by cases h
theorem d2L_pv:∀(ds:List DV) (ps:List PV),plL ds=true→(D2L T A m ds ps↔ps=pvdL ds)
 | [],ps,_=>by rw [pvdL];exact⟨fun h=>h.inv0,fun h=>h▸.nil⟩
 | d::ds,ps,h=>by
  rw [plL,Bool.and_eq_true] at h
  rw [pvdL]
  constructor
  ·intro h'
   obtain⟨p,r,rfl,a,b⟩:=h'.inv
   rw [(d2_pv d p h.1).mp a,(d2L_pv ds r h.2).mp b]
  ·rintro rfl
   exact .cons ((d2_pv d _ h.1).mpr rfl) ((d2L_pv ds _ h.2).mpr rfl)
end
end
mutual
theorem fl_len:∀d:DV,(fl d).length=sz d
 | .non=>by simp [fl,sz]
 | .bl _=>by simp [fl,sz]
 | .int _=>by simp [fl,sz]
 | .str _=>by simp [fl,sz]
 | .tup ds=>by rw [fl,sz,zlc,flL_len ds]
 | .lst _=>by simp [fl,sz]
 | .dic _=>by simp [fl,sz]
 | .dct _ _=>by simp [fl,sz]
 | .tok=>by simp [fl,sz]
theorem flL_len:∀ds:List DV,(flL ds).length=szL ds
 | []=>rfl
 | d::ds=>by rw [flL,szL,zla,fl_len d,flL_len ds]
end
mutual
theorem fl_mem:∀(d e:DV),e∈fl d→(pl d=true→pl e=true)∧dp e≤dp d∧sz e≤sz d
 | .non,e,h=>by simp only [fl,List.mem_singleton] at h;subst h;exact⟨id,znr _,znr _⟩
 | .bl _,e,h=>by simp only [fl,List.mem_singleton] at h;subst h;exact⟨id,znr _,znr _⟩
 | .int _,e,h=>by simp only [fl,List.mem_singleton] at h;subst h;exact⟨id,znr _,znr _⟩
 | .str _,e,h=>by simp only [fl,List.mem_singleton] at h;subst h;exact⟨id,znr _,znr _⟩
 | .tup ds,e,h=>by
  rw [fl] at h
  rcases zmo h with rfl|h
  ·exact⟨id,znr _,znr _⟩
  ·obtain⟨h1,h2,h3⟩:=flL_mem ds e h
   exact⟨fun z=>h1 (by rwa [pl] at z),by rw [dp];omega,by rw [sz];omega⟩
 | .lst _,e,h=>by simp only [fl,List.mem_singleton] at h;subst h;exact⟨id,znr _,znr _⟩
 | .dic _,e,h=>by simp only [fl,List.mem_singleton] at h;subst h;exact⟨id,znr _,znr _⟩
 | .dct _ _,e,h=>by simp only [fl,List.mem_singleton] at h;subst h;exact⟨id,znr _,znr _⟩
 | .tok,e,h=>by simp only [fl,List.mem_singleton] at h;subst h;exact⟨id,znr _,znr _⟩
theorem flL_mem:∀(ds:List DV) (e:DV),e∈flL ds→(plL ds=true→pl e=true)∧dp e≤dpL ds∧sz e≤szL ds
 | [],e,h=>by cases h
 | d::ds,e,h=>by
  rw [flL] at h
  rcases zma h with h|h
  ·obtain⟨h1,h2,h3⟩:=fl_mem d e h
   exact⟨fun z=>h1 (by rw [plL,Bool.and_eq_true] at z;exact z.1),by rw [dpL];omega,by rw [szL];omega⟩
  ·obtain⟨h1,h2,h3⟩:=flL_mem ds e h
   exact⟨fun z=>h1 (by rw [plL,Bool.and_eq_true] at z;exact z.2),by rw [dpL];omega,by rw [szL];omega⟩
end
theorem ch_leaf (d:DV)(k:Int)(o:DV)(ho:pl o=true)(hd:pl d=true):pl (if k-1=0 then(o,k-1) else(d,k-1)).1=true∧dp (if k-1=0 then(o,k-1) else(d,k-1)).1≤dp d+dp o∧(if k-1=0 then(o,k-1) else(d,k-1)).2≤k-1∧(sz (if k-1=0 then(o,k-1) else(d,k-1)).1≤sz d+(if 1≤k∧(if k-1=0 then(o,k-1) else(d,k-1)).2≤0 then sz o else 0)):=by
 by_cases h:k-1=0
 ·simp only [if_pos h]
  refine⟨ho,by omega,by omega,?_⟩
  rw [if_pos ⟨by omega,by omega⟩];omega
 ·simp only [if_neg h]
  exact⟨hd,by omega,by omega,by omega⟩
mutual
theorem ch_ok:∀(d:DV) (k:Int) (o:DV),pl o=true→pl d=true→pl (chD d k o).1=true∧dp (chD d k o).1≤dp d+dp o∧(chD d k o).2≤k-1∧(sz (chD d k o).1≤sz d+(if 1≤k∧(chD d k o).2≤0 then sz o else 0))
 | .tup ds,k,o,ho,hd=>by
  rw [pl] at hd
  rw [chD]
  by_cases h:k-1=0
  ·rw [if_pos h]
   refine⟨ho,by show dp o≤_;omega,by show k-1≤_;omega,?_⟩
   show sz o≤_
   rw [if_pos ⟨by omega,by show k-1≤0;omega⟩];omega
  ·rw [if_neg h]
   obtain⟨h1,h2,h3,h4⟩:=chL_ok ds (k-1) o ho hd
   refine⟨by show pl (.tup _)=true;rw [pl];exact h1,by show dp (.tup _)≤_;rw [dp,dp];omega,h3,?_⟩
   show sz (.tup _)≤_
   rw [sz,sz]
   have:(chL ds (k-1) o).2=((.tup (chL ds (k-1) o).1,(chL ds (k-1) o).2):DV×Int).2:=rfl
   rw [←this]
   split at h4<;>split<;>omega
 | .non,k,o,ho,hd=>ch_leaf _ k o ho hd
 | .bl _,k,o,ho,hd=>ch_leaf _ k o ho hd
 | .int _,k,o,ho,hd=>ch_leaf _ k o ho hd
 | .str _,k,o,ho,hd=>ch_leaf _ k o ho hd
 | .lst _,k,o,ho,hd=>by cases hd
 | .dic _,k,o,ho,hd=>by cases hd
 | .dct _ _,k,o,ho,hd=>by cases hd
 | .tok,k,o,ho,hd=>by cases hd
theorem chL_ok:∀(ds:List DV) (k:Int) (o:DV),pl o=true→plL ds=true→plL (chL ds k o).1=true∧dpL (chL ds k o).1≤dpL ds+dp o∧(chL ds k o).2≤k∧(szL (chL ds k o).1≤szL ds+(if 1≤k∧(chL ds k o).2≤0 then sz o else 0))
 | [],k,o,ho,hd=>⟨rfl,by simp [chL,dpL],by simp [chL],by simp [chL,szL]⟩
 | d::ds,k,o,ho,hd=>by
  rw [plL,Bool.and_eq_true] at hd
  obtain⟨h1,h2,h3,h4⟩:=ch_ok d k o ho hd.1
  obtain⟨g1,g2,g3,g4⟩:=chL_ok ds (chD d k o).2 o ho hd.2
  rw [chL]
  refine⟨by show plL (_::_)=true;rw [plL,h1,g1];rfl,by show dpL (_::_)≤_;rw [dpL,dpL];omega,by show(chL ds (chD d k o).2 o).2≤_;omega,?_⟩
  show szL (_::_)≤_
  rw [szL,szL]
  have:(chL ds (chD d k o).2 o).2=(((chD d k o).1::(chL ds (chD d k o).2 o).1,(chL ds (chD d k o).2 o).2):List DV×Int).2:=rfl
  rw [←this]
  split at h4<;>split at g4<;>split<;>omega
end
end V2
end
section
set_option autoImplicit false
namespace Rf
open PySem PySem.Spec L2 PyProof.Rows
end Rf
end
section
set_option autoImplicit false
namespace V2
open PySem Rf L2
end V2
end
section
set_option autoImplicit false
namespace RY
open PySem PySem.Spec PyProof.Rows L2 PySem.Froz
def dd (ys:List Str):List Str:=ys.foldl (fun l k=>if k∈l then l else k::l) []
end RY
namespace Rf
open PySem PySem.Spec L2 PyProof.Rows
end Rf
end
section
set_option autoImplicit false
namespace RTM
open PySem PySem.Spec L2 PyProof.Rows
end RTM
namespace Rf
open PySem PySem.Spec L2 PyProof.Rows
end Rf
end
section
set_option autoImplicit false
namespace V2
open PySem Rf L2
open PyData in
mutual
/-- texts that may stand in data -/
def okS:DV→Bool
 | .str s=>strOk s
 | .tup ds=>okSL ds
 | _=>true
def okSL:List DV→Bool
 | []=>true
 | d::ds=>okS d&&okSL ds
end
mutual
theorem fl_okS:∀(d e:DV),okS d=true→e∈fl d→okS e=true
 | .tup ds,e,h,m=>by
  rw [fl] at m
  rcases zmo m with rfl|m
  ·exact h
  ·exact flL_okS ds e (by rwa [okS] at h) m
 | .non,e,h,m=>by simp only [fl,List.mem_singleton] at m;subst m;exact h
 | .bl _,e,h,m=>by simp only [fl,List.mem_singleton] at m;subst m;exact h
 | .int _,e,h,m=>by simp only [fl,List.mem_singleton] at m;subst m;exact h
 | .str _,e,h,m=>by simp only [fl,List.mem_singleton] at m;subst m;exact h
 | .lst _,e,h,m=>by simp only [fl,List.mem_singleton] at m;subst m;exact h
 | .dic _,e,h,m=>by simp only [fl,List.mem_singleton] at m;subst m;exact h
 | .dct _ _,e,h,m=>by simp only [fl,List.mem_singleton] at m;subst m;exact h
 | .tok,e,h,m=>by simp only [fl,List.mem_singleton] at m;subst m;exact h
theorem flL_okS:∀(ds:List DV) (e:DV),okSL ds=true→e∈flL ds→okS e=true
 | [],e,h,m=>by cases m
 | d::ds,e,h,m=>by
  rw [okSL,Bool.and_eq_true] at h
  rw [flL] at m
  rcases zma m with m|m
  ·exact fl_okS d e h.1 m
  ·exact flL_okS ds e h.2 m
end
theorem okS_leaf (d:DV)(k:Int)(o:DV)(ho:okS o=true)(hd:okS d=true):okS (if k-1=0 then(o,k-1) else(d,k-1)).1=true:=by
 by_cases h:k-1=0
 ·simp only [if_pos h];exact ho
 ·simp only [if_neg h];exact hd
mutual
theorem ch_okS:∀(d:DV) (k:Int) (o:DV),okS o=true→okS d=true→okS (chD d k o).1=true
 | .tup ds,k,o,ho,hd=>by
  rw [okS] at hd
  rw [chD]
  by_cases h:k-1=0
  ·rw [if_pos h];exact ho
  ·rw [if_neg h]
   show okS (.tup _)=true
   rw [okS]
   exact chL_okS ds (k-1) o ho hd
 | .non,k,o,ho,hd=>okS_leaf _ k o ho hd
 | .bl _,k,o,ho,hd=>okS_leaf _ k o ho hd
 | .int _,k,o,ho,hd=>okS_leaf _ k o ho hd
 | .str _,k,o,ho,hd=>okS_leaf _ k o ho hd
 | .lst _,k,o,ho,hd=>okS_leaf _ k o ho hd
 | .dic _,k,o,ho,hd=>okS_leaf _ k o ho hd
 | .dct _ _,k,o,ho,hd=>okS_leaf _ k o ho hd
 | .tok,k,o,ho,hd=>okS_leaf _ k o ho hd
theorem chL_okS:∀(ds:List DV) (k:Int) (o:DV),okS o=true→okSL ds=true→okSL (chL ds k o).1=true
 | [],k,o,ho,hd=>rfl
 | d::ds,k,o,ho,hd=>by
  rw [okSL,Bool.and_eq_true] at hd
  rw [chL]
  show okSL (_::_)=true
  rw [okSL,ch_okS d k o ho hd.1,chL_okS ds _ o ho hd.2]
  rfl
end
open PyData in
mutual
theorem lay_of:∀(d:DV),pl d=true→okS d=true→∃x,toDV d=some x∧x.canLay0=true∧x.depth≤dp d
 | .non,_,_=>⟨_,rfl,rfl,by simp [depth]⟩
 | .bl _,_,_=>⟨_,rfl,rfl,by simp [depth]⟩
 | .int _,_,_=>⟨_,rfl,rfl,by simp [depth]⟩
 | .str s,_,h=>⟨_,rfl,by rw [okS] at h;simp [canLay0,h],by simp [depth]⟩
 | .tup ds,hp,h=>by
  rw [pl] at hp
  rw [okS] at h
  obtain⟨xs,e,h1,h2⟩:=layL_of ds hp h
  refine⟨.tuple xs,by rw [toDV,e];rfl,by simpa [canLay0] using h1,?_⟩
  simp only [depth,dp];omega
 | .lst _,hp,_=>by cases hp
 | .dic _,hp,_=>by cases hp
 | .dct _ _,hp,_=>by cases hp
 | .tok,hp,_=>by cases hp
theorem layL_of:∀(ds:List DV),plL ds=true→okSL ds=true→∃xs,toDVs ds=some xs∧canLayAll0 xs=true∧depthAll xs≤dpL ds
 | [],_,_=>⟨[],rfl,by simp [canLayAll0],by simp [depthAll]⟩
 | d::ds,hp,h=>by
  rw [plL,Bool.and_eq_true] at hp
  rw [okSL,Bool.and_eq_true] at h
  obtain⟨x,e1,h1,h2⟩:=lay_of d hp.1 h.1
  obtain⟨xs,e2,h3,h4⟩:=layL_of ds hp.2 h.2
  refine⟨x::xs,by rw [toDVs,e1,e2];rfl,by simp [canLayAll0,h1,h3],?_⟩
  simp only [depthAll,dpL];omega
end
end V2
end
section
set_option autoImplicit false
namespace L2
open PySem PySem.Spec PyProof.Rows
end L2
end
section
set_option autoImplicit false
namespace Rf
open PySem PySem.Spec L2 PyProof.Rows
abbrev tT (kvs:List (List Int×Int)):List (List Key×V):=kvs.map fun q=>(q.1.map Sum.inl,V.int q.2)
end Rf
end
section
set_option autoImplicit false
namespace RZ3
open PySem
open Sem (wp)
open PySem (Str)
structure Got3 (X1 X2 X3:Array Value) (N:Nat) (h:Heap) (ds:List Addr):Prop where
 lo:∀d∈ds,N≤(d:Nat)
 nd:ds.Nodup
 are:∀(j:Nat) (d:Addr),ds[j]?=some d→∃x y u,X1[j]?=some x∧X2[j]?=some y∧X3[j]?=some u∧IsTupOf3 h d x y u
end RZ3
namespace Rf
open PySem PySem.Spec L2 PyProof.Rows
end Rf
end
section
set_option autoImplicit false
namespace Rf
open PySem PySem.Spec L2 PyProof.Rows
end Rf
end
section
set_option autoImplicit false
namespace V2
open PySem Rf L2
end V2
end
section
set_option autoImplicit false
namespace Rf
open PySem PySem.Spec L2 PyProof.Rows
end Rf
end
section
set_option autoImplicit false
namespace V2
open PySem Rf L2
end V2
end
section
set_option autoImplicit false
namespace Rf
open PySem PySem.Spec L2
end Rf
end
section
set_option autoImplicit false
namespace Rf
open L2
open PySem (Str)
section
variable {env env1 env2:Env}{m m1 m2 m3:Mem}{a b:Ex}{mA:Ax}{ta tb:Tx}{sa sb:Sx}{i n C:Nat}{F:Fn}{p q v:PV}{ps:List PV}{r:PV×Mem}
theorem Rva (h:env[i]?=some (some p)):Xv i env m=some (p,m):=by unfold Xv;rw [h]
theorem rN:An env m=some ([],m):=rfl
theorem Rca (h:a env m=some (p,m1))(h':mA env m1=some (ps,m2)):Ac a mA env m=some (p::ps,m2):=by unfold Ac;rw [h];simp only [zob];rw [h'];rfl
theorem Rka (h:mA env m=some (ps,m1))(hl:ps.length=n)(hf:F ps m1=some r):Xc n F mA env m=some r:=by unfold Xc;rw [h];simp only [zob];rw [if_pos hl];exact hf
theorem rsq (h:sa env m=some (.nx,env1,m1)):sSq sa sb env m=sb env1 m1:=by unfold sSq;rw [h];rfl
theorem ras_at (h:a env m=some (p,m1))(hs:env.set i (some p)=env1):sAs a (gNm i) env m=some (.nx,env1,m1):=by unfold sAs gNm;rw [h];simp only [zob];rw [hs]
theorem rfn_rt {N:Nat}{E:Env}(h:startE N ps=E)(hb:sa E m=some (.rt v,env1,m1)):fnF N sa ps m=some (v,m1):=by rw [e_fn,h,hb];rfl
end
end Rf
end
section
set_option autoImplicit false
namespace Rf
open PySem PySem.Spec L2 PyProof.Rows
section
variable {X:Cx}{cl:Nat→Addr}{pos:Pos}
structure RPs (cl:Nat→Addr) (X:Cx) (pos:Pos) (keys:List (Option Expr)) (values:List Expr) (ks:List Str) (mA:Ax):Prop where
 run:∃trs,PPs X pos keys values trs∧∀ σ H (Q:List (V×V)→Hp→Prop),(∃ ρ env mem r,RelM X.K cl ρ H mem∧RelE X.K ρ H σ env∧mA env mem=some r∧r.1.length=ks.length∧∀ ρ' vs H',Ext X.K ρ H ρ' H'→RelM X.K cl ρ' H' r.2→RepL X.K ρ' H' r.1 vs→Q ((ks.map V.str).zip vs) H')→tPairs trs σ H Q
end
end Rf
end
section
set_option autoImplicit false
namespace V2
open PySem Rf L2
end V2
end
section
namespace V2
open Rf L2
open PySem (Str)
variable {T:Tk}
def repV:DV→DV→Option DV
 | .lst s,.int k=>if -(2 ^ 63)≤k∧k<2 ^ 63∧s.length*k.toNat≤PySem.sizeLine then some (.lst (List.replicate k.toNat s).flatten) else none
 | _,_=>none
theorem d2l_rep {A:Nat→Prop}{m:Mem}{ds:List DV}{ps:List PV}(h:D2L T A m ds ps):∀k:Nat,D2L T A m (List.replicate k ds).flatten (List.replicate k ps).flatten
 | 0=>.nil
 | k+1=>by
  rw [List.replicate_succ,List.replicate_succ,List.flatten_cons,List.flatten_cons]
  exact h.append (d2l_rep h k)
theorem o_rep:Op2f repV mulG T:=fun A m c d p e q w D E r z=>by
 cases d with
 | lst i=>cases e with
  | int j=>
   simp only [repV] at z
   split at z
   ·rename_i hb
    cases z
    obtain⟨k,ps,rfl,n1,l1,g1,h1⟩:=dt_lst D
    obtain rfl:=dt_int E
    obtain⟨z1,z2,z3⟩:=fs_new w (d2l_rep h1 j.toNat)
    exact⟨_,_,A,by simp only [mulG,g1];rw [if_pos (by rw [h1.length];exact hb)],z1,z2,z3⟩
   ·cases z
  | _=>cases z
 | _=>cases z
end V2
end
section
set_option autoImplicit false
namespace Rf
open PySem PySem.Spec L2
abbrev Xn:=Nat×List (Str×PV)
inductive Rs (α:Type) where
 | ok (a:α)|ex (x:Xn)
abbrev ExW:=Env→Mem→Option (Rs PV×Mem)
abbrev AxW:=Env→Mem→Option (Rs (List PV)×Mem)
abbrev SxW:=Env→Mem→Option (Rs (Fl×Env)×Mem)
abbrev FnW:=List PV→Mem→Option (Rs PV×Mem)
section
variable (K:PySem.W.Frag)(cl:Nat→Addr)(ρ:List Addr)(H:Hp)
def RepX (x:Xn)(cls:Value)(d:Option Addr):Prop:=cls=.ref (cl x.1)∧((x.2=[]∧d=none)∨∃dd gs,x.2≠[]∧d=some dd∧H dd=some (.xd gs)∧RepF K ρ H x.2 gs)
def KX (r:Xn×Mem)(E:XK):Prop:=∀ ρ' H' cls d,Ext K ρ H ρ' H'→RelM K cl ρ' H' r.2→RepX K cl ρ' H' r.1 cls d→E cls d H'
def KEW (r:Rs PV×Mem)(Q:VK)(E:XK):Prop:=match r with
 | (.ok p,m)=>KE K cl ρ H (p,m) Q
 | (.ex x,m)=>KX K cl ρ H (x,m) E
def KAW (r:Rs (List PV)×Mem)(Q:List V→Hp→Prop)(E:XK):Prop:=match r with
 | (.ok p,m)=>KA K cl ρ H (p,m) Q
 | (.ex x,m)=>KX K cl ρ H (x,m) E
def KSW (r:Rs (Fl×Env)×Mem)(D:Ends)(E:XK):Prop:=match r with
 | (.ok p,m)=>KS K cl ρ H (p.1,p.2,m) D
 | (.ex x,m)=>KX K cl ρ H (x,m) E
end
section
variable {K:PySem.W.Frag}{cl:Nat→Addr}{ρ ρ':List Addr}{H H':Hp}{E:XK}
theorem KX.ext {r:Xn×Mem}(h:KX K cl ρ H r E)(e:Ext K ρ H ρ' H'):KX K cl ρ' H' r E:=fun ρ2 H2 c d e2=>h ρ2 H2 c d (e.trans e2)
theorem KEW.ext {r:Rs PV×Mem}{Q:VK}(h:KEW K cl ρ H r Q E)(e:Ext K ρ H ρ' H'):KEW K cl ρ' H' r Q E:=by
 obtain⟨r,m⟩:=r
 cases r with
 | ok p=>exact KE.ext h e
 | ex x=>exact KX.ext h e
theorem KSW.ext {r:Rs (Fl×Env)×Mem}{D:Ends}(h:KSW K cl ρ H r D E)(e:Ext K ρ H ρ' H'):KSW K cl ρ' H' r D E:=by
 obtain⟨r,m⟩:=r
 cases r with
 | ok p=>exact KS.ext h e
 | ex x=>exact KX.ext h e
end
section
variable (K:PySem.W.Frag)(cl:Nat→Addr)(E:XK)
def TXW (m:ExW):TE:=fun σ H Q=>∃ ρ env mem r,RelM K cl ρ H mem∧RelE K ρ H σ env∧m env mem=some r∧KEW K cl ρ H r Q E
def TAXW (m:AxW):TA:=fun σ H Q=>∃ ρ env mem r,RelM K cl ρ H mem∧RelE K ρ H σ env∧m env mem=some r∧KAW K cl ρ H r Q E
def TSXW (m:SxW):TS:=fun D σ H=>∃ ρ env mem r,RelM K cl ρ H mem∧RelE K ρ H σ env∧m env mem=some r∧KSW K cl ρ H r D E
def SpW (n:Nat)(F:FnW):Sp:=fun vs H Q E=>∃ ρ ps mem r,ps.length=n∧RelM K cl ρ H mem∧RepL K ρ H ps vs∧F ps mem=some r∧KEW K cl ρ H r Q E
end
abbrev RXW (cl:Nat→Addr)(X:Cx)(E:XK)(e:Expr)(m:ExW):Prop:=PE X e (TXW X.K cl E m)
abbrev RAW (cl:Nat→Addr)(X:Cx)(E:XK)(e:List Expr)(m:AxW):Prop:=PA X e (TAXW X.K cl E m)
abbrev RSW (cl:Nat→Addr)(X:Cx)(E:XK)(e:Stmt)(m:SxW):Prop:=PS X e (TSXW X.K cl E m)
abbrev RSsW (cl:Nat→Addr)(X:Cx)(E:XK)(e:List Stmt)(m:SxW):Prop:=PSs X e (TSXW X.K cl E m)
abbrev TkE (X:Cx)(E:XK):Prop:=Takes X fun c d _ H=>E c d H
section
variable {X:Cx}{cl:Nat→Addr}{E:XK}
def wE (a:Ex):ExW:=fun env m=>(a env m).map fun r=>(.ok r.1,r.2)
def wA (a:Ax):AxW:=fun env m=>(a env m).map fun r=>(.ok r.1,r.2)
def wS (a:Sx):SxW:=fun env m=>(a env m).map fun r=>(.ok (r.1,r.2.1),r.2.2)
variable {e:Expr}{es:List Expr}{st:Stmt}{sts:List Stmt}{pos p:Pos}{x:Str}
theorem rxw {m:Ex}(h:RX cl X e m):RXW cl X E e (wE m):=PE.imp h fun σ H Q ⟨ρ,env,mem,r,hm,hE,h,q⟩=>by
 unfold wE at h
 obtain⟨r1,h1,rfl⟩:=zmm h
 exact⟨ρ,env,mem,r1,hm,hE,h1,q⟩
theorem raw {m:Ax}(h:RA cl X es m):RAW cl X E es (wA m):=PA.imp h fun σ H Q ⟨ρ,env,mem,r,hm,hE,h,q⟩=>by
 unfold wA at h
 obtain⟨r1,h1,rfl⟩:=zmm h
 exact⟨ρ,env,mem,r1,hm,hE,h1,q⟩
theorem rsw {m:Sx}(h:RS cl X st m):RSW cl X E st (wS m):=PS.imp h fun D σ H ⟨ρ,env,mem,r,hm,hE,h,q⟩=>by
 unfold wS at h
 obtain⟨r1,h1,rfl⟩:=zmm h
 exact⟨ρ,env,mem,r1,hm,hE,h1,q⟩
theorem rssw {m:Sx}(h:RSs cl X sts m):RSsW cl X E sts (wS m):=PSs.imp h fun D σ H ⟨ρ,env,mem,r,hm,hE,h,q⟩=>by
 unfold wS at h
 obtain⟨r1,h1,rfl⟩:=zmm h
 exact⟨ρ,env,mem,r1,hm,hE,h1,q⟩
def bw {α β:Type}(f:α→Mem→Option (Rs β×Mem)):Rs α×Mem→Option (Rs β×Mem)
 | (.ok a,m)=>f a m
 | (.ex x,m)=>some (.ex x,m)
def wCons (a:ExW)(r:AxW):AxW:=fun env m=>(a env m).bind (bw fun x m1=>(r env m1).bind (bw fun xs m2=>some (.ok (x::xs),m2)))
theorem raw_cons {ma:ExW}{mr:AxW}(ha:RXW cl X E e ma)(hr:RAW cl X E es mr)(hs:starEach (e::es) X.env=(false,eval e X.env)::starEach es X.env:=by rfl):RAW cl X E (e::es) (wCons ma mr):=
 PA.imp (pa_cons ha hr hs) fun σ H Q ⟨ρ,env,mem,r,hm,hE,h,q⟩=>by
  unfold wCons at h
  obtain⟨⟨r1,m1⟩,h1,h⟩:=zbm h
  refine⟨ρ,env,mem,(r1,m1),hm,hE,h1,?_⟩
  cases r1 with
  | ex x=>cases h;exact q
  | ok p1=>
   intro ρ1 v1 H1 e1 n1 y1
   obtain⟨⟨r2,m2⟩,h2,h3⟩:=zbm h
   refine⟨ρ1,env,m1,(r2,m2),n1,hE.ext e1,h2,?_⟩
   cases r2 with
   | ex x=>cases h3;exact KX.ext q e1
   | ok ps=>
    cases h3
    exact fun ρ2 vs H2 e2 n2 y2=>q ρ2 _ H2 (e1.trans e2) n2 (.cons (e2.rep _ _ y1) y2)
def xCallW (n:Nat)(F:FnW)(a:Ax):ExW:=fun env m=>(a env m).bind fun r=>if r.1.length=n then F r.1 r.2 else none
theorem tk_at (tk:TkE X E)(σ:L2.St):PassesAt (L2.CX X.prog X.w) X σ E:=passAt (W:=fun c d _ H=>E c d H) tk σ
theorem rxw_call {k j n:Nat}{F:FnW}{mA:Ax}{f:Addr}{fd:FuncData}{ps:List Str}(tk:TkE X E)(C:FnOk X.prog X.w X.K X.mg X.base (L2.CX X.prog X.w) k f fd ps (SpW X.K cl n F))(hm:X.mg x=some (.ref f))(kp:W.keepIn X.K (.ref f)=true)(b:Binds X.K fd ps [])
  (hr:Room j X.A) (hk:k≤j) (hg:Gl X x) (ha:RA cl X (e::es) mA) (hdb:(x == ("__debug__":Str))=false:=by decide) (he:starEach (e::es) X.env=(false,eval e X.env)::starEach es X.env:=by rfl) (hpl:(backTo pos (starEach es X.env)).any (·.1)=false:=by rfl):
  RXW cl X E (.Call (.Name x p) (e::es) [] pos) (xCallW n F mA):=
 PE.imp (pe_callS (E:=fun _=>E) C (hr.mono hk) hg hm kp b (fun σ=>tk_at tk σ) ha hdb he hpl) fun σ H Q ⟨ρ,env,mem,r,hM,hE,h,q⟩=>by
  unfold xCallW at h
  obtain⟨r1,h1,h2⟩:=zbm h
  refine⟨ρ,env,mem,r1,hM,hE,h1,fun ρ1 v1 H1 e1 m1 p1=>?_⟩
  split at h2
  ·rename_i hl
   exact⟨ρ1,r1.1,r1.2,r,hl,m1,p1,h2,q.ext e1⟩
  ·cases h2
def CalW (P:Program)(w:World)(K:PySem.W.Frag)(mg:Str→Option Value)(base:Heap)(k:Nat)(x:Str)(sp:Sp):Prop:=∃(f:Addr) (fd:FuncData) (ps:List Str),FnOk P w K mg base (L2.CX P w) k f fd ps sp∧mg x=some (.ref f)∧W.keepIn K (.ref f)=true∧Binds K fd ps []
theorem rxw_callC {k j n:Nat}{F:FnW}{mA:Ax}(tk:TkE X E)(c:CalW X.prog X.w X.K X.mg X.base k x (SpW X.K cl n F))(hr:Room j X.A)(hk:k≤j)(hg:Gl X x)(ha:RA cl X (e::es) mA)(hdb:(x == ("__debug__":Str))=false:=by decide)
  (he:starEach (e::es) X.env=(false,eval e X.env)::starEach es X.env:=by rfl) (hpl:(backTo pos (starEach es X.env)).any (·.1)=false:=by rfl):RXW cl X E (.Call (.Name x p) (e::es) [] pos) (xCallW n F mA):=by
 obtain⟨f,fd,ps,C,hm,kp,b⟩:=c
 exact rxw_call tk C hm kp b hr hk hg ha hdb he hpl
def xAW (g:List PV→Mem→Option (PV×Mem))(a:AxW):ExW:=fun env m=>(a env m).bind (bw fun ps m1=>(g ps m1).map fun r=>(.ok r.1,r.2))
theorem rxw_tup {k:Nat}{mA:AxW}(h:RAW cl X E es mA):RXW cl X E (.Tuple es k pos) (xAW tupG mA):=PE.imp (pe_tupP h) fun σ H Q ⟨ρ,env,mem,r,hm,hE,h,q⟩=>by
 unfold xAW at h
 obtain⟨⟨r1,m1⟩,h1,h⟩:=zbm h
 refine⟨ρ,env,mem,(r1,m1),hm,hE,h1,?_⟩
 cases r1 with
 | ex x=>cases h;exact q
 | ok ps=>
  intro ρ1 vs H1 e1 n1 y1
  obtain⟨r2,h2,rfl⟩:=zmm h
  unfold tupG at h2
  split at h2
  ·rename_i hz
   cases h2
   refine⟨by rw [y1.length];exact hz,fun p ob hob hp=>?_⟩
   obtain⟨z1,z2,z3⟩:=new_tup hob n1 y1 hp
   exact KE.ext q e1 _ _ _ z1 z2 z3
  ·cases h2
theorem rxw_lst {mA:AxW}(h:RAW cl X E es mA):RXW cl X E (.List es pos) (xAW lstG mA):=PE.imp (pe_lst h) fun σ H Q ⟨ρ,env,mem,r,hm,hE,h,q⟩=>by
 unfold xAW at h
 obtain⟨⟨r1,m1⟩,h1,h⟩:=zbm h
 refine⟨ρ,env,mem,(r1,m1),hm,hE,h1,?_⟩
 cases r1 with
 | ex x=>cases h;exact q
 | ok ps=>
  intro ρ1 vs H1 e1 n1 y1
  obtain⟨r2,h2,rfl⟩:=zmm h
  unfold lstG at h2
  split at h2
  ·rename_i hz
   cases h2
   refine⟨by rw [y1.length];exact hz,fun p hp=>?_⟩
   obtain⟨z1,z2,z3⟩:=new_lst n1 y1 hp
   exact KE.ext q e1 _ _ _ z1 z2 z3
  ·cases h2
def wSq (a b:SxW):SxW:=fun env m=>(a env m).bind (bw fun r m1=>match r.1 with
 | .nx=>b r.2 m1
 | _=>some (.ok r,m1))
theorem rssw_one {a:SxW}(h:RSW cl X E st a):RSsW cl X E [st] a:=pss_one h
theorem rssw_cons {a b:SxW}(h1:RSW cl X E st a)(h2:RSsW cl X E sts b):RSsW cl X E (st::sts) (wSq a b):=PSs.imp (pss_cons h1 h2) fun D σ H ⟨ρ,env,mem,r,hm,hE,h,q⟩=>by
 unfold wSq at h
 obtain⟨⟨r1,m1⟩,e1,h⟩:=zbm h
 refine⟨ρ,env,mem,(r1,m1),hm,hE,e1,?_⟩
 cases r1 with
 | ex x=>cases h;exact q
 | ok p=>
  obtain⟨f,env1⟩:=p
  intro ρ1 σ1 H1 x1 n1 E1
  cases f with
  | nx=>exact⟨ρ1,env1,m1,r,n1,E1,h,q.ext x1⟩
  | rt v=>cases h;exact q ρ1 σ1 H1 x1 n1 E1
  | bk=>cases h;exact q ρ1 σ1 H1 x1 n1 E1
  | ct=>cases h;exact q ρ1 σ1 H1 x1 n1 E1
def wIf (t:Tx)(a b:SxW):SxW:=fun env m=>(t env m).bind fun r=>if r.1=true then a env r.2 else b env r.2
theorem rsw_if {c:Expr}{tc:Tx}{xs ys:List Stmt}{a b:SxW}(hc:RT cl X c tc)(ha:RSsW cl X E xs a)(hb:RSsW cl X E ys b):RSW cl X E (.If c xs ys pos) (wIf tc a b):=PS.imp (ps_if hc ha hb) fun D σ H ⟨ρ,env,mem,r,hm,hE,h,q⟩=>by
 unfold wIf at h
 obtain⟨r1,e1,h⟩:=zbm h
 refine⟨ρ,env,mem,r1,hm,hE,e1,fun ρ1 H1 x1 m1=>?_⟩
 split at h
 ·rename_i z
  rw [if_pos z]
  exact⟨ρ1,env,r1.2,r,m1,hE.ext x1,h,q.ext x1⟩
 ·rename_i z
  rw [if_neg z]
  exact⟨ρ1,env,r1.2,r,m1,hE.ext x1,h,q.ext x1⟩
def wEx (a:ExW):SxW:=fun env m=>(a env m).bind (bw fun _ m1=>some (.ok (.nx,env),m1))
theorem rsw_expr {me:ExW}(he:RXW cl X E e me)(hs:swapsWith e none pos.line X.env=pure false:=by rfl):RSW cl X E (.Expr e pos) (wEx me):=PS.imp (ps_expr he hs) fun D σ H ⟨ρ,env,mem,r,hm,hE,h,q⟩=>by
 unfold wEx at h
 obtain⟨⟨r1,m1⟩,e1,h⟩:=zbm h
 refine⟨ρ,env,mem,(r1,m1),hm,hE,e1,?_⟩
 cases r1 with
 | ex x=>cases h;exact q
 | ok p=>cases h;exact fun ρ1 v1 H1 x1 n1 p1=>q ρ1 σ H1 x1 n1 (hE.ext x1)
def wRt (a:ExW):SxW:=fun env m=>(a env m).bind (bw fun v m1=>some (.ok (.rt v,env),m1))
theorem rsw_ret {me:ExW}(he:RXW cl X E e me):RSW cl X E (.Return (some e) pos) (wRt me):=PS.imp (ps_ret he) fun D σ H ⟨ρ,env,mem,r,hm,hE,h,q⟩=>by
 unfold wRt at h
 obtain⟨⟨r1,m1⟩,e1,h⟩:=zbm h
 refine⟨ρ,env,mem,(r1,m1),hm,hE,e1,?_⟩
 cases r1 with
 | ex x=>cases h;exact q
 | ok p=>cases h;exact fun ρ1 v1 H1 x1 n1 p1=>q ρ1 σ H1 x1 n1 (hE.ext x1) v1 p1
def wSet (i:Nat)(a:ExW):SxW:=fun env m=>(a env m).bind (bw fun v m1=>some (.ok (.nx,env.set i (some v)),m1))
theorem rsw_set {i:Nat}{pos':Pos}{me:ExW}(hN:X.N.Nodup)(hi:X.N[i]?=some x)(hx:Loc X.env.scope x)(he:RXW cl X E e me)(hs:swapsWith e (some (.Name x pos')) pos.line X.env=pure false:=by rfl)(hf:X.fn x=true∨X.env.scope.names.lookup x=some .local:=by first|exact .inl rfl|exact .inr rfl|assumption):
  RSW cl X E (.Assign [.Name x pos'] e pos) (wSet i me):=PS.imp (ps_set hN hi hx he hs hf) fun D σ H ⟨ρ,env,mem,r,hm,hE,h,q⟩=>by
 unfold wSet at h
 obtain⟨⟨r1,m1⟩,e1,h⟩:=zbm h
 refine⟨ρ,env,mem,(r1,m1),hm,hE,e1,?_⟩
 cases r1 with
 | ex x=>cases h;exact q
 | ok p=>cases h;exact fun ρ1 v1 H1 x1 n1 p1=>q ρ1 _ H1 x1 n1 ((hE.ext x1).set i p1)
def wRs (c:Nat):SxW:=fun _ m=>some (.ex (c,[]),m)
theorem rsw_raise {C:Addr}{c j:Nat}{bmB:List Value}{B newId initId:String}{msg:Str}{p2 pos':Pos}(hc:X.calm=true)(tk:TkE X E)(hC:cl c=C)(F:ExcBaseFacts B newId initId bmB)(q:PySem.W.excIn X.K C bmB newId=true)(gC:X.mg x=some (.ref C))(kC:W.keepIn X.K (.ref C)=true)(r:Raises X (.ref C))(hg:Gl X x)
  (hdb:(x == ("__debug__":Str))=false:=by decide):RSW cl X E (.Raise (some (.Call (.Name x p) [.Constant (.str msg) j p2] [] pos)) none pos') (wRs c):=
 PS.imp (ps_raise hc tk (pmk_own F q gC kC r hg hdb)) fun D σ H ⟨ρ,env,mem,r,hm,hE,h,q⟩=>by
  cases h
  exact q ρ H _ _ .refl hm ⟨by rw [hC],.inl ⟨rfl,rfl⟩⟩
def forLW (g:Gx)(body:SxW)(gd:List (Nat×Ob)):List PV→Env→Mem→Option (Rs (Fl×Env)×Mem)
 | [],env,m=>some (.ok (.nx,env),m)
 | p::ps,env,m=>(g p env m).bind fun r=>(body r.1 r.2).bind (bw fun s m1=>match s.1 with
  | .nx=>if okG gd m1=true then forLW g body gd ps s.2 m1 else none
  | .ct=>if okG gd m1=true then forLW g body gd ps s.2 m1 else none
  | .bk=>some (.ok (.nx,s.2),m1)
  | .rt _=>some (.ok s,m1))
def wFor (it:Ix)(g:Gx)(body:SxW):SxW:=fun env m=>(it env m).bind fun r=>if okG r.1.guard r.2=true then forLW g body r.1.guard r.1.items env r.2 else none
theorem rsw_for {tg iter:Expr}{mi:Ix}{g:Gx}{sb:SxW}(hp:PassesOwn (model X.prog X.w) X.A X.env X.xe)(hc:X.calm=true)(hi:RI cl X tg iter mi)(hg:RG cl X tg g)(hb:RSsW cl X E sts sb)
  (hs:∀x,foldedSetIterable iter X.env x=pure x:=by intro _;rfl):RSW cl X E (.For tg iter sts [] pos) (wFor mi g sb):=PS.imp (ps_for hp hc hi hg hb hs) fun D σ H ⟨ρ,env,mem,r,hm,hE,h,q⟩=>by
 unfold wFor at h
 obtain⟨r1,e1,h⟩:=zbm h
 split at h
 ·refine⟨ρ,env,mem,r1,hm,hE,e1,fun ρ1 H1 J x1 m1 k1 IJ=>?_⟩
  have q1:=q.ext x1
  refine⟨fun i n σ' H'=>n=r1.1.items.length-i∧i≤r1.1.items.length∧∃ ρ' env' m',Ext X.K ρ1 H1 ρ' H'∧RelM X.K cl ρ' H' m'∧RelE X.K ρ' H' σ' env'∧okG r1.1.guard m'=true∧forLW g sb r1.1.guard (r1.1.items.drop i) env' m'=some r,
   ⟨_,rfl,Nat.zero_le _,ρ1,env,r1.2,.refl,m1,hE.ext x1,k1,h⟩,?_⟩
  rintro i n σ' H' ⟨rfl,hi,ρ',env',m',x2,m2,E2,k2,hf⟩
  by_cases hlt:i<r1.1.items.length
  ·have hd:r1.1.items.drop i=r1.1.items[i]::r1.1.items.drop (i+1):=List.drop_eq_getElem_cons hlt
   rw [hd] at hf
   unfold forLW at hf
   obtain⟨r2,e2,hf⟩:=zbm hf
   obtain⟨⟨r3,mm⟩,e3,hf⟩:=zbm hf
   obtain⟨g1,g2⟩:=IJ.go ρ' H' m' i r1.1.items[i] x2 m2 k2 (List.getElem?_eq_getElem hlt)
   refine .inr ⟨g1,fun σ'' H''=>i+1≤r1.1.items.length∧∃ ρ' env' m',Ext X.K ρ1 H1 ρ' H''∧RelM X.K cl ρ' H'' m'∧RelE X.K ρ' H'' σ'' env'∧okG r1.1.guard m'=true∧forLW g sb r1.1.guard (r1.1.items.drop (i+1)) env' m'=some r,
    fun σ'' H'' hN=>⟨_,by omega,rfl,hN⟩,fun x H'' hy=>?_⟩
   obtain⟨y1,y2,y3⟩:=g2 x H'' hy
   refine⟨ρ',_,env',m',r2,y2,E2.ext y1,y3,e2,fun ρ3 σ3 H3 x3 m3 E3=>⟨ρ3,r2.1,r2.2,(r3,mm),m3,E3,e3,?_⟩⟩
   have xx3:=x2.trans (y1.trans x3)
   cases r3 with
   | ex y=>
    obtain rfl:=zsi hf
    exact KX.ext q1 xx3
   | ok s=>
    obtain⟨f,env4⟩:=s
    intro ρ4 σ4 H4 x4 m4 E4
    have xx:=xx3.trans x4
    cases f with
    | nx=>
     simp only [bw] at hf
     split at hf
     ·rename_i k4
      exact⟨hlt,ρ4,env4,mm,xx,m4,E4,k4,hf⟩
     ·cases hf
    | ct=>
     simp only [bw] at hf
     split at hf
     ·rename_i k4
      exact⟨hlt,ρ4,env4,mm,xx,m4,E4,k4,hf⟩
     ·cases hf
    | bk=>
     obtain rfl:=zsi hf
     exact q1 ρ4 σ4 H4 xx m4 E4
    | rt v=>
     obtain rfl:=zsi hf
     exact q1 ρ4 σ4 H4 xx m4 E4
  ·have e:i=r1.1.items.length:=by omega
   subst e
   rw [List.drop_length] at hf
   obtain rfl:=zsi hf
   exact .inl ⟨IJ.stop ρ' H' m' x2 m2 k2,q1 ρ' σ' H' x2 m2 E2⟩
 ·cases h
end
def fnW (N:Nat)(b:SxW):FnW:=fun ps m=>(b (startE N ps) m).bind (bw fun r m1=>match r.1 with
 | .nx=>some (.ok .non,m1)
 | .rt v=>some (.ok v,m1)
 | _=>none)
section
variable {P:Program}{w:World}{K:PySem.W.Frag}{mg:Str→Option Value}{base:Heap}{cl:Nat→Addr}
theorem fn_okW {x qual:Str}{st:Stmt}{f:Addr}{fd:FuncData}{N ps:List Str}{k n:Nat}{sb:SxW}(F:L2.Fun K x qual st f fd)(S:FnScope N ps (defScope st))(hn:n=ps.length)
  (hb:∀(cdv:Value) (A:Around) (outer:List PySem.Env) (s:Shared) (H:Hp) (E:XK),Room k (A.deeper (PyProof.Rows.envOfC qual (defScope st) s.heap.objs.size f cdv))→TkE (cxOf (L2.CX P w) P w K mg base N qual (defScope st) f cdv A outer s H E) E→
   PassesOwn (model P w) (cxOf (L2.CX P w) P w K mg base N qual (defScope st) f cdv A outer s H E).A (cxOf (L2.CX P w) P w K mg base N qual (defScope st) f cdv A outer s H E).env (cxOf (L2.CX P w) P w K mg base N qual (defScope st) f cdv A outer s H E).xe→
   RSsW cl (cxOf (L2.CX P w) P w K mg base N qual (defScope st) f cdv A outer s H E) E (defBody st) sb):FnOk P w K mg base (L2.CX P w) (k+1) f fd ps (SpW K cl n (fnW N.length sb)):=by
 refine F.okX S (fun vs H Q E h=>?_) fun cdv A outer s H vs Q E hr h=>⟨_,hb cdv A outer s H E hr (takes_of rfl rfl rfl rfl) (passes_of (X:=cxOf (L2.CX P w) P w K mg base N qual (defScope st) f cdv A outer s H E) rfl),?_⟩
 ·obtain⟨ρ,qs,mem,r,h1,h2,h3,h4,h5⟩:=h
  rw [h3.length,h1,hn]
 ·obtain⟨ρ,qs,mem,r,h1,h2,h3,h4,h5⟩:=h
  unfold fnW at h4
  obtain⟨⟨r1,m1⟩,e1,h4⟩:=zbm h4
  refine⟨ρ,_,mem,(r1,m1),h2,start_rep N h3,e1,?_⟩
  cases r1 with
  | ex y=>cases h4;exact h5
  | ok s=>
   obtain⟨fl,env1⟩:=s
   intro ρ1 σ1 H1 x1 n1 E1
   cases fl with
   | nx=>
    obtain rfl:=zsi h4
    exact h5 ρ1 _ H1 x1 n1 (by rw [Rep])
   | rt v=>
    obtain rfl:=zsi h4
    exact fun v' hv=>h5 ρ1 v' H1 x1 n1 hv
   | bk=>cases h4
   | ct=>cases h4
end
abbrev bmVE:List Value:=[.type "ValueError",.type "Exception",.type "BaseException",.type "object"]
structure XcF (K:PySem.W.Frag) (mg:Str→Option Value) (x:Str) (C:Addr):Prop where
 g:mg x=some (.ref C)
 q:PySem.W.excIn K C bmVE "ValueError.__new__"=true
 kp:W.keepIn K (.ref C)=true
 su:PySem.W.subIn K (.ref C) (.type "BaseException")=some true
 ty:PySem.W.typeIn K (.ref C)=some (.type "type")
structure XcC (K:PySem.W.Frag) (mg:Str→Option Value) (x:Str) (C:Addr):Prop where
 g:mg x=some (.ref C)
 ga:W.findIn K (.ref C) "__getattribute__"=some (some (.builtin "BaseException.__getattribute__"))
 gk:W.findIn K (.ref C) "__getattr__"=some none
 su:PySem.W.subIn K (.ref C) (.type "BaseException")=some true
 hd:W.hasDictIn K C=true
 ca:W.findIn K (.ref C) "__class__"=some (some (.builtin "object.__class__"))
 cn:PySem.W.specialIn K (.builtin "object.__class__") "__get__"=some (some (.builtin "getset_descriptor.__get__"))
 ct:PySem.W.takesIn K (.builtin "object.__class__")=some true
 cm:PySem.W.mroIn K C (.type "object")=some true
 ty:PySem.W.typeIn K (.ref C)=some (.type "type")
 sf:PySem.W.subIn K (.ref C) (.ref C)=some true
theorem XcC.exc {K mg x C}(h:XcC K mg x C):ExcC K C:=⟨h.ga,h.gk,h.su,h.hd,h.ca,h.cn,h.ct,h.cm⟩
theorem XcC.self {K mg x C}(h:XcC K mg x C):PySem.W.exmOne K (.ref C) (.ref C)=some true:=PySem.W.exm_ref h.su h.hd h.ty h.sf
theorem XcF.raises {X:Cx}{x:Str}{C:Addr}(h:XcF X.K X.mg x C):Raises X (.ref C):=raises_own h.su h.ty
section
variable {X:Cx}{cl:Nat→Addr}{E:XK}{pos p:Pos}{x y n:Str}
theorem rsw_raiseX {c j:Nat}{msg:Str}{p2 pos':Pos}(hc:X.calm=true)(tk:TkE X E)(F:XcF X.K X.mg x (cl c))(hg:Gl X x)(hdb:(x == ("__debug__":Str))=false:=by decide):RSW cl X E (.Raise (some (.Call (.Name x p) [.Constant (.str msg) j p2] [] pos)) none pos') (wRs c):=
 rsw_raise (C:=cl c) hc tk rfl PySem.F.excBase_ValueError F.q F.g F.kp F.raises hg hdb
end
section
variable {X:Cx}{a D:Addr}{oe:Obj}{pn:List (Addr×Obj)}{pos p p1 p2:Pos}{i:Nat}{n y:Str}
def tIs (i:Nat)(a:Addr)(b:Bool):TE:=fun σ H Q=>σ[i]?=some (some (.ref a))∧Q (.bl b) H
def RHx (X:Cx)(a:Addr)(oe:Obj)(pn:List (Addr×Obj))(e:Expr)(i:Nat)(b:Bool):Prop:=PE (X.suite a ((a,oe)::pn)) e (tIs i a b)
theorem pe_isO {CT:Addr}{b:Bool}(C:ExcC X.K D)(hz:Zc (.ref D) none oe)(hf:∃vs,oe.data=.fields vs)(hN:X.N[i]?=some n)(hv:Vis X.env.scope n)(hg:Gl X "isinstance")(hm:X.mg "isinstance"=none)(hgT:Gl X y)(hmT:X.mg y=some (.ref CT))(k:PySem.W.kitOne X.K (.ref D) (.ref CT)=some b)
  (hd:(n == ("__debug__":Str))=false:=by decide) (hcd:(n == ("__classdict__":Str))=false:=by decide) (hdb:(y == ("__debug__":Str))=false:=by decide):RHx X a oe pn (.Call (.Name "isinstance" p) [.Name n p1,.Name y p2] [] pos) i b:=
 PE.imp (pe_callB (call_isE C hz hf) hg hm (by decide +kernel) (pa_cons (pe_var (X:=X.suite a ((a,oe)::pn)) hN hv hd hcd) (pa_cons (pe_glob (X:=X.suite a ((a,oe)::pn)) (v:=.ref CT) hgT hmT rfl hdb) pa_nil rfl) rfl) (by decide) (by decide) rfl rfl) fun σ H Q ⟨h,q⟩=>
  ⟨_,h,.ref CT,.ref CT,b,rfl,(fun u r=>r),k,q⟩
theorem pe_isNot {e:Expr}{b:Bool}{pos:Pos}(h:RHx X a oe pn e i b):RHx X a oe pn (.UnaryOp .Not e pos) i (!b):=PE.imp (pe_not h) fun σ H Q ⟨h,q⟩=>⟨h,b,rfl,q⟩
theorem pe_isNotF {e:Expr}{pos:Pos}(h:RHx X a oe pn e i false):RHx X a oe pn (.UnaryOp .Not e pos) i true:=pe_isNot h
theorem pe_isOne {op}{e:Expr}{b:Bool}{pos:Pos}(h:RHx X a oe pn e i b):RHx X a oe pn (.BoolOp op [e] pos) i b:=pe_one h
theorem pe_isAnd {e f:Expr}{r:List Expr}{b:Bool}{pos:Pos}(h:RHx X a oe pn e i true)(h2:RHx X a oe pn (.BoolOp .And (f::r) pos) i b):RHx X a oe pn (.BoolOp .And (e::f::r) pos) i b:=PE.imp (pe_and h h2) fun σ H Q ⟨h,q⟩=>⟨h,true,rfl,h,q⟩
end
end Rf
end
section
set_option autoImplicit false
namespace V2
open PySem L2 Rf
abbrev X2:=Nat×List (Str×Int)
def xn (x:X2):Xn:=(x.1,x.2.map fun q=>(q.1,PV.int q.2))
inductive R2 (α:Type) where
 | ok (a:α)|ex (x:X2)
abbrev E2W:=Env2→Cs→Option (R2 DV×Cs)
abbrev A2W:=Env2→Cs→Option (R2 (List DV)×Cs)
abbrev S2W:=Env2→Cs→Option (R2 (Fl2×Env2)×Cs)
abbrev F2W:=List DV→Cs→Option (R2 DV×Cs)
def pE (a:E2):E2W:=fun v c=>(a v c).map fun r=>(.ok r.1,r.2)
def pA (a:A2):A2W:=fun v c=>(a v c).map fun r=>(.ok r.1,r.2)
def pS (a:S2):S2W:=fun v c=>(a v c).map fun r=>(.ok (r.1,r.2.1),r.2.2)
def bp {α β:Type}(f:α→Cs→Option (R2 β×Cs)):R2 α×Cs→Option (R2 β×Cs)
 | (.ok a,c)=>f a c
 | (.ex x,c)=>some (.ex x,c)
def Pc (a:E2W)(r:A2W):A2W:=fun v c=>(a v c).bind (bp fun d c1=>(r v c1).bind (bp fun ds c2=>some (.ok (d::ds),c2)))
def pCall (n:Nat)(F:F2W)(a:A2):E2W:=fun v c=>(a v c).bind fun r=>if r.1.length=n then F r.1 r.2 else none
def pTup (a:A2W):E2W:=fun v c=>(a v c).bind (bp fun ds c1=>if ds.length≤sizeLine then some (.ok (.tup ds),c1) else none)
def pSq (a b:S2W):S2W:=fun v c=>(a v c).bind (bp fun r c1=>match r.1 with
 | .nx=>b r.2 c1
 | _=>some (.ok r,c1))
def pIf (t:T2)(a b:S2W):S2W:=fun v c=>(t v c).bind fun r=>if r.1=true then a v r.2 else b v r.2
def pEx (a:E2W):S2W:=fun v c=>(a v c).bind (bp fun _ c1=>some (.ok (.nx,v),c1))
def pRt (a:E2W):S2W:=fun v c=>(a v c).bind (bp fun d c1=>some (.ok (.rt d,v),c1))
def pSet (i:Nat)(a:E2W):S2W:=fun v c=>(a v c).bind (bp fun d c1=>some (.ok (.nx,v.set i (some (.v d))),c1))
def pRs (k:Nat):S2W:=fun _ c=>some (.ex (k,[]),c)
def pFor (it:I2)(g:P2)(b:S2W):S2W:=fun v c=>(it v c).bind fun r=>go r.1 v r.2
 where go:List DV→Env2→Cs→Option (R2 (Fl2×Env2)×Cs)
 | [],v,c=>some (.ok (.nx,v),c)
 | d::ds,v,c=>(g d v).bind fun v1=>(b v1 c).bind (bp fun s c1=>match s.1 with
  | .nx=>go ds s.2 c1
  | .ct=>go ds s.2 c1
  | .bk=>some (.ok (.nx,s.2),c1)
  | .rt _=>some (.ok s,c1))
def fnp (N:Nat)(b:S2W):F2W:=fun ds c=>(b (start2 N ds) c).bind (bp fun r c1=>match r.1 with
 | .nx=>some (.ok .non,c1)
 | .rt d=>some (.ok d,c1)
 | _=>none)
section
variable (T:Tk)
def RD (A:Nat→Prop)(m:Mem):R2 DV→Rs PV→Prop
 | .ok d,.ok p=>D2 T A m d p
 | .ex x,.ex y=>y=xn x
 | _,_=>False
def RDL (A:Nat→Prop)(m:Mem):R2 (List DV)→Rs (List PV)→Prop
 | .ok d,.ok p=>D2L T A m d p
 | .ex x,.ex y=>y=xn x
 | _,_=>False
def RDS (A:Nat→Prop)(m:Mem)(B:Nat):R2 (Fl2×Env2)→Rs (Fl×Rf.Env)→Prop
 | .ok s,.ok p=>EnvR T A m B s.2 p.2∧FlR T false A m B s.1 p.1
 | .ex x,.ex y=>y=xn x
 | _,_=>False
def WX (e2:E2W)(e:ExW):Prop:=∀A m c B v2 v,WF T A m c→EnvR T A m B v2 v→∀r c',e2 v2 c=some (r,c')→∃p m' A',e v m=some (p,m')∧Xt T A m A' m'∧WF T A' m' c'∧RD T A' m' r p
def WA (e2:A2W)(e:AxW):Prop:=∀A m c B v2 v,WF T A m c→EnvR T A m B v2 v→∀r c',e2 v2 c=some (r,c')→∃p m' A',e v m=some (p,m')∧Xt T A m A' m'∧WF T A' m' c'∧RDL T A' m' r p
def WS (s2:S2W)(s:SxW):Prop:=∀A m c B v2 v,WF T A m c→EnvR T A m B v2 v→B≤m.length→∀r c',s2 v2 c=some (r,c')→∃p m' A',s v m=some (p,m')∧Xs T B A m A' m'∧WF T A' m' c'∧RDS T A' m' B r p
def WFn (f2:F2W)(f:FnW):Prop:=∀A m c ds ps,WF T A m c→D2L T A m ds ps→∀r c',f2 ds c=some (r,c')→∃p m' A',f ps m=some (p,m')∧Xt T A m A' m'∧WF T A' m' c'∧RD T A' m' r p
end
section
variable {T:Tk}{e2:E2}{e:Ex}{a2:E2W}{a:ExW}{r2:A2W}{ra:AxW}{as2:A2}{as:Ax}{s2 t2:S2W}{s t:SxW}{u2:T2}{u:Tx}
theorem wx_e (h:SX T e2 e):WX T (pE e2) (wE e):=fun A m c B v2 v w E r c' q=>by
 obtain⟨⟨d,c1⟩,q1,q⟩:=zmm q
 cases q
 obtain⟨p,m1,A1,h1,h2⟩:=h A m c B v2 v w E _ _ q1
 exact⟨.ok p,m1,A1,by unfold wE;rw [h1];rfl,h2⟩
theorem wa_a (h:SA T as2 as):WA T (pA as2) (wA as):=fun A m c B v2 v w E r c' q=>by
 obtain⟨⟨d,c1⟩,q1,q⟩:=zmm q
 cases q
 obtain⟨p,m1,A1,h1,h2⟩:=h A m c B v2 v w E _ _ q1
 exact⟨.ok p,m1,A1,by unfold wA;rw [h1];rfl,h2⟩
theorem ws_s {x2:S2}{x:Sx}(h:SS T false x2 x):WS T (pS x2) (wS x):=fun A m c B v2 v w E hB r c' q=>by
 obtain⟨⟨f,v1,c1⟩,q1,q⟩:=zmm q
 cases q
 obtain⟨f',v',m1,A1,h1,h2,h3,h4,h5⟩:=h A m c B v2 v w E hB _ _ _ q1
 exact⟨.ok (f',v'),m1,A1,by unfold wS;rw [h1];rfl,h2,h3,h4,h5⟩
theorem wa_cons (h:WX T a2 a)(h':WA T r2 ra):WA T (Pc a2 r2) (wCons a ra):=fun A m c B v2 v w E r c' q=>by
 obtain⟨⟨d,c1⟩,q1,q⟩:=zbm q
 obtain⟨p,m1,A1,h1,h2,h3,h4⟩:=h A m c B v2 v w E _ _ q1
 cases d with
 | ex x=>
  cases q
  cases p with
  | ok _=>exact h4.elim
  | ex y=>exact⟨.ex y,m1,A1,by unfold wCons;rw [h1];rfl,h2,h3,h4⟩
 | ok d=>
  cases p with
  | ex _=>exact h4.elim
  | ok p=>
   have h4:D2 T A1 m1 d p:=h4
   obtain⟨⟨ds,c2⟩,q2,q⟩:=zbm q
   obtain⟨ps,m2,A2,h5,h6,h7,h8⟩:=h' A1 m1 _ B v2 v h3 (E.x w h2) _ _ q2
   cases ds with
   | ex x=>
    cases q
    cases ps with
    | ok _=>exact h8.elim
    | ex y=>exact⟨.ex y,m2,A2,by unfold wCons;rw [h1];simp only [zob,bw];rw [h5];rfl,h2.trans h6,h7,h8⟩
   | ok ds=>
    cases q
    cases ps with
    | ex _=>exact h8.elim
    | ok ps=>exact⟨.ok (p::ps),m2,A2,by unfold wCons;rw [h1];simp only [zob,bw];rw [h5];rfl,h2.trans h6,h7,.cons (h4.x h3 h6) h8⟩
theorem wx_call {n:Nat}{f2:F2W}{f:FnW}(hf:WFn T f2 f)(h:SA T as2 as):WX T (pCall n f2 as2) (xCallW n f as):=fun A m c B v2 v w E r c' q=>by
 obtain⟨⟨d,c1⟩,q1,q⟩:=zbm q
 obtain⟨ps,m1,A1,h1,h2,h3,h4⟩:=h A m c B v2 v w E _ _ q1
 split at q
 ·rename_i hl
  obtain⟨p',m2,A2,h5,h6,h7,h8⟩:=hf A1 m1 _ _ _ h3 h4 _ _ q
  exact⟨p',m2,A2,by unfold xCallW;rw [h1];simp only [zob];rw [if_pos (by rw [h4.length];exact hl)];exact h5,h2.trans h6,h7,h8⟩
 ·cases q
theorem wx_tup (h:WA T r2 ra):WX T (pTup r2) (xAW tupG ra):=fun A m c B v2 v w E r c' q=>by
 obtain⟨⟨d,c1⟩,q1,q⟩:=zbm q
 obtain⟨ps,m1,A1,h1,h2,h3,h4⟩:=h A m c B v2 v w E _ _ q1
 cases d with
 | ex x=>
  cases q
  cases ps with
  | ok _=>exact h4.elim
  | ex y=>exact⟨.ex y,m1,A1,by unfold xAW;rw [h1];rfl,h2,h3,h4⟩
 | ok d=>
  cases ps with
  | ex _=>exact h4.elim
  | ok ps=>
   have h4:D2L T A1 m1 d ps:=h4
   simp only [bp] at q
   split at q
   ·rename_i hl
    cases q
    exact⟨.ok (.tup ps),m1,A1,by unfold xAW;rw [h1];simp only [zob,bw];unfold tupG;rw [if_pos (by rw [h4.length];exact hl)];rfl,h2,h3,by show D2 T A1 m1 (.tup d) (.tup ps);rw [d2_tup];exact⟨ps,rfl,h4⟩⟩
   ·cases q
theorem ws_sq (h:WS T s2 s)(h':WS T t2 t):WS T (pSq s2 t2) (wSq s t):=fun A m c B v2 v w E hB r c' q=>by
 obtain⟨⟨f,c1⟩,q1,q⟩:=zbm q
 obtain⟨g,m1,A1,h1,h2,h3,h4⟩:=h A m c B v2 v w E hB _ _ q1
 cases f with
 | ex x=>
  cases q
  cases g with
  | ok _=>exact h4.elim
  | ex y=>exact⟨.ex y,m1,A1,by unfold wSq;rw [h1];rfl,h2,h3,h4⟩
 | ok f=>
  obtain⟨f,v1⟩:=f
  cases g with
  | ex _=>exact h4.elim
  | ok g=>
   obtain⟨g,u1⟩:=g
   obtain⟨h4,h5⟩:EnvR T A1 m1 B v1 u1∧FlR T false A1 m1 B f g:=h4
   cases f with
   | nx=>
    obtain rfl:g=.nx:=h5
    obtain⟨g',m2,A2,h6,h7,h8,h9⟩:=h' A1 m1 c1 B v1 u1 h3 h4 (znt hB h2.le) _ _ q
    exact⟨g',m2,A2,by unfold wSq;rw [h1];exact h6,h2.trans h7,h8,h9⟩
   | bk=>
    obtain rfl:g=.bk:=h5
    cases q
    exact⟨.ok (.bk,u1),m1,A1,by unfold wSq;rw [h1];rfl,h2,h3,h4,rfl⟩
   | ct=>
    obtain rfl:g=.ct:=h5
    cases q
    exact⟨.ok (.ct,u1),m1,A1,by unfold wSq;rw [h1];rfl,h2,h3,h4,rfl⟩
   | rt d=>
    cases q
    obtain⟨p,rfl,k⟩:=h5
    exact⟨.ok (.rt p,u1),m1,A1,by unfold wSq;rw [h1];rfl,h2,h3,h4,p,rfl,k⟩
theorem ws_if (ht:ST T u2 u)(ha:WS T s2 s)(hb:WS T t2 t):WS T (pIf u2 s2 t2) (wIf u s t):=fun A m c B v2 v w E hB r c' q=>by
 obtain⟨⟨d,c1⟩,q1,q⟩:=zbm q
 obtain⟨m1,A1,h1,h2,h3⟩:=ht A m c B v2 v w E _ _ q1
 have hB1:=znt hB h2.le
 split at q
 ·rename_i z
  obtain⟨f,m2,A2,h4,h5,h6⟩:=ha A1 m1 c1 B v2 v h3 (E.x w h2) hB1 _ _ q
  exact⟨f,m2,A2,by unfold wIf;rw [h1];simp only [zob];rw [if_pos z];exact h4,(h2.s w hB).trans h5,h6⟩
 ·rename_i z
  obtain⟨f,m2,A2,h4,h5,h6⟩:=hb A1 m1 c1 B v2 v h3 (E.x w h2) hB1 _ _ q
  exact⟨f,m2,A2,by unfold wIf;rw [h1];simp only [zob];rw [if_neg z];exact h4,(h2.s w hB).trans h5,h6⟩
theorem ws_ex (h:WX T a2 a):WS T (pEx a2) (wEx a):=fun A m c B v2 v w E hB r c' q=>by
 obtain⟨⟨d,c1⟩,q1,q⟩:=zbm q
 obtain⟨p,m1,A1,h1,h2,h3,h4⟩:=h A m c B v2 v w E _ _ q1
 cases d with
 | ex x=>
  cases q
  cases p with
  | ok _=>exact h4.elim
  | ex y=>exact⟨.ex y,m1,A1,by unfold wEx;rw [h1];rfl,h2.s w hB,h3,h4⟩
 | ok d=>
  cases q
  cases p with
  | ex _=>exact h4.elim
  | ok p=>exact⟨.ok (.nx,v),m1,A1,by unfold wEx;rw [h1];rfl,h2.s w hB,h3,E.x w h2,rfl⟩
theorem ws_rt (h:WX T a2 a):WS T (pRt a2) (wRt a):=fun A m c B v2 v w E hB r c' q=>by
 obtain⟨⟨d,c1⟩,q1,q⟩:=zbm q
 obtain⟨p,m1,A1,h1,h2,h3,h4⟩:=h A m c B v2 v w E _ _ q1
 cases d with
 | ex x=>
  cases q
  cases p with
  | ok _=>exact h4.elim
  | ex y=>exact⟨.ex y,m1,A1,by unfold wRt;rw [h1];rfl,h2.s w hB,h3,h4⟩
 | ok d=>
  cases q
  cases p with
  | ex _=>exact h4.elim
  | ok p=>exact⟨.ok (.rt p,v),m1,A1,by unfold wRt;rw [h1];rfl,h2.s w hB,h3,E.x w h2,p,rfl,by rw [if_neg Bool.false_ne_true];exact h4⟩
theorem ws_set {i:Nat}(h:WX T a2 a):WS T (pSet i a2) (wSet i a):=fun A m c B v2 v w E hB r c' q=>by
 obtain⟨⟨d,c1⟩,q1,q⟩:=zbm q
 obtain⟨p,m1,A1,h1,h2,h3,h4⟩:=h A m c B v2 v w E _ _ q1
 cases d with
 | ex x=>
  cases q
  cases p with
  | ok _=>exact h4.elim
  | ex y=>exact⟨.ex y,m1,A1,by unfold wSet;rw [h1];rfl,h2.s w hB,h3,h4⟩
 | ok d=>
  cases q
  cases p with
  | ex _=>exact h4.elim
  | ok p=>
   have h4:D2 T A1 m1 d p:=h4
   exact⟨.ok (.nx,v.set i (some p)),m1,A1,by unfold wSet;rw [h1];rfl,h2.s w hB,h3,(E.x w h2).set i h4,rfl⟩
theorem ws_rs {k:Nat}:WS T (pRs k) (wRs k):=fun A m c B v2 v w E hB r c' q=>by
 cases q
 exact⟨.ex (k,[]),m,A,rfl,.refl,w,rfl⟩
theorem forW_sim {g2:P2}{g:Gx}(hg:SG T g2 g)(hb:WS T s2 s){B:Nat}{gd:List (Nat×Ob)}:∀(ds:List DV) (A:Nat→Prop) (m:Mem) (c:Cs) (items:List PV) (v2:Env2) (v:Rf.Env),WF T A m c→EnvR T A m B v2 v→B≤m.length→D2L T A m ds items→okG gd m=true→(∀q∈gd,A q.1)→
  ∀r c',pFor.go g2 s2 ds v2 c=some (r,c')→∃p m' A',forLW g s gd items v m=some (p,m')∧Xs T B A m A' m'∧WF T A' m' c'∧RDS T A' m' B r p
 | [],A,m,c,items,v2,v,w,E,hB,D,kg,hgd,r,c',q=>by
  cases q
  rw [D.inv0]
  exact⟨.ok (.nx,v),m,A,rfl,.refl,w,E,rfl⟩
 | d::ds,A,m,c,items,v2,v,w,E,hB,D,kg,hgd,r,c',q=>by
  obtain⟨p,ps,rfl,D1,Dr⟩:=D.inv
  unfold pFor.go at q
  obtain⟨u2,q1,q⟩:=zbm q
  obtain⟨⟨f,c3⟩,q2,q⟩:=zbm q
  obtain⟨u,g1,E1⟩:=hg A m B v2 v d p E D1 _ q1
  obtain⟨f',m1,A1,h1,h2,h3,h4⟩:=hb A m c B u2 u w E1 hB _ _ q2
  have kg1:=okG_xs h2 hgd kg
  have hB1:=znt hB h2.le
  cases f with
  | ex x=>
   cases q
   cases f' with
   | ok _=>exact h4.elim
   | ex y=>exact⟨.ex y,m1,A1,by unfold forLW;rw [g1];simp only [zob];rw [h1];rfl,h2,h3,h4⟩
  | ok f=>
   obtain⟨f,v3⟩:=f
   cases f' with
   | ex _=>exact h4.elim
   | ok f'=>
    obtain⟨f',v'⟩:=f'
    obtain⟨h4,h5⟩:EnvR T A1 m1 B v3 v'∧FlR T false A1 m1 B f f':=h4
    have go:pFor.go g2 s2 ds v3 c3=some (r,c')→(f'=.nx∨f'=.ct)→∃f m' A',forLW g s gd (p::ps) v m=some (f,m')∧Xs T B A m A' m'∧WF T A' m' c'∧RDS T A' m' B r f:=fun q e=>by
     obtain⟨f3,m2,A2,r1,r2,r3⟩:=forW_sim hg hb ds A1 m1 c3 ps v3 v' h3 h4 hB1 (Dr.xs h2) kg1 (fun q hq=>h2.up _ (hgd q hq)) _ _ q
     refine⟨f3,m2,A2,?_,h2.trans r2,r3⟩
     unfold forLW
     rw [g1]
     simp only [zob]
     rw [h1]
     rcases e with rfl|rfl<;>(simp only [zob,bw];rw [if_pos kg1];exact r1)
    cases f with
    | nx=>exact go q (.inl h5)
    | ct=>exact go q (.inr h5)
    | bk=>
     cases q
     obtain rfl:f'=.bk:=h5
     exact⟨.ok (.nx,v'),m1,A1,by unfold forLW;rw [g1];simp only [zob];rw [h1];rfl,h2,h3,h4,rfl⟩
    | rt d=>
     cases q
     obtain⟨p',rfl,k⟩:=h5
     exact⟨.ok (.rt p',v'),m1,A1,by unfold forLW;rw [g1];simp only [zob];rw [h1];rfl,h2,h3,h4,p',rfl,k⟩
theorem ws_for {i2:I2}{i:Ix}{g2:P2}{g:Gx}(hi:SI T i2 i)(hg:SG T g2 g)(hb:WS T s2 s):WS T (pFor i2 g2 s2) (wFor i g s):=fun A m c B v2 v w E hB r c' q=>by
 obtain⟨⟨ds,c1⟩,q1,q⟩:=zbm q
 obtain⟨sq,m1,A1,h1,h2,h3,h4,h5,h6⟩:=hi A m c B v2 v w E _ _ q1
 obtain⟨f,m2,A2,r1,r2,r3⟩:=forW_sim hg hb ds A1 m1 c1 sq.items v2 v h3 (E.x w h2) (znt hB h2.le) h4 h5 h6 _ _ q
 exact⟨f,m2,A2,by unfold wFor;rw [h1];simp only [zob];rw [if_pos h5];exact r1,(h2.s w hB).trans r2,r3⟩
theorem wf_fn {N:Nat}(h:WS T s2 s):WFn T (fnp N s2) (fnW N s):=fun A m c ds ps w D r c' q=>by
 obtain⟨⟨f,c1⟩,q1,q⟩:=zbm q
 obtain⟨f',m1,A1,h1,h2,h3,h4⟩:=h A m c m.length _ _ w (start_env D) (znr _) _ _ q1
 cases f with
 | ex x=>
  cases q
  cases f' with
  | ok _=>exact h4.elim
  | ex y=>exact⟨.ex y,m1,A1,by unfold fnW;rw [h1];rfl,h2.t,h3,h4⟩
 | ok f=>
  obtain⟨f,v3⟩:=f
  cases f' with
  | ex _=>exact h4.elim
  | ok f'=>
   obtain⟨f',v'⟩:=f'
   obtain⟨h4,h5⟩:EnvR T A1 m1 m.length v3 v'∧FlR T false A1 m1 m.length f f':=h4
   cases f with
   | nx=>
    cases q
    obtain rfl:f'=.nx:=h5
    exact⟨.ok .non,m1,A1,by unfold fnW;rw [h1];rfl,h2.t,h3,by show D2 T A1 m1 .non .non;rw [D2]⟩
   | rt d=>
    cases q
    obtain⟨p,rfl,k⟩:=h5
    rw [if_neg Bool.false_ne_true] at k
    exact⟨.ok p,m1,A1,by unfold fnW;rw [h1];rfl,h2.t,h3,k⟩
   | _=>cases q
end
end V2
end
section
set_option autoImplicit false
namespace Rf
open PySem PySem.Spec L2
inductive HdN (X:Cx) (i:Nat) (n:Str) (W0:WX):List ExceptHandler→(Ends→WX)→Prop
 | nil:HdN X i n W0 [] (fun _=>W0)
 | cons {x:Str} {c:Value} {ts:Addr→Value→Option Addr→TS} {b0:Stmt} {bs:List Stmt} {np hp:Pos} {r:List ExceptHandler} {w:Ends→WX} (hc:Names X x c)
   (hb:∀(a:Addr) (o:Obj) (cls:Value) (d:Option Addr) (pn:List (Addr×Obj)),Zc cls d o→(∃vs,o.data=.fields vs)→PSs (X.suite a ((a,o)::pn)) (b0::bs) (ts a cls d)) (hr:HdN X i n W0 r w):
   HdN X i n W0 (.ExceptHandler (some (.Name x np)) (some n) (b0::bs) hp::r) (fun D=>wAs X.K c i ts (w D) D)
theorem ps_try_names {X:Cx}{i:Nat}{n:Str}{W0:WX}{body:List Stmt}{h0:ExceptHandler}{r:List ExceptHandler}{w:Ends→WX}{tb:WX→TS}{pos:Pos}(hs:X.stack=X.env::X.outer)(hf:X.env.frame=some X.env.locals)(hN:X.N.Nodup)(hi:X.N[i]?=some n)(hk:X.env.kindOf n=some .local)
  (tk:Takes X W0) (hb:∀(W:WX) (pn:List (Addr×Obj)) (xe:Value→Shared→Prop),Takes (X.tr pn xe) W→PassesOwn (model X.prog X.w) X.A X.env xe→PSs (X.tr pn xe) body (tb W)) (hh:HdN X i n W0 (h0::r) w):
  PS X (.Try body (h0::r) [] [] pos) (fun D σ H=>tb (w D) D σ H):=by
 refine⟨fun pins s σ H D I h=>?_⟩
 have K0:=I.ok
 have fr:X.A.frames=some (X.env::X.outer):=hs▸K0.frames
 have lo:Loc X.env.scope n:=Or.inl hk
 refine wpAny_Try_except (wpAny_mono ((hb (w D) (X.pn++pins) (fun e s1=>wpAny (model X.prog X.w) X.A (noteFrame e X.env) (fun _ s2=>wpAny (model X.prog X.w) X.A (setFlight e none) (fun _ s3=>wpAny (model X.prog X.w) X.A (handleBy e X.env (h0::r)) (SP X pins D) X.xe s3) X.xe s2) X.xe s1) (fun u sE xx=>?_) PassesOwn.looking).run [] s σ H D (I.toTry _) h) (fun f s1 hp=>?_) fun e s1 q=>q)
 ·obtain⟨a,B,sI,pi,σ1,H1,cls,d,e1,J0,nb,up,sky,na,os,ag,wsh⟩:=xx
  subst e1
  have J:=J0.ofTry K0
  refine Sky.land Zc.steady fr hf (hs▸sky:Sky B (X.env::X.outer) a (Zc cls d) X.env.locals sE.heap) fun hA fA uA=>?_
  have JA:Inv X pins σ1 H1 { sE with heap:=hA }:=J.landed nb fA.1 (up.trans uA) os ag
  obtain⟨oA,vA,gA,zA,dA⟩:=fA.there
  have out:a∉frs (X.env::X.outer):=fun hm=>by
   obtain⟨_,o',e',nf⟩:=fA.2.2.1.mem hm
   rw [gA] at e'
   exact nf _ (zsi e'▸dA)
  have nL:a≠X.env.locals:=fun z=>out (List.mem_filterMap.mpr ⟨X.env,zms,hf.trans (congrArg some z.symm)⟩)
  have nF:a∉X.fs:=fun hm=>let ⟨e,he,q⟩:=List.mem_filterMap.mp hm;out (List.mem_filterMap.mpr ⟨e,zmt _ he,q⟩)
  have SA:=JA.suite gA dA na nL nF
  have walk:∀ {hd:List ExceptHandler} {v:Ends→WX},HdN X i n W0 hd v→v D cls d σ1 H1→wpAny (model X.prog X.w) X.A (handleBy (.ref a) X.env hd) (SP X pins D) X.xe { sE with heap:=hA }:=by
   intro hd v hv
   induction hv with
   | nil=>
    intro q
    obtain⟨_,_,_,oe,vs,TT,oT,tT,ge,ze,de,fe,_⟩:=id fA
    have fin:wpAny (model X.prog X.w) X.A (setFlight (.ref a) X.env.frame) (fun _ s4=>wpAny (model X.prog X.w) X.A (throw (.ref a):Sem Flow) (SP X pins D) X.xe s4) X.xe { sE with heap:=hA }:=by
     rw [hf]
     exact HandSPX.setFlight_upZ fA fun hB gB uB=>wpAny_throw (tk _ _ ⟨a,B,sI,pins,σ1,H1,cls,d,rfl,J,nb,(up.trans uA).trans uB,.inr (.inr (hs▸gB)),na,os,ag,q⟩)
    refine wpAny_handleBy_nil ?_
    unfold PySem.passOn
    refine wpAny_bind (wpAny_field ge de fe ?_)
    rw [if_neg (by simp:¬(Value.ref TT == Value.none)=true)]
    first|exact wpAny_bind fin|exact wpAny_bind (wpAny_pure (wpAny_bind fin))
   | @cons x c ts b0 bs np hp r2 w2 hc hsu _ ih=>
    rintro⟨b,m,yes,no⟩
    refine wpAny_handleBy_cons (codeAny_handlers_test ?_) nofun
    have ty:PySem.W.Looks (model X.prog X.w) hA (typeOf (.ref a)) cls:=fun A' Q' E' s' k q=>wpAny_typeOf_ref (k _ _ gA) (zA.1.symm▸q)
    have lk:=PySem.W.exm_one (M:=model X.prog X.w) JA.kIn ty m
    have rd:∀ {Q':Value→Shared→Prop} {E':Value→Shared→Prop},Q' c { sE with heap:=hA }→wpAny (model X.prog X.w) (X.A.mark (some (.ref a))) (eval (.Name x np) X.env) Q' E' { sE with heap:=hA }:=fun q=>by
     obtain⟨g1,g2,hm|⟨hm,hv,hn⟩⟩:=hc
     ·exact ld_glob (X:=X.suite a ((a,oA)::(X.pn++pins))) SA g1 hm q g2
     ·exact ld_blt (X:=X.suite a ((a,oA)::(X.pn++pins))) SA g1 hm hv q hn g2
    refine rd (lk.here ?_)
    cases b with
    | false=>exact ih (no rfl)
    | true=>
     refine codeAny_handlers_suite_as (HandSPX.lands_againZ fA fun hB gB uB=>?_)
     have JB:Inv X pins σ1 H1 { sE with heap:=hB }:=J.landed nb gB.1 ((up.trans uA).trans uB) os ag
     obtain⟨oB,vB,eB,zB,dB⟩:=gB.there
     refine store_ok (X:=X.suite a ((a,oB)::(X.pn++pins))) (v:=.ref a) (JB.suite eB dB na nL nF) hN hi lo rfl (fun s5 S5=>?_) (.inr hk)
     refine wpAny_mono ((hsu a oB cls d (X.pn++pins) zB ⟨_,dB⟩).run [] s5 _ H1 _ S5 (yes rfl a na)) (fun f s6 hq=>?_) fun _ _ z=>z.elim
     have bye:∀ {σ6:L2.St} {H6:Hp} {Q':Shared→Prop},Inv (X.suite a ((a,oB)::(X.pn++pins))) [] σ6 H6 s6→(∀s7,Inv X pins (σ6.set i none) H6 s7→Q' s7)→wpAny (model X.prog X.w) X.A (do bindName X.env n .none;unbindBehindTheSuite X.env n hp) (fun _ s7=>Q' s7) X.xe s6:=fun S6 q=>gone_ok (S6.unsuite K0) hN hi hk q
     cases f with
     | next=>exact let ⟨_,_,S6,q6⟩:=hq;bye S6 fun s7 J7=>⟨_,_,J7,q6⟩
     | brk=>exact let ⟨_,_,S6,q6⟩:=hq;bye S6 fun s7 J7=>⟨_,_,J7,q6⟩
     | cont=>exact let ⟨_,_,S6,q6⟩:=hq;bye S6 fun s7 J7=>⟨_,_,J7,q6⟩
     | ret u=>exact let ⟨_,_,_,S6,r6,q6⟩:=hq;bye S6 fun s7 J7=>⟨_,_,_,J7,r6,q6⟩
  exact walk hh wsh
 ·cases f with
  | next=>exact let ⟨_,_,J,q⟩:=hp;wpAny_execs_nil ⟨_,_,J.ofTry K0,q⟩
  | brk=>exact let ⟨_,_,J,q⟩:=hp;⟨_,_,J.ofTry K0,q⟩
  | cont=>exact let ⟨_,_,J,q⟩:=hp;⟨_,_,J.ofTry K0,q⟩
  | ret u=>exact let ⟨_,_,_,J,v,q⟩:=hp;⟨_,_,_,J.ofTry K0,v,q⟩
end Rf
end
section
set_option maxHeartbeats 2000000
set_option autoImplicit false
namespace PySem
open PySem (Str)
namespace PeX
open PySem.W PySem.Calls PyProof.Rows PySem.HandSPX
open PySem (Str)
def iA (p1 p2:Pos):Arguments:={ posonlyargs:=[],args:=[{ arg:="self",annotation:=none,pos:=p1 },{ arg:="line",annotation:=none,pos:=p2 }],vararg:=none,kwonlyargs:=[],kw_defaults:=[],kwarg:=none,defaults:=[] }
abbrev jS (p3 p4 p5 p6 p7:Pos):Expr:=.JoinedStr [.Constant (.str "line ") 0 p3,.FormattedValue (.Name "line" p4) (-1) none p5,.Constant (.str " has not the form of a program") 0 p6] p7
def iB (p0 p1 p2 p3 p4 p5 p6 p7 p8 p9 q1 q2 q3 q4:Pos):List Stmt:=[.Expr (.Call (.Attribute (.Call (.Name "super" p0) [] [] p1) "__init__" p2) [jS p3 p4 p5 p6 p7] [] p8) p9,.Assign [.Attribute (.Name "self" q1) "line" q2] (.Name "line" q3) q4]
def iS:Scope:={ kind:=.function,names:=[(PySem.Str.ofString "self",.local),(PySem.Str.ofString "line",.local),(PySem.Str.ofString "__class__",.free),(PySem.Str.ofString "super",.globalImplicit)],isGenerator:=false,isCoroutine:=false,more:=[] }
structure PeTxt (prog:Program) (K:Frag) (mg:Str→Option Value) (C fI:Addr):Prop where
 gC:mg "ParseError"=some (.ref C)
 gS:mg "super"=none
 cls:∃nm q N bs bm sn sub ab col dd k0 k1 k2 k3 k5,K.lookup C=some (excClassObj nm q C N bs bm true sn sub ab col dd k0 k1 k2 k3 k5 "ValueError.__new__")∧refsVE bm=true
 sa:findIn K (.ref C) "__setattr__"=some (some (.builtin "object.__setattr__"))
 ga:findIn K (.ref C) "__getattribute__"=some (some (.builtin "BaseException.__getattribute__"))
 gg:findIn K (.ref C) "__getattr__"=some none
 noN:findIn K (.ref C) "line"=some none
 iC:findIn K (.ref C) "__init__"=some (some (.ref fI))
 tC:typeIn K (.ref fI)=some (.type "function")
 kC:keepIn K (.ref C)=true
 exC:subIn K (.ref C) (.type "BaseException")=some true
 vaC:subIn K (.ref C) (.type "ValueError")=some true
 tyC:typeIn K (.ref C)=some (.type "type")
 hdC:hasDictIn K C=true
 te:exmOne K (.ref C) (.ref C)=some true
 op:nsIn K cStatics "thirdparty.any"=some none
 su:ks_superIn K C C "__init__"=some (some (.builtin "ValueError.__init__"))
 ei:excInitIn K C Rf.bmVE "ValueError.__new__"=true
 mr:mroIn K C (.ref C)=some true
 fl:∃(cda:Addr) (ccl:Value) (cdd:Option Addr) (vs:Array Value) (ccs:Array (Option Value)) (file:Str) (tf:Tok) (oc:Value) (od:Option Addr) (doc pm:Value) (an:Option Addr) (dV kV ct:Value) (osl:Array (Option Value)) (cc:Addr) (cl:Value) (cld:Option Addr) (csl:Array (Option Value)) (a1 a2 p0 p1 p2 p3 p4 p5 p6 p7 p8 p9 q1 q2 q3 q4:Pos),
  K.lookup fI=some ⟨oc,od,.func (ksFn "__init__" "ParseError.__init__" (iA a1 a2) (iB p0 p1 p2 p3 p4 p5 p6 p7 p8 p9 q1 q2 q3 q4) iS .none .none doc pm an (.ref cda) ct cc),osl⟩∧codeIn K (.ref cda) "ParseError.__init__"=true∧
  K.lookup cda=some ⟨ccl,cdd,.fields vs,ccs⟩∧vs[2]?=some (.str file tf)∧((prog.main.file:Str) == file)=true∧K.lookup cc=some ⟨cl,cld,.cell (some (.ref C)),csl⟩∧(p2.endLine == p8.line)=true
 tp:(prog.main.scope.names.lookup ("super":Str)).isSome=false
theorem one_size (v:Value):[v].length≤sizeLine:=by
 rw [sizeLine_eq]
 exact(by decide:1≤16777216)
structure InitEnd (h h':Heap) (x C dx:Addr) (v:Value):Prop where
 keep:∀b o,b≠x→h.get? b=some o→h'.get? b=some o
 obj:∃t1:Addr,h'.get? x=some { cls:=.ref C,dict:=some dx,data:=.fields #[.ref t1,.none,.none,.none,.bool false,.none] }
 dbig:h.objs.size≤dx
 dne:dx≠x
 ns:h'.Ns1 dx (fun y=>if y="line" then some v else none)
structure OwnMade (h h':Heap) (e C d:Addr) (v:Value):Prop where
 keep:∀b o,h.get? b=some o→h'.get? b=some o
 new:h.objs.size≤e
 obj:∃oe vs,h'.get? e=some oe∧oe.cls=.ref C∧oe.dict=some d∧oe.data=.fields vs∧vs[1]?=some .none
 dbig:h.objs.size≤d
 dne:d≠e
 ns:h'.Ns1 d (fun y=>if y="line" then some v else none)
section
variable {prog:Program}{w:World}{A:Around}{E:Value→Shared→Prop}{R:Result→Shared→Prop}{s:Shared}{K:Frag}{mg:Str→Option Value}{C fI:Addr}
theorem ldC {M:Model}{s:Shared}{env:Env}{L:Addr}{m:Str→Option Value}{x:Str}{pos:Pos}{v:Value}{Q:Value→Shared→Prop}{A:Around}{E:Value→Shared→Prop}(hn:s.heap.Ns L m)(hv:m x=some v)(h:Q v s)
  (hL:env.locals=L) (hk:env.scope.kind=.function) (hl:env.kindOf x=some .local) (hd:(x == ("__debug__":Str))=false):
  wpAny M A (eval (.Name x pos) env) Q E s:=by
 subst hL
 exact wpAny_Name (wpAny_loadName_local hk hl hn hv h) hd
theorem lit_s {M:Model}{s:Shared}{x:Str}{k:Nat}{pos:Pos}{env:Env}{Q:Value→Shared→Prop}(h:Q (.str x s.toks) { s with toks:=s.toks+1 }):wpAny M A (eval (.Constant (.str x) k pos) env) Q E s:=fun _ _ _=>h
theorem sup_call {o:Expr}{name:Str}{apos pos:Pos}{e:Expr}{env:Env}(hline:(apos.endLine == pos.line)=true)(he:starEach [e] env=[(false,eval e env)]:=by rfl):eval (.Call (.Attribute o name apos) [e] [] pos) env=(do
   let ov ←attributeBase o name env (eval o env)
   standAt apos.atName
   let (f,first) ←holding [ov] (getMethod ov name (do return (←importBound o env).getD true))
   callWith pos f first (backTo pos (starEach [e] env)) []):=by
 have hform:methodCallForm ([e].length+([]:List Keyword).length) (backTo pos (starEach [e] env)) (backToKw pos (keywordEach [] env))=true:=by rw [he];rfl
 have hpos:methodCallPos true o env apos pos=pure pos:=by unfold methodCallPos;simp [hline]
 rw [arm_eval_Call]
 unfold methodCall
 rw [hform]
 simp only [hpos,calleeOf,if_true,pure_bind]
 rfl
theorem pe_init (T:PeTxt prog K mg C fI){x t0:Addr}{i:Int}{tki:Tok}(X:K.In s.heap)(hlim:s.heap.NoLimit)(hg:s.heap.Ns mainGlobals mg)(hb:∃mb,s.heap.Ns builtinsNs mb∧∀x,x≠("__name__":Str)→mb x=bootBuiltins x)(hi:i.natAbs.log2<1000)
  (hx:s.heap.get? x=some (excObj C t0 none .none)) (hnx:K.lookup x=none) (hroom:A.depth<recursionLimit)
  (hq:∀h' tk dx,InitEnd s.heap h' x C dx (.int i tki)→R (.ok (.ret .none)) { s with heap:=h',toks:=tk }):
  codeAny (model prog w) A (.call (.ref fI) ⟨[.ref x,.int i tki],[]⟩) R s:=by
 obtain⟨cda,ccl,cdd,vs,ccs,file,tf,oc,od,doc,pm,an,dV,kV,ct,osl,cc,cl,cld,csl,a1,a2,p0,p1,p2,p3,p4,p5,p6,p7,p8,p9,q1,q2,q3,q4,ho,hcd,hcode,hvs,hfile,hcell,hline⟩:=T.fl
 obtain⟨nm,q,N0,bs,bm,sn,sub,ab,col,dd,k0,k1,k2,k3,k5,hC,hbm⟩:=T.cls
 have hcl:clsIn K C=some { name:=nm,bases:=bs,mro:=.ref C::bm,ns:=N0,qualname:=q,hasDict:=true,slotNames:=sn,subclasses:=sub,abstract:=ab,collection:=col,hasDel:=false }:=by unfold clsIn;rw [hC] <;> rfl
 refine ks_codeAny_call_defAt (fd:=ksFn "__init__" "ParseError.__init__" (iA a1 a2) (iB p0 p1 p2 p3 p4 p5 p6 p7 p8 p9 q1 q2 q3 q4) iS .none .none doc pm an (.ref cda) ct cc) (body:=iB p0 p1 p2 p3 p4 p5 p6 p7 p8 p9 q1 q2 q3 q4) (binds:=[("self",.ref x),("line",.int i tki)]) hroom (X _ _ ho) rfl hlim (codeRec_of X hcd) rfl (BindsTo.of_eq (by first|rfl|with_unfolding_all rfl)) (show ∀x∈iS.names,x.2≠.cell by decide) (fun y hy=>by
  rcases zmo hy with rfl|hy
  ·rfl
  ·obtain rfl:=zsg hy
   rfl) (fun h₁ hns k=>?_) rfl rfl rfl
 have F1:Fr (hideAll s.heap [x]) s.heap.objs.size h₁ (fun y=>[(("self":Str),Value.ref x),(("line":Str),Value.int i tki)].reverse.lookup y):=⟨hns,fun b o e=>k b o (of_hideAll _ e),Nat.le_of_eq (hideAll_size _ _)⟩
 have X0:K.In (hideAll s.heap [x]):=fun a o e=>hideAll_get [x] (X a o e) (fun hm=>by rw [zsg hm,hnx] at e;cases e)
 have N1:News (hideAll s.heap [x]) s.heap.objs.size h₁ [(x,excObj C t0 none .none)]:=by
  intro p hp
  obtain rfl:=zsg hp
  exact⟨k _ _ hx,Nat.ne_of_lt (Heap.lt_size hx),hideAll_none [x] (List.mem_singleton.mpr rfl)⟩
 have I1:InstAt h₁ x (excObj C t0 none .none) C none:=InstAt.of_exc0 N1 (List.mem_singleton.mpr rfl)
 have X1:K.In h₁:=X.keeps k
 obtain⟨mb,hb1,hb2⟩:=hb
 have hD1:=X1 _ _ hC
 show wpAt _ _ _ (execs (iB _ _ _ _ _ _ _ _ _ _ _ _ _ _) (ksEnv "ParseError.__init__" iS s.heap.objs.size fI (.ref cda) cc)) _ _ _
 refine ks_wpAt_execs_cons (ks_wpAt_Expr_any (ks_wpAt_MethodCall (pl:=(do return (←importBound (.Call (.Name "super" p0) [] [] p1) (ksEnv "ParseError.__init__" iS s.heap.objs.size fI (.ref cda) cc)).getD true)) ?_ (sup_call hline)))
 refine ks_wpAt_super_base (env:=ksEnv "ParseError.__init__" iS s.heap.objs.size fI (.ref cda) cc) (by first|rfl|kernel_rfl) (by first|rfl|kernel_rfl) (by decide) rfl (X1 _ _ ho) rfl (ar:={ arg:="self",annotation:=none,pos:=a1 }) rfl rfl (X1 _ _ hcode) rfl hvs hfile T.tp ?_
 refine ks_loadName_global (by rfl) (by first|rfl|kernel_rfl) (loadGlobal_builtin (env:=ksEnv "ParseError.__init__" iS s.heap.objs.size fI (.ref cda) cc) (hg.keeps k) T.gS (hb1.keeps k) ((hb2 _ (by decide +kernel)).trans (by first|rfl|kernel_rfl)) ⟨rfl,?_⟩)
 refine wpAny_loadName_free (by rfl) (by first|rfl|kernel_rfl) rfl ⟨_,X1 _ _ hcell,rfl⟩ ?_
 refine wpAny_loadName_local (by rfl) (by first|rfl|kernel_rfl) hns (v:=.ref x) (by first|rfl|kernel_rfl) ?_
 refine ks_wpAny_isType_cls hD1 rfl ⟨rfl,?_⟩
 refine ks_wpAny_call_super hD1 rfl I1.at_ I1.cls (fun c e=>?_) (looks_mroIn X1 T.mr) (fun h2 e2 k2=>?_)
 ·cases e
 obtain⟨F2,N2,l2⟩:=ks_newsPush (s:=⟨h₁,s.gens,s.drawn,s.toks+2,s.os⟩) (o:=ks_superObj C x C) F1 N1 rfl e2 k2
 refine kxs_method kxs_ValueError F2 X0 N2 zms (InstAt.of_exc0 N2 (zmt _ zms)) T.op T.su T.vaC rfl (fun u h3 F3 N3 l3=>?_)
 refine kxs_callWith1 N3 zms ?_
 have xu:u≠x:=Nat.ne_of_gt (l3 _ (zmt _ zms))
 have xs:s.heap.objs.size≤s.heap.objs.size:=znr _
 have hso:h₁.objs.size≠x:=Nat.ne_of_gt (l2 _ zms)
 refine spliced_cons (wpAny_JoinedStr (pos:=p7) ?_)
 refine lit_s ⟨_,_,rfl,by rw [sizeLine_eq];decide,?_⟩
 refine wpAny_FormattedValue_plain (ldC (m:=fun y=>[(("self":Str),Value.ref x),(("line":Str),Value.int i tki)].reverse.lookup y) F3.ns (v:=.int i tki) (by first|rfl|kernel_rfl) ?_ rfl rfl (by first|rfl|kernel_rfl) (by decide))
 have hi2:i.natAbs.log2<1920:=Nat.lt_trans hi (by decide)
 have hl:(Str.ofString (toString i)).length≤1921:=by
  rw [ofString_length]
  exact znt (int_text_length_le (k:=1920) (by decide) hi2) (by decide)
 have l5:("line ":Str).length=5:=by decide
 have l0:Str.empty.length=0:=by decide
 have l30:(" has not the form of a program":Str).length=30:=by decide
 refine wpAny_formatField_int hi2 ⟨_,_,rfl,?_,?_⟩
 ·rw [strLen_append,strLen_append,l0,l5,sizeLine_eq]
  omega
 refine lit_s ⟨_,_,rfl,?_,?_⟩
 ·rw [strLen_append,strLen_append,strLen_append,l0,l5,l30,sizeLine_eq]
  omega
 refine⟨?_,?_⟩
 ·rw [strLen_append,strLen_append,strLen_append,l0,l5,l30,sizeLine_eq]
  omega
 refine spliced_nil ⟨kxs_at N3 zms,?_⟩
 refine kxs_call F3 X0 N3 F.excBase_ValueError T.ei zms (.tail xu (.tail hso (.head fun _ h=>nomatch h))) (one_size _) (fun t1 h4 F4 N4 l4=>?_)
 have hx4:h4.get? x=some (excObj C t1 none .none):=(N4 (x,excObj C t1 none .none) (.tail _ (.tail _ (.tail _ (.head _))))).1
 have X4:K.In h4:=X0.keeps F4.keep
 show wpAt _ _ _ (execs _ _) _ _ _
 refine wpAt_of_wpAny (wpAny_execs_cons (plainObj_wpAny_Assign_Attribute ?_))
 refine ldC (m:=fun y=>[(("self":Str),Value.ref x),(("line":Str),Value.int i tki)].reverse.lookup y) F4.ns (v:=.int i tki) (by first|rfl|kernel_rfl) (ldC (m:=fun y=>[(("self":Str),Value.ref x),(("line":Str),Value.int i tki)].reverse.lookup y) F4.ns (v:=.ref x) (by first|rfl|kernel_rfl) ?_ rfl rfl (by first|rfl|kernel_rfl) (by decide)) rfl rfl (by first|rfl|kernel_rfl) (by decide)
 refine set_plain X4 (ox:=excObj C t1 none .none) (od:=none) ⟨hx4,rfl,rfl,trivial⟩ T.sa ?_
 refine exc_osa X4 hx4 hcl (show refsVE (.ref C::bm)=true from hbm) rfl T.noN (fun h5 tk5 dx k5 dn dne hx5 hn5=>?_)
 have szf:s.heap.objs.size≤h4.objs.size:=Nat.le_of_lt F4.ns.lt
 refine wpAny_execs_nil (hq h5 tk5 dx ⟨fun b o hb e=>?_,⟨t1,hx5⟩,znt szf dn,dne,hn5⟩)
 exact k5 b o hb (F4.keep b o (hideAll_get [x] e (fun hm=>hb (zsg hm))))
theorem pe_made (T:PeTxt prog K mg C fI){i:Int}{tki:Tok}(X:K.In s.heap)(hlim:s.heap.NoLimit)(hg:s.heap.Ns mainGlobals mg)(hb:∃mb,s.heap.Ns builtinsNs mb∧∀x,x≠("__name__":Str)→mb x=bootBuiltins x)(hi:i.natAbs.log2<1000)(hroom:A.depth+1<recursionLimit)
  (hq:∀h' tk e d,OwnMade s.heap h' e C d (.int i tki)→R (.ok (.ret (.ref e))) { s with heap:=h',toks:=tk }):
  codeAny (model prog w) A (.call (.ref C) ⟨[.int i tki],[]⟩) R s:=by
 obtain⟨nm,q,N,bs,bm,sn,sub,ab,col,dd,k0,k1,k2,k3,k5,hC,hbm⟩:=T.cls
 obtain⟨hp,g,dr,tk,os⟩:=s
 have k:∀b o,hp.get? b=some o→((hp.push (kdv_tup [.int i tki])).push (excO C hp.objs.size)).get? b=some o:=fun b o e=>Heap.get?_push_of_some _ (Heap.get?_push_of_some _ e)
 have hget:((hp.push (kdv_tup [.int i tki])).push (excO C hp.objs.size)).get? (hp.objs.size+1)=some (excO C hp.objs.size):=by heap_get
 have hnx:K.lookup (hp.objs.size+1)=none:=by
  cases e:K.lookup (hp.objs.size+1) with
  | none=>rfl
  | some o=>
   have z:hp.get? (hp.objs.size+1)=some o:=X _ _ e
   exact absurd (Nat.lt_of_succ_lt (Heap.lt_size z)) (Nat.lt_irrefl _)
 obtain⟨mb,hb1,hb2⟩:=hb
 refine call_own F.excBase_ValueError (fun X=>refsVE_contains X bm hbm) (X _ _ hC) (looks_findIn X T.iC) (fun self=>bind_fn X self T.tC) (one_size _) ?_
 refine pe_init (s:=⟨(hp.push (kdv_tup [.int i tki])).push (excO C hp.objs.size),g,dr,tk,os⟩) T (X.keeps k) (hlim.keeps k) (hg.keeps k) ⟨mb,hb1.keeps k,hb2⟩ hi hget hnx ?_ fun h' tk' dx ⟨k',hx,dn,dne,hns⟩=>?_
 ·show A.depth+1<recursionLimit
  exact hroom
 ·have old:∀b o,hp.get? b=some o→h'.get? b=some o:=fun b o e=>k' b o (Nat.ne_of_lt (Nat.lt_succ_of_lt (Heap.lt_size e))) (k b o e)
  have z:hp.objs.size+1+1≤dx:=by
   first
    | (simpa only [Heap.size_push] using dn)
    | exact dn
    | (have q:=dn;rw [Heap.size_push,Heap.size_push] at q;exact q)
  obtain⟨t1,hx⟩:=hx
  exact⟨rfl,hq h' tk' (hp.objs.size+1) dx ⟨old,Nat.le_succ _,⟨_,_,hx,rfl,rfl,rfl,rfl⟩,znt (znt (Nat.le_succ _) (Nat.le_succ _)) z,dne,hns⟩⟩
end
end PeX
end PySem
end
section
set_option maxHeartbeats 2000000
set_option autoImplicit false
namespace L2
open PySem PySem.Spec PyProof.Rows PySem.PeX
theorem relO_pe {v:V}{v':Value}(r:RelV v v')(f:Str):RelO (List.lookup f [(("line":Str),v)]) (if f="line" then some v' else none):=by
 by_cases hw:f="line"
 ·subst hw
  rw [if_pos rfl]
  have q:List.lookup ("line":Str) [(("line":Str),v)]=some v:=by simp [List.lookup]
  rw [q]
  exact r
 ·rw [if_neg hw]
  have qw:(f == ("line":Str))=false:=by simpa using hw
  have q2:List.lookup f [(("line":Str),v)]=none:=by simp [List.lookup,qw]
  rw [q2]
  trivial
section
variable {X:Cx}{C fI:Addr}
def tMkPe (C:Addr)(ta:TA):St→Hp→XK→Prop:=fun σ H Q=>ta σ H fun vs H1=>∃i:Int,vs=[.int i]∧i.natAbs.log2<1000∧∀d,H1 d=none→Q (.ref C) (some d) (upd H1 d (.xd [(("line":Str),.int i)]))
theorem pmk_pe {a:Expr}{ta:TA}{p pos:Pos}{k:Nat}(T:PeTxt X.prog X.K X.mg C fI)(hr:Room k X.A)(ha:PA X [a] ta)(hg:Gl X "ParseError":=by rfl)
  (he:starEach (a::[]) X.env=(false,eval a X.env)::starEach [] X.env:=by rfl) (hpl:(backTo pos (starEach [] X.env)).any (·.1)=false:=by rfl):
  PMk X (.Call (.Name "ParseError" p) [a] [] pos) (tMkPe C ta):=by
 intro pins s σ H Q I h
 refine wpAny_Call_Name_kw (ld_glob I hg T.gC ?_)
 refine PySem.W.callWith_K (h₀:=X.base) I.ok.mod.kin T.kC (thn (ha.run pos pins s σ H _ I h) fun us s1 hh=>?_) he hpl
 obtain⟨vs,H1,I1,r1,v,ev,hv,q1⟩:=hh
 subst ev
 refine⟨I1.kIn,?_⟩
 cases r1 with
 | cons rv rn=>
  rename_i v' us'
  cases rn
  obtain⟨tki,rfl⟩:∃t,v'=.int v t:=rv
  show wpAny _ _ (call (.ref C) [.int v tki]) _ _ _
  have hlim:=I1.nolimit
  have hgl:=I1.mod.glob.keeps I1.bk
  obtain⟨mb,hb1,hb2⟩:=I1.mod.blt
  have hbl:=hb1.keeps I1.bk
  obtain⟨hp,g,dr,tk,os⟩:=s1
  refine wpAny_call (pe_made T I1.kIn hlim hgl ⟨mb,hbl,hb2⟩ hv (by have:=hr.dp;omega) fun h' tk' e d M=>?_)
  show MkP X pins σ Q (.ref e) ⟨h',g,dr,tk',os⟩
  obtain⟨oe,fv,hoe,hc,hd,hdat,h1⟩:=M.obj
  have hns:=M.ns
  obtain⟨G',g1,g2⟩:=restrict h' fun b=>decide (b≠e)
  have gk:∀b,b≠e→G'.get? b=h'.get? b:=fun b hb=>g1 b (zdt hb)
  have ge:G'.get? e=none:=g2 e (by simp)
  have old:∀b o,hp.get? b=some o→G'.get? b=some o:=fun b o q=>(gk b (Nat.ne_of_lt (Nat.lt_of_lt_of_le (Heap.lt_size q) M.new))).trans (M.keep b o q)
  have ob:ObjOk X.prog X.w (upd H1 d (.xd [(("line":Str),.int v)])) G' d (.xd [(("line":Str),.int v)]):=
   ⟨_,hns.at (fun o q=>(gk d M.dne).trans q),fun f=>relO_pe (v:=.int v) (v':=.int v tki) ⟨tki,rfl⟩ f⟩
  have J:Inv X pins σ (upd H1 d (.xd [(("line":Str),.int v)])) ⟨G',g,dr,tk',os⟩:=I1.laid (t':=tk') old M.dbig ob
  refine⟨e,oe,fv,⟨G',g,dr,tk',os⟩,_,.ref C,some d,rfl,J,fun b o q=>?_,ge,hoe,⟨hc,hd⟩,hdat,h1,?_,rfl,I1.bare,raises_own T.exC T.tyC,q1 d (I1.hok.fresh M.dbig)⟩
  ·by_cases hb:b=e
   ·have q':G'.get? b=some o:=q
    rw [hb,ge] at q';cases q'
   ·exact(gk b hb).symm.trans q
  ·rw [upd_ne (Ne.symm M.dne)]
   exact I1.hok.fresh M.new
def rIsD (K:PySem.W.Frag)(D a d:Addr):List V→Hp→VK→Prop:=fun xs H Q=>∃(c:V) (cv:Value) (b:Bool),xs=[.ref a,c]∧(∀u,RelV c u→u=cv)∧PySem.W.kitOne K (.ref D) cv=some b∧(∃gs,H d=some (.xd gs))∧Q (.bl b) H
theorem call_isD {a D d:Addr}{oe:Obj}{pn:List (Addr×Obj)}(C:ExcC X.K D)(hz:Zc (.ref D) (some d) oe)(hf:∃vs,oe.data=.fields vs):CallR (X.suite a ((a,oe)::pn)) (.builtin "isinstance") (rIsD X.K D a d):=by
 intro pins s σ H xs us Q I r h
 obtain⟨c,cv,b,rfl,hcv,e,⟨gs,hgs⟩,q⟩:=h
 cases r with
 | cons rx rr=>
  cases rr with
  | cons rt rr=>
   cases rr
   cases rx
   have ec:=hcv _ rt
   subst ec
   obtain⟨hget,_⟩:=I.pin (a,oe) (List.mem_append.mpr (.inl zms))
   have hx:ObjOk X.prog X.w H s.heap d (.xd gs):=I.hok d _ hgs
   obtain⟨mA,hns,hr⟩:=hx
   obtain⟨od,ho,hl⟩:=lookIn_ns hns
   obtain⟨vs,hv⟩:=hf
   have J:PySem.W.InstAt s.heap a oe D (some od):=⟨hget,hz.1,by unfold PySem.W.notCls;rw [hv] <;> rfl,by rw [hz.2];exact ho⟩
   have hcl:(PySem.W.clsIn X.K D).isSome=true:=by
    obtain⟨cd,hc,_⟩:=PySem.W.any_some C.hd
    rw [hc];rfl
   exact PySem.W.kia_one (PySem.W.kitx_exc hcl C.hg C.hk C.hs C.ha C.hn C.ht C.hm) I.kIn J e (fun z=>nomatch z) fun tk=>⟨.bl b,H,I.kept (t':=tk) fun _ _ z=>z,rfl,q⟩
end
end L2
namespace Rf
open PySem PySem.Spec L2 PySem.PeX
section
variable {X:Cx}{cl:Nat→Addr}{E:XK}{pos p:Pos}
def wRsF (c:Nat)(n:Str)(a:Ex):SxW:=fun env m=>(a env m).bind fun r=>match r.1 with
 | .int i=>if i.natAbs.log2<1000 then some (.ex (c,[(n,.int i)]),r.2) else none
 | _=>none
theorem rsw_raiseF {c k:Nat}{e:Expr}{ma:Ex}{pos':Pos}(hc:X.calm=true)(tk:TkE X E)(F:∃fI,PeTxt X.prog X.K X.mg (cl c) fI)(hr:Room k X.A)(hg:Gl X "ParseError")(ha:RX cl X e ma)
  (he:starEach (e::[]) X.env=(false,eval e X.env)::starEach [] X.env:=by rfl) (hpl:(backTo pos (starEach [] X.env)).any (·.1)=false:=by rfl):RSW cl X E (.Raise (some (.Call (.Name "ParseError" p) [e] [] pos)) none pos') (wRsF c "line" ma):=by
 obtain⟨fI,T⟩:=F
 refine PS.imp (ps_raise hc tk (pmk_pe T hr (pa_cons ha pa_nil he) hg he hpl)) fun D σ H ⟨ρ,env,mem,r,hm,hE,h,q⟩=>?_
 unfold wRsF at h
 obtain⟨⟨v,m1⟩,e1,h⟩:=zbm h
 cases v with
 | int i=>
  simp only at h
  split at h
  ·rename_i hi
   cases h
   refine⟨ρ,env,mem,(.int i,m1),hm,hE,e1,fun ρ1 v1 H1 x1 n1 p1=>?_⟩
   have p1:Rep X.K ρ1 H1 (.int i) v1:=p1
   rw [rep_int] at p1
   subst p1
   refine⟨i,rfl,hi,fun d hd=>?_⟩
   have x2:Ext X.K ρ1 H1 ρ1 (upd H1 d (.xd [(("line":Str),.int i)])):=by
    have:=ext_new (K:=X.K) (ρ:=ρ1) (o:=.xd [(("line":Str),.int i)]) hd []
    rwa [List.append_nil] at this
   refine q ρ1 _ _ _ (x1.trans x2) ⟨n1.len,n1.inj,fun i a o h1 h2=>(n1.ok i a o h1 h2).ext x2 fun u q=>by rw [upd_ne (ne_of_none q hd)];exact q⟩ ⟨rfl,.inr ⟨d,[(("line":Str),.int i)],(fun z=>nomatch z),rfl,upd_same,?_⟩⟩
   exact .cons ⟨rfl,by rw [rep_int]⟩ .nil
  ·cases h
 | _=>cases h
def tIsD (i:Nat)(a d:Addr)(b:Bool):TE:=fun σ H Q=>σ[i]?=some (some (.ref a))∧(∃gs,H d=some (.xd gs))∧Q (.bl b) H
def RHd (X:Cx)(a:Addr)(oe:Obj)(pn:List (Addr×Obj))(e:Expr)(i:Nat)(d:Addr)(b:Bool):Prop:=PE (X.suite a ((a,oe)::pn)) e (tIsD i a d b)
section
variable {a D d:Addr}{oe:Obj}{pn:List (Addr×Obj)}{p1 p2:Pos}{i:Nat}{n y:Str}
theorem pd_isO {CT:Addr}{b:Bool}(C:ExcC X.K D)(hz:Zc (.ref D) (some d) oe)(hf:∃vs,oe.data=.fields vs)(hN:X.N[i]?=some n)(hv:Vis X.env.scope n)(hg:Gl X "isinstance")(hm:X.mg "isinstance"=none)(hgT:Gl X y)(hmT:X.mg y=some (.ref CT))(k:PySem.W.kitOne X.K (.ref D) (.ref CT)=some b)
  (hd:(n == ("__debug__":Str))=false:=by decide) (hcd:(n == ("__classdict__":Str))=false:=by decide) (hdb:(y == ("__debug__":Str))=false:=by decide):RHd X a oe pn (.Call (.Name "isinstance" p) [.Name n p1,.Name y p2] [] pos) i d b:=
 PE.imp (pe_callB (call_isD C hz hf) hg hm (by decide +kernel) (pa_cons (pe_var (X:=X.suite a ((a,oe)::pn)) hN hv hd hcd) (pa_cons (pe_glob (X:=X.suite a ((a,oe)::pn)) (v:=.ref CT) hgT hmT rfl hdb) pa_nil rfl) rfl) (by decide) (by decide) rfl rfl) fun σ H Q ⟨h,g,q⟩=>
  ⟨_,h,.ref CT,.ref CT,b,rfl,(fun u r=>r),k,g,q⟩
theorem pd_isT {T:String}{b:Bool}(C:ExcC X.K D)(hz:Zc (.ref D) (some d) oe)(hf:∃vs,oe.data=.fields vs)(hN:X.N[i]?=some n)(hv:Vis X.env.scope n)(hg:Gl X "isinstance")(hm:X.mg "isinstance"=none)(hgT:Gl X y)(hmT:X.mg y=none)(hvT:bootBuiltins y=some (.type T))(k:PySem.W.kitOne X.K (.ref D) (.type T)=some b)
  (hd:(n == ("__debug__":Str))=false:=by decide) (hcd:(n == ("__classdict__":Str))=false:=by decide) (hn:y≠"__name__":=by decide) (hdb:(y == ("__debug__":Str))=false:=by decide):RHd X a oe pn (.Call (.Name "isinstance" p) [.Name n p1,.Name y p2] [] pos) i d b:=
 PE.imp (pe_callB (call_isD C hz hf) hg hm (by decide +kernel) (pa_cons (pe_var (X:=X.suite a ((a,oe)::pn)) hN hv hd hcd) (pa_cons (pe_bltn (X:=X.suite a ((a,oe)::pn)) (v:=.ty T) hgT hmT hvT rfl hn hdb) pa_nil rfl) rfl) (by decide) (by decide) rfl rfl) fun σ H Q ⟨h,g,q⟩=>
  ⟨_,h,.ty T,.type T,b,rfl,(fun u r=>r),k,g,q⟩
theorem pd_isNotF {e:Expr}{pos:Pos}(h:RHd X a oe pn e i d false):RHd X a oe pn (.UnaryOp .Not e pos) i d true:=PE.imp (pe_not h) fun σ H Q ⟨h,g,q⟩=>⟨h,g,false,rfl,q⟩
theorem pd_isOne {op}{e:Expr}{b:Bool}{pos:Pos}(h:RHd X a oe pn e i d b):RHd X a oe pn (.BoolOp op [e] pos) i d b:=pe_one h
theorem pd_isAnd {e f:Expr}{r:List Expr}{b:Bool}{pos:Pos}(h:RHd X a oe pn e i d true)(h2:RHd X a oe pn (.BoolOp .And (f::r) pos) i d b):RHd X a oe pn (.BoolOp .And (e::f::r) pos) i d b:=PE.imp (pe_and h h2) fun σ H Q ⟨h,g,q⟩=>⟨h,g,true,rfl,h,g,q⟩
end
def sTry2 (a:ExW)(c1 c2:Nat)(s1 s2:Str):Sx:=fun env m=>(a env m).bind fun r=>match r with
 | (.ok v,m1)=>some (.rt v,env,m1)
 | (.ex x,m1)=>if x.1=c1 then(match x.2 with
   | [(n,.int i)]=>if n="line" then some (.rt (.ref m1.length),env,m1++[.lst [.str s1,.int i,.bl true]]) else none
   | _=>none) else if x.1=c2∧x.2=[] then some (.rt (.ref m1.length),env,m1++[.lst [.str s2,.bl true]]) else none
theorem rs_try2 {e b1 b2:Expr}{np1 rp hp1 pos1 np2 hp2 pos2 lp1 lp2 ap1 vp1 k1p k2p:Pos}{j1 j2 c1 c2 i:Nat}{n x1 x2 s1 s2:Str}{ma:ExW}(hs:X.stack=X.env::X.outer)(hf:X.env.frame=some X.env.locals)(hN:X.N.Nodup)(hi:X.N[i]?=some n)(hln:X.env.kindOf n=some .local)(hv:Vis X.env.scope n)
  (hc1:Names X x1 (.ref (cl c1))) (hc2:Names X x2 (.ref (cl c2))) (ex11:PySem.W.exmOne X.K (.ref (cl c1)) (.ref (cl c1))=some true) (ex21:PySem.W.exmOne X.K (.ref (cl c2)) (.ref (cl c1))=some false) (ex22:PySem.W.exmOne X.K (.ref (cl c2)) (.ref (cl c2))=some true)
  (T1:XfC X.K (cl c1)) (no1:W.findIn X.K (.ref (cl c1)) "line"=some none)
  (hb:∀(E:XK) (pn:List (Addr×Obj)) (xe:Value→Shared→Prop),TkE (X.tr pn xe) E→RXW cl (X.tr pn xe) E e ma)
  (hh1:∀(a d:Addr) (oe:Obj) (pn:List (Addr×Obj)),Zc (.ref (cl c1)) (some d) oe→(∃vs,oe.data=.fields vs)→RHd X a oe pn b1 i d true)
  (hh2:∀(a:Addr) (oe:Obj) (pn:List (Addr×Obj)),Zc (.ref (cl c2)) none oe→(∃vs,oe.data=.fields vs)→RHx X a oe pn b2 i true)
  (hd:(n == ("__debug__":Str))=false:=by decide) (hcd:(n == ("__classdict__":Str))=false:=by decide)
  (hse1:starEach [b1] X.env=(false,eval b1 X.env)::starEach [] X.env:=by rfl) (hse2:starEach [b2] X.env=(false,eval b2 X.env)::starEach [] X.env:=by rfl):
  RS cl X (.Try [.Return (some e) rp] [.ExceptHandler (some (.Name x1 np1)) (some n) [.Return (some (.List [.Constant (.str s1) j1 k1p,.Attribute (.Name n vp1) "line" ap1,b1] lp1)) hp1] pos1,
   .ExceptHandler (some (.Name x2 np2)) (some n) [.Return (some (.List [.Constant (.str s2) j2 k2p,b2] lp2)) hp2] pos2] [] [] pos) (sTry2 ma c1 c2 s1 s2):=by
 have H1:HdN X i n (fun _ _ _ _=>False) _ _:=HdN.cons (ts:=fun a cls d D σ H=>∃(dd:Addr) (v:Int),cls=.ref (cl c1)∧d=some dd∧σ[i]?=some (some (.ref a))∧H dd=some (.xd [(("line":Str),.int v)])∧∀p,H p=none→D.rt (.ref p) (upd H p (.lst [.str s1,.int v,.bl true])))
  (b0:=.Return (some (.List [.Constant (.str s1) j1 k1p,.Attribute (.Name n vp1) "line" ap1,b1] lp1)) hp1) (bs:=[]) (np:=np1) (hp:=pos1) hc1 (fun a oe cls d pn hz hfl=>⟨fun pins s σ H D I ⟨dd,v,ec,ed,h1,h2,q⟩=>by
   subst ec ed
   exact(pss_one (ps_ret (pe_lst (pa_cons pe_str (pa_cons (pe_xf T1 no1 hz hfl (pe_var (X:=X.suite a ((a,oe)::pn)) hi hv hd hcd)) (pa_cons (hh1 a dd oe pn hz hfl) pa_nil hse1) rfl) rfl)))).run pins s σ H D I ⟨_,h1,rfl,rfl,dd,_,.int v,rfl,h2,rfl,h1,⟨_,h2⟩,by show 3≤sizeLine;rw [sizeLine_eq];decide,q⟩⟩)
  (HdN.cons (ts:=fun a cls d D σ H=>cls=.ref (cl c2)∧d=none∧σ[i]?=some (some (.ref a))∧∀p,H p=none→D.rt (.ref p) (upd H p (.lst [.str s2,.bl true])))
   (b0:=.Return (some (.List [.Constant (.str s2) j2 k2p,b2] lp2)) hp2) (bs:=[]) (np:=np2) (hp:=pos2) hc2 (fun a oe cls d pn hz hfl=>⟨fun pins s σ H D I ⟨ec,ed,h1,q⟩=>by
    subst ec ed
    exact(pss_one (ps_ret (pe_lst (pa_cons pe_str (pa_cons (hh2 a oe pn hz hfl) pa_nil hse2) rfl)))).run pins s σ H D I ⟨h1,by show 2≤sizeLine;rw [sizeLine_eq];decide,q⟩⟩) .nil)
 refine PS.imp (ps_try_names (tb:=fun W D σ H=>TXW X.K cl (fun cls d H'=>∀ σ':L2.St,σ'.length=X.N.length→W cls d σ' H') ma σ H D.rt) hs hf hN hi hln takes0 ?_ H1) ?_
 ·intro W pn xe tk hp
  refine pss_one (ps_ret (hb _ pn xe fun u s' ⟨a,B,sI,pins,σ,H,cls,d,e,I,nb,up,sky,na,os,ag,w⟩=>tk u s' ⟨a,B,sI,pins,σ,H,cls,d,e,I,nb,up,sky,na,os,ag,w σ I.len⟩))
 ·intro D σ H ⟨ρ,env,mem,r,hm,hE,h,q⟩
  unfold sTry2 at h
  obtain⟨⟨r1,m1⟩,e1,h2⟩:=zbm h
  clear h
  have h:=h2
  clear h2
  refine⟨ρ,env,mem,(r1,m1),hm,hE,e1,?_⟩
  cases r1 with
  | ok v=>
   obtain rfl:=zsi h
   exact fun ρ1 v1 H1 x1 n1 p1=>q ρ1 σ H1 x1 n1 (hE.ext x1) v1 p1
  | ex x=>
   obtain⟨xc,xf⟩:=x
   have hset:∀ {σ':L2.St} (a:Addr),σ'.length=X.N.length→(σ'.set i (some (V.ref a)))[i]?=some (some (V.ref a)):=fun a hl=>by
    rw [zss]
    rw [hl]
    exact(zge hi).1
   intro ρ1 H1 cls d x1 n1 ⟨y1,y2⟩ σ' hl
   dsimp only at h y1 y2
   by_cases hx:xc=c1
   ·rw [if_pos hx] at h
    subst hx
    subst y1
    match xf,h,y2 with
    | [(nm,.int v)],h,y2=>
     by_cases hnm:nm="line"
     ·subst hnm
      have h3:some ((Fl.rt (PV.ref m1.length):Fl),env,m1++[Ob.lst [.str s1,.int v,.bl true]])=some r:=(if_pos (c:=("line":Str)="line") (e:=none) rfl).symm.trans h
      obtain rfl:=zsi h3
      rcases y2 with⟨z,_⟩|⟨dd,gs,_,ed,hdd,rf⟩
      ·cases z
      ·subst ed
       obtain⟨gs',rfl⟩:∃z,gs=z:=⟨_,rfl⟩
       cases rf with
       | cons r1 r2=>
        rename_i g gs
        obtain⟨gn,gv⟩:=g
        cases r2
        obtain⟨e1,e2⟩:=r1
        dsimp only at e1 e2
        subst e1
        rw [rep_int] at e2
        subst e2
        refine⟨true,ex11,fun _ a na=>⟨dd,v,rfl,rfl,hset a hl,hdd,fun p hp=>?_⟩,fun z=>nomatch z⟩
        obtain⟨z1,z2,z3⟩:=new_lst (X:=X) (cl:=cl) (ps:=[.str s1,.int v,.bl true]) n1 (.cons (by rw [Rep]) (.cons (by rw [Rep]) (.cons (by rw [Rep]) .nil))) hp
        exact q _ σ _ (x1.trans z1) z2 (hE.ext (x1.trans z1)) _ z3
     ·have h3:(none:Option (Fl×Env×Mem))=some r:=(if_neg (c:=nm="line") (t:=some ((Fl.rt (PV.ref m1.length):Fl),env,m1++[Ob.lst [.str s1,.int v,.bl true]])) hnm).symm.trans h
      cases h3
   ·rw [if_neg hx] at h
    by_cases hx2:xc=c2∧xf=[]
    ·rw [if_pos hx2] at h
     obtain⟨hx2,hx3⟩:=hx2
     obtain rfl:=zsi h
     subst hx3 y1
     rw [hx2]
     rcases y2 with⟨_,rfl⟩|⟨_,_,z,_⟩
     ·refine⟨false,ex21,(fun z=>nomatch z),fun _=>⟨true,ex22,fun _ a na=>⟨rfl,rfl,hset a hl,fun p hp=>?_⟩,fun z=>nomatch z⟩⟩
      obtain⟨z1,z2,z3⟩:=new_lst (X:=X) (cl:=cl) (ps:=[.str s2,.bl true]) n1 (.cons (by rw [Rep]) (.cons (by rw [Rep]) .nil)) hp
      exact q _ σ _ (x1.trans z1) z2 (hE.ext (x1.trans z1)) _ z3
     ·exact absurd rfl z
    ·rw [if_neg hx2] at h
     cases h
end
end Rf
end
section
set_option autoImplicit false
namespace Rf
open PySem PySem.Spec L2
section
variable {X:Cx}{cl:Nat→Addr}{E:XK}{apos cpos:Pos}{o e:Expr}{es:List Expr}
def xMW (chk:PV→Mem→Bool)(g:Mg)(o:Ex)(a:AxW):ExW:=fun env m=>(o env m).bind fun r=>if chk r.1 r.2=true then(a env r.2).bind (bw fun ps m2=>(g r.1 ps m2).map fun s=>(.ok s.1,s.2)) else none
theorem rxw_m {T id:String}{name:Str}{chk:PV→Mem→Bool}{g:Mg}{mo:Ex}{mA:AxW}(pa:PlainAttrs T)(slot:Slot T name id)(hty:typeOf (.builtin id)=pure (.type "method_descriptor"))(hm:MtR X id (GM X.K cl g))
  (hk:∀(ρ:List Addr) (H:Hp) (m:Mem) (p:PV) (v:V),RelM X.K cl ρ H m→Rep X.K ρ H p v→chk p m=true→tyV X.K T v H) (ho:RX cl X o mo) (ha:RAW cl X E (e::es) mA)
  (hbase:attributeBase o name X.env (eval o X.env)=eval o X.env:=by rfl)
  (hfew:((backTo cpos (starEach (e::es) X.env)).all (fun x => !x.1)&&(backToKw cpos (keywordEach [] X.env)).all (fun x=>x.1.isSome)
   && decide ((e::es).length+([]:List Keyword).length+(if([]:List Keyword).isEmpty then 0 else 1)<30))=true:=by rfl)
  (hline:(apos.endLine == cpos.line)=true:=by rfl) (hs:starEach (e::es) X.env=(false,eval e X.env)::starEach es X.env:=by rfl) (hplain:(backTo cpos (starEach es X.env)).any (·.1)=false:=by rfl):
  RXW cl X E (.Call (.Attribute o name apos) (e::es) [] cpos) (xMW chk g mo mA):=PE.imp (pe_bm pa slot hty hm ho ha hbase hfew hline hs hplain) fun σ H Q ⟨ρ,env,mem,r,hm,hE,h,q⟩=>by
 unfold xMW at h
 obtain⟨r1,e1,h⟩:=zbm h
 split at h
 ·rename_i hc
  obtain⟨⟨r2,m2⟩,e2,h⟩:=zbm h
  refine⟨ρ,env,mem,r1,hm,hE,e1,fun ρ1 v1 H1 x1 m1 p1=>⟨hk _ _ _ _ _ m1 p1 hc,ρ1,env,r1.2,(r2,m2),m1,hE.ext x1,e2,?_⟩⟩
  cases r2 with
  | ex x=>cases h;exact KX.ext q x1
  | ok ps=>
   obtain⟨r3,e3,rfl⟩:=zmm h
   exact fun ρ2 vs H2 x2 m2' p2=>⟨ρ2,r1.1,ps,m2,r3,m2',x2.rep _ _ p1,p2,e3,KE.ext q (x1.trans x2)⟩
 ·cases h
def wAe (i:Nat)(a:ExW):SxW:=wEx (xMW chkL appG (Xv i) (wCons a (wA An)))
theorem rsw_append {i:Nat}{me:ExW}{pos:Pos}(ho:RX cl X o (Xv i))(ha:RXW cl X E e me)(hbase:attributeBase o "append" X.env (eval o X.env)=eval o X.env:=by rfl)
  (hfew:((backTo cpos (starEach [e] X.env)).all (fun x => !x.1)&&(backToKw cpos (keywordEach [] X.env)).all (fun x=>x.1.isSome)
   && decide (([e]:List Expr).length+([]:List Keyword).length+(if([]:List Keyword).isEmpty then 0 else 1)<30))=true:=by rfl)
  (hline:(apos.endLine == cpos.line)=true:=by rfl) (hs:starEach [e] X.env=(false,eval e X.env)::starEach [] X.env:=by rfl) (hplain:(backTo cpos (starEach [] X.env)).any (·.1)=false:=by rfl)
  (hsw:swapsWith (.Call (.Attribute o "append" apos) [e] [] cpos) none pos.line X.env=pure false:=by rfl):
  RSW cl X E (.Expr (.Call (.Attribute o "append" apos) [e] [] cpos) pos) (wAe i me):=
 rsw_expr (rxw_m PySem.F.plainAttrs_list PySem.F.slot_list_append PySem.F.type_list_append mx_app (fun _ _ _ _ _=>chkL_ok) ho (raw_cons ha (raw Rn) hs) hbase hfew hline hs hplain) hsw
end
end Rf
end
section
set_option autoImplicit false
namespace V2
open PySem L2 Rf
section
variable {T:Tk}{e2:E2}{e:Ex}{a2:E2W}{a:ExW}{r2:A2W}{ra:AxW}{as2:A2}{as:Ax}{s2 t2:S2W}{s t:SxW}{u2:T2}{u:Tx}
def pRsF (k:Nat)(n:Str)(a:E2):S2W:=fun v c=>(a v c).bind fun r=>match r.1 with
 | .int i=>if i.natAbs.log2<1000 then some (.ex (k,[(n,i)]),r.2) else none
 | _=>none
theorem ws_rsF {k:Nat}{n:Str}(h:SX T e2 e):WS T (pRsF k n e2) (wRsF k n e):=fun A m c B v2 v w E hB r c' q=>by
 obtain⟨⟨d,c1⟩,q1,q⟩:=zbm q
 obtain⟨p,m1,A1,h1,h2,h3,h4⟩:=h A m c B v2 v w E _ _ q1
 cases d with
 | int i=>
  have h4:D2 T A1 m1 (.int i) p:=h4
  rw [D2] at h4
  subst h4
  dsimp only at q
  by_cases hi:i.natAbs.log2<1000
  ·rw [if_pos hi] at q
   cases q
   exact⟨.ex (k,[(n,.int i)]),m1,A1,by unfold wRsF;rw [h1];simp only [zob];rw [if_pos hi],h2.s w hB,h3,rfl⟩
  ·rw [if_neg hi] at q
   cases q
 | _=>cases q
def pAe (i:Nat)(a:E2W):S2W:=fun v c=>match v[i]? with
 | some (some (.o ds))=>(a v c).bind (bp fun d c1=>if ds.length<sizeLine then some (.ok (.nx,v.set i (some (.o (ds++[d])))),c1) else none)
 | _=>none
theorem ws_ae {i:Nat}(h:WX T a2 a):WS T (pAe i a2) (wAe i a):=fun A m c B v2 v w E hB r c' q=>by
 unfold pAe at q
 split at q
 ·rename_i ds hd
  obtain⟨⟨d,c1⟩,q1,q⟩:=zbm q
  obtain⟨p,m1,A1,h1,h2,h3,h4⟩:=h A m c B v2 v w E _ _ q1
  obtain⟨p0,z1,k,ps,rfl,hk,a',n,g,r⟩:=E.ok i _ hd
  have hc:chkL (.ref k) m=true:=by unfold chkL lstB;simp only [g];rfl
  cases d with
  | ex x=>
   cases q
   cases p with
   | ok _=>exact h4.elim
   | ex y=>
    refine⟨.ex y,m1,A1,?_,h2.s w hB,h3,h4⟩
    unfold wAe wEx xMW Xv
    rw [z1]
    simp only [zob]
    rw [if_pos hc]
    simp only [wCons]
    rw [h1]
    rfl
  | ok d=>
   cases p with
   | ex _=>exact h4.elim
   | ok p=>
    have h4:D2 T A1 m1 d p:=h4
    simp only [bp] at q
    split at q
    ·rename_i hl
     cases q
     have g1:m1[k]?=some (.lst ps):=(h2.old k (lt_of g) n).trans g
     obtain⟨x1,x2,x3⟩:=own_set h3 (E.x w h2) hd z1 ((r.x w h2).append (.one h4))
     refine⟨.ok (.nx,v),_,A1,?_,(h2.s w hB).trans x1,x2,x3,rfl⟩
     unfold wAe wEx xMW Xv
     rw [z1]
     simp only [zob]
     rw [if_pos hc]
     simp only [wCons,wA,An]
     rw [h1]
     simp only [zob,bw,Option.map_some,appG,g1]
     rw [if_pos (by rw [r.length];exact hl)]
     rfl
    ·cases q
 ·cases q
theorem new_fix {A:Nat→Prop}{m:Mem}{c:Cs}{ds:List DV}{ps:List PV}(w:WF T A m c)(h:D2L T A m ds ps):∃A',Xt T A m A' (m++[.lst ps])∧WF T A' (m++[.lst ps]) c∧D2 T A' (m++[.lst ps]) (.lst ds) (.ref m.length):=by
 obtain⟨z1,z2,z3⟩:=fs_new w h
 exact z3.fix z1 z2
def pLst (a:A2W):E2W:=fun v c=>(a v c).bind (bp fun ds c1=>if ds.length≤sizeLine then some (.ok (.lst ds),c1) else none)
theorem wx_lst (h:WA T r2 ra):WX T (pLst r2) (xAW lstG ra):=fun A m c B v2 v w E r c' q=>by
 obtain⟨⟨d,c1⟩,q1,q⟩:=zbm q
 obtain⟨ps,m1,A1,h1,h2,h3,h4⟩:=h A m c B v2 v w E _ _ q1
 cases d with
 | ex x=>
  cases q
  cases ps with
  | ok _=>exact h4.elim
  | ex y=>exact⟨.ex y,m1,A1,by unfold xAW;rw [h1];rfl,h2,h3,h4⟩
 | ok d=>
  cases ps with
  | ex _=>exact h4.elim
  | ok ps=>
   have h4:D2L T A1 m1 d ps:=h4
   simp only [bp] at q
   split at q
   ·rename_i hl
    cases q
    obtain⟨A2,x1,x2,x3⟩:=new_fix h3 h4
    exact⟨.ok (.ref m1.length),m1++[Ob.lst ps],A2,by unfold xAW;rw [h1];simp only [zob,bw];unfold lstG;rw [if_pos (by rw [h4.length];exact hl)];rfl,h2.trans x1,x2,x3⟩
   ·cases q
def rTry2 (a:E2W)(c1 c2:Nat)(s1 s2:Str):S2:=fun v c=>(a v c).bind fun r=>match r with
 | (.ok d,c')=>some (.rt d,v,c')
 | (.ex x,c')=>if x.1=c1 then(match x.2 with
   | [(n,i)]=>if n="line" then some (.rt (.lst [.str s1,.int i,.bl true]),v,c') else none
   | _=>none) else if x.1=c2∧x.2=[] then some (.rt (.lst [.str s2,.bl true]),v,c') else none
theorem ss_try2 {c1 c2:Nat}{s1 s2:Str}(h:WX T a2 a):SS T false (rTry2 a2 c1 c2 s1 s2) (sTry2 a c1 c2 s1 s2):=fun A m c B v2 v w E hB f2 v2' c' q=>by
 obtain⟨⟨d,c3⟩,q1,q⟩:=zbm q
 obtain⟨p,m1,A1,h1,h2,h3,h4⟩:=h A m c B v2 v w E _ _ q1
 cases d with
 | ok d=>
  cases q
  cases p with
  | ex _=>exact h4.elim
  | ok p=>exact⟨.rt p,v,m1,A1,by unfold sTry2;rw [h1];rfl,h2.s w hB,h3,E.x w h2,p,rfl,by rw [if_neg Bool.false_ne_true];exact h4⟩
 | ex x=>
  cases p with
  | ok _=>exact h4.elim
  | ex y=>
   have h4:y=xn x:=h4
   subst h4
   obtain⟨xc,xf⟩:=x
   dsimp only at q
   by_cases hx:xc=c1
   ·rw [if_pos hx] at q
    match xf,q,h1 with
    | [(nm,i)],q,h1=>
     by_cases hnm:nm="line"
     ·subst hnm
      have q3:some (Fl2.rt (DV.lst [.str s1,.int i,.bl true]),v2,c3)=some (f2,v2',c'):=(if_pos (c:=("line":Str)="line") (e:=none) rfl).symm.trans q
      cases q3
      obtain⟨A2,x1,x2,x3⟩:=new_fix (ds:=[.str s1,.int i,.bl true]) (ps:=[.str s1,.int i,.bl true]) h3 (.cons (by rw [D2]) (.cons (by rw [D2]) (.one (by rw [D2]))))
      have x0:=h2.trans x1
      refine⟨.rt (.ref m1.length),v,_,A2,?_,x0.s w hB,x2,E.x w x0,.ref m1.length,rfl,by rw [if_neg Bool.false_ne_true];exact x3⟩
      unfold sTry2
      rw [h1]
      simp only [zob]
      exact(if_pos (show(xn (xc,[(("line":Str),i)])).1=c1 from hx)).trans rfl
     ·have q3:(none:Option (Fl2×Env2×Cs))=some (f2,v2',c'):=(if_neg (c:=nm="line") (t:=some (Fl2.rt (DV.lst [.str s1,.int i,.bl true]),v2,c3)) hnm).symm.trans q
      cases q3
   ·rw [if_neg hx] at q
    by_cases hx2:xc=c2∧xf=[]
    ·rw [if_pos hx2] at q
     cases q
     obtain⟨A2,x1,x2,x3⟩:=new_fix (ds:=[.str s2,.bl true]) (ps:=[.str s2,.bl true]) h3 (.cons (by rw [D2]) (.one (by rw [D2])))
     have x0:=h2.trans x1
     refine⟨.rt (.ref m1.length),v,_,A2,?_,x0.s w hB,x2,E.x w x0,.ref m1.length,rfl,by rw [if_neg Bool.false_ne_true];exact x3⟩
     unfold sTry2
     rw [h1]
     simp only [zob]
     exact(if_neg (show ¬(xn (xc,xf)).1=c1 from hx)).trans (if_pos (show(xn (xc,xf)).1=c2∧(xn (xc,xf)).2=[] from⟨hx2.1,by show xf.map _=[];rw [hx2.2];rfl⟩))
    ·rw [if_neg hx2] at q
     cases q
end
end V2
end
section
set_option autoImplicit false
namespace Rf
open PySem PySem.Spec L2
section
variable {X:Cx}{cl:Nat→Addr}
def repS (s:Str)(k:Int):Str:=⟨(List.replicate k.toNat s.cps).foldl (· ++ ·) #[]⟩
def smulG:PV→PV→Mem→Option (PV×Mem):=fun p q m=>match p,q with
 | .str s,.int k=>if s.length=1 ∧ -(2 ^ 60)<k∧k≤100000 then some (.str (repS s k),m) else none
 | _,_=>none
theorem rep_size {α:Type}(a:Array α):∀(n:Nat) (acc:Array α),((List.replicate n a).foldl (· ++ ·) acc).size=acc.size+n*a.size
 | 0,acc=>by simp
 | n+1,acc=>by
  rw [List.replicate_succ,List.foldl_cons,rep_size a n,Array.size_append,Nat.succ_mul]
  omega
theorem ox_smul:OpR X (binaryOp .Mult) (G2 X.K cl smulG):=by
 intro pins s σ H x y v u Q I rx ry ⟨ρ,p,q,mem,r,hm,hp,hq,h,kk⟩
 unfold smulG at h
 split at h
 ·rename_i z k
  split at h
  ·rename_i cond
   obtain⟨l1,k0,k1⟩:=cond
   cases h
   rw [rep_str] at hp
   rw [rep_int] at hq
   subst hp hq
   obtain⟨tz,rfl⟩:=rx
   obtain⟨tk,rfl⟩:=ry
   have fin:∀t':Nat,EP X pins σ Q (.str (repS z k) t') { s with toks:=s.toks+1 }:=fun t'=>⟨.str (repS z k),H,I.tok _,⟨_,rfl⟩,kk ρ _ H .refl hm (by rw [Rep])⟩
   have fin0:∀t':Nat,EP X pins σ Q (.str (repS z k) t') s:=fun t'=>⟨.str (repS z k),H,I,⟨_,rfl⟩,kk ρ _ H .refl hm (by rw [Rep])⟩
   refine PySem.P.mul_str ?_ (fun a b=>?_) (fun a b=>?_) ?_
   ·have h1:¬k < -(2 ^ 63:Int):=by omega
    have h2:¬k≥2 ^ 63:=by omega
    rw [zdf h1,zdf h2];rfl
   ·rw [l1]
    have:(1:Int)≤(2 ^ 63-1)/k:=by
     rw [Int.le_ediv_iff_mul_le (by omega)]
     omega
    exact Int.not_lt.mpr this
   ·rw [l1]
    show decide _=false
    refine zdf ?_
    rw [sizeLine_eq]
    omega
   ·by_cases h1:k<1
    ·rw [if_pos h1]
     have e:repS z k=Str.empty:=by unfold repS;rw [show k.toNat=0 by omega];rfl
     refine⟨by decide,?_⟩
     rw [←e]
     exact fin _
    ·rw [if_neg h1]
     by_cases h2:(k == 1||z.length == 0)=true
     ·rw [if_pos h2]
      have e1:k=1:=by
       rw [l1] at h2
       simpa using h2
      have e:repS z k=z:=by
       unfold repS
       rw [show k.toNat=1 by omega]
       show(⟨#[]++z.cps⟩:Str)=z
       rw [Array.empty_append]
      have:=fin0 tz
      rw [e] at this
      exact this
     ·rw [if_neg h2]
      refine⟨?_,fin _⟩
      show(repS z k).cps.size≤sizeLine
      unfold repS
      rw [rep_size,sizeLine_eq]
      have:z.cps.size=1:=l1
      rw [this]
      simp
      omega
  ·cases h
 ·cases h
end
end Rf
namespace V2
open PySem L2 Rf
section
variable {T:Tk}
def smulV:DV→DV→Option DV
 | .str s,.int k=>if s.length=1 ∧ -(2 ^ 60)<k∧k≤100000 then some (.str (repS s k)) else none
 | _,_=>none
theorem o_smul:Op2 smulV smulG T:=op2_pure fun A m d p e q r D E z=>by
 cases d with
 | str s=>cases e with
  | int k=>
   simp only [smulV] at z
   split at z
   ·rename_i c
    cases z
    rw [dt_str D,dt_int E]
    exact⟨_,by unfold smulG;simp only;rw [if_pos c],by rw [D2]⟩
   ·cases z
  | _=>cases z
 | _=>cases z
def inSV:DV→DV→Option DV
 | .str i,.str j=>some (.bl (!(PySem.Builtin.Str.occurrences j i 0 j.length 1).isEmpty))
 | _,_=>none
theorem o_inS:Op2 inSV inG T:=op2_pure fun A m d p e q r D E z=>by
 cases d with
 | str s=>cases e with
  | str k=>
   cases z
   rw [dt_str D,dt_str E]
   exact⟨_,rfl,by rw [D2]⟩
  | _=>cases z
 | _=>cases z
end
end V2
end
section
set_option autoImplicit false
namespace Rf
open PySem PySem.Spec L2 PyProof.Rows
def keyS (e:DictEntry):Option Str:=match e.key with
 | .str x _=>some x
 | _=>none
def KTabX (K:PySem.W.Frag)(mg:Str→Option Value)(x:Str)(T:Tab):Prop:=∀d,mg x=some (.ref d)→∀z,T.lookup z=none→W.nsIn K d z=some none
theorem lookup_ne:∀ {T:Tab} {z:Str},T.lookup z=none→∀p∈T,p.1≠z
 | [],_,_,_,m=>nomatch m
 | (a,b)::T,z,h,p,m=>by
  rw [List.lookup_cons] at h
  cases e:(z == a) with
  | true=>rw [e] at h;cases h
  | false=>
   rw [e] at h
   rcases zmo m with rfl|m
   ·rintro rfl
    simp at e
   ·exact lookup_ne h p m
theorem keys_none {z:Str}:∀ {l:List DictEntry} {ks:List Str},l.map keyS=ks.map some→(∀k∈ks,k≠z)→l.find? (·.key.isStr z)=none∧l.any (·.refKey)=false
 | [],_,_,_=>⟨rfl,rfl⟩
 | e::l,[],h,_=>by cases h
 | e::l,k::ks,h,hz=>by
  injection h with h1 h2
  obtain⟨i1,i2⟩:=keys_none h2 fun q m=>hz q (.tail _ m)
  have hk:∃t,e.key=.str k t:=by
   unfold keyS at h1
   split at h1
   ·rename_i x t q
    exact⟨t,by rw [q,zsi h1]⟩
   ·cases h1
  obtain⟨t,hk⟩:=hk
  have f:e.key.isStr z=false:=by
   rw [hk]
   show(k == z)=false
   exact beq_eq_false_iff_ne.mpr (hz k zms)
  have g:e.refKey=false:=by
   unfold DictEntry.refKey
   rw [hk]
  exact⟨by rw [List.find?_cons,f];exact i1,by rw [List.any_cons,g,i2];rfl⟩
theorem ktabx_mk {K:PySem.W.Frag}{mg:Str→Option Value}{x:Str}{T:Tab}{d0:Addr}{es:Array DictEntry}{n:Nat}(hm:mg x=some (.ref d0))(l:K.lookup d0=some ⟨.type "dict",none,.dict es n,#[]⟩)(h:es.toList.map keyS=(T.map (·.1)).map some):KTabX K mg x T:=fun d hd z hz=>by
 rw [hm] at hd
 cases hd
 obtain⟨i1,i2⟩:=keys_none h (z:=z) fun k m=>by
  obtain⟨p,hp,rfl⟩:=List.mem_map.mp m
  exact lookup_ne hz p hp
 unfold W.nsIn
 rw [l]
 simp only [i1,i2]
 rfl
def kgG (T:Tab)(p:PV)(m:Mem):Option (PV×Mem):=match p with
 | .str z=>some (match T.lookup z with
  | some ws=>.tup (ws.map PV.str)
  | none=>.non,m)
 | _=>none
section
variable {X:Cx}{cl:Nat→Addr}{b:Expr}{pos p apos cpos:Pos}{mb:Ex}{x:Str}
theorem rx_kgetX {T:Tab}(h:KTab X.K X.w X.mg x T)(hx:KTabX X.K X.mg x T)(hg:Gl X x)(hb:RX cl X b mb)(m:M1 X (.Name x p) "get" apos b cpos)(hd:(x == ("__debug__":Str))=false:=by decide):
  RX cl X (.Call (.Attribute (.Name x p) "get" apos) [b] [] cpos) (x1 (kgG T) mb):=by
 obtain⟨d,es,n,h1,D,h2⟩:=h
 refine⟨fun pins s σ H Q I w=>?_⟩
 have w2:TX X.K cl mb σ H fun y H2=>∃(z:Str) (r:Option Value) (v0:V),y=.str z∧W.nsIn X.K d z=some r∧RelV v0 (r.getD .none)∧Q v0 H2:=by
  obtain⟨ρ,env,mem,r,hm,hE,e,q⟩:=w
  unfold x1 at e
  obtain⟨⟨y,mm⟩,e1,e2⟩:=zbm e
  refine⟨ρ,env,mem,_,hm,hE,e1,fun ρ1 v H1 y1 m1 p1=>?_⟩
  cases y with
  | str z=>
   replace p1:Rep X.K ρ1 H1 (.str z) v:=p1
   rw [rep_str] at p1
   obtain rfl:=zsi (show some (match T.lookup z with|some ws=>PV.tup (ws.map PV.str)|none=>PV.non,mm)=some r from e2)
   cases f1:T.lookup z with
   | some ws=>
    rw [f1] at q
    obtain⟨t,g1,g2⟩:=h2 _ (tab_mem f1)
    exact⟨z,_,.ref t,p1,g1,rfl,q _ _ _ y1 m1 (by rw [rep_tup];exact⟨t,_,rfl,g2 _,repL_strs ws⟩)⟩
   | none=>
    rw [f1] at q
    exact⟨z,none,.non,p1,hx d h1 z f1,rfl,q _ _ _ y1 m1 (by rw [Rep])⟩
  | _=>cases e2
 refine wpAny_Call_method m.base m.few m.line PySem.F.plainAttrs_dict PySem.F.slot_dict_get PySem.F.type_dict_get (thn ((pe_glob (v:=.ref d) hg h1 rfl hd).run pins s σ H (fun x H1=>x=.ref d∧TX X.K cl mb σ H1 fun y H2=>∃(z:Str) (r:Option Value) (v0:V),y=.str z∧W.nsIn X.K d z=some r∧RelV v0 (r.getD .none)∧Q v0 H2) I ⟨rfl,w2⟩) fun u s1 ⟨x,H1,I1,rx,ex,q1⟩=>?_)
 subst ex
 obtain rfl:u=Value.ref d:=rx
 refine⟨kd_type D I1,fun a z=>?_,?_⟩
 ·cases z
  exact⟨_,I1.kIn _ _ D.at_,rfl⟩
 rw [m.trees]
 refine Calls.callWith_builtin rfl (Calls.evalArgs_plain (Calls.spliced_cons (thn (hb.run pins s1 σ H1 _ I1 q1) fun iv s2 ⟨y,H2,I2,ry,z,r,v0,ey,g,r0,q2⟩=>Calls.spliced_nil ?_)))
 subst ey
 obtain⟨t,rfl⟩:=ry
 refine call_meetsIn PySem.F.slot_dict_get (kd_type D I2) PySem.F.entry_dict_get (PySem.F.args_dict_get_2 _ _) (meets_dict_get (strKind X.prog X.w) d (PySem.strKind_is X.prog X.w z t) D.low) ⟨_,PySem.W.mapOf_K (prog:=X.prog) I2.kIn D.at_ D.lit,?_⟩
 rw [PySem.W.find_K D.at_ g]
 cases r with
 | some u0=>exact⟨v0,H2,I2.tok _,r0,q2⟩
 | none=>exact⟨v0,H2,I2.tok _,r0,q2⟩
end
end Rf
namespace V2
open PySem L2 Rf
section
variable {T:Tk}
def kgV (tb:Tab):DV→Option DV
 | .str z=>some (match tb.lookup z with
  | some ws=>.tup (ws.map .str)
  | none=>.non)
 | _=>none
theorem o_kg {tb:Tab}:OpX (kgV tb) (kgG tb) T:=opx_pure fun A m d p r D z=>by
 cases d with
 | str s=>
  cases z
  rw [dt_str D]
  cases e:tb.lookup s with
  | some ws=>exact⟨.tup (ws.map PV.str),by unfold kgG;simp only [e],by rw [D2];exact⟨_,rfl,d2_strs ws⟩⟩
  | none=>exact⟨.non,by unfold kgG;simp only [e],by rw [D2]⟩
 | _=>cases z
end
end V2
end
section
namespace Gen
open PySem PySem.Spec L2 Rf
def T_FORMS:Tab:=[("add",["target","operand","operand"]),("sub",["target","operand","operand"]),("mul",["target","operand","operand"]),("and",["target","operand","operand"]),("less",["target","operand","operand"]),("load",["target","operand"]),("store",["operand","operand"]),("out",["operand"])]
def b_law_start:Sx:=
 (sRt (xA lstG (Ac (xLcP (List.map (·.2) ([("cell",1)]:List (Str×Nat))) (iAny (xSl (Xv 0) oNone (oSome (xC (.int (63)))))) (pNm 1) tYs (xA intG (Ac (Xv 1) An))) (Ac (xC (.int (0))) (Ac (xC (.int (0))) (Ac (xC (.int (0))) (Ac (xC (.int (20))) An)))))))
def f_law_start:Fn:=fnF 2 b_law_start
def b_check_sizes:SxW:=
 (wSq (wIf (tBl (x2 gtG (xA lenG (Ac (Xv 0) An)) (xC (.int (12))))) (wRs 1) (wS sNx))
  (wFor (iAny (Xv 0)) (gNm 1) (wIf (tAn (tBl (x2 eqG (x2 ixG (Xv 1) (xC (.int (0)))) (xC (.str "loop")))) (tBl (x2 gtG (xA lenG (Ac (x2 ixG (Xv 1) (xC (.int (2)))) An)) (xC (.int (12)))))) (wRs 1) (wS sNx))))
def f_check_sizes:FnW:=fnW 2 b_check_sizes
def b_read_number:SxW:=
 (wSq (wIf (tBl (x2 gtG (xA lenG (Ac (Xv 0) An)) (xA lenG (Ac (xA strG (Ac (xC (.int (-2147483648))) An)) An)))) (wRs 1) (wS sNx))
  (wSq (wS (sAs (xA intG (Ac (Xv 0) An)) (gNm 3)))
  (wSq (wIf (tOr' (tBl (x2 ltG (Xv 3) (Xv 1))) (tBl (x2 gtG (Xv 3) (Xv 2)))) (wRs 1) (wS sNx))
  (wS (sRt (Xv 3))))))
def f_read_number:FnW:=fnW 4 b_read_number
def b_read_operand:SxW:=
 (wSq (wIf (tTru (xM chkS startsG (Xv 0) (Ac (xC (.str "r")) An))) (wRt (xAW tupG (wCons (wE (xC (.str "reg"))) (wCons (xCallW 3 f_read_number (Ac (xSl (Xv 0) (oSome (xC (.int (1)))) oNone) (Ac (xC (.int (0))) (Ac (x2 subG (xC (.int (16))) (xC (.int (1)))) An)))) (wA An))))) (wS sNx))
  (wRt (xAW tupG (wCons (wE (xC (.str "int"))) (wCons (xCallW 3 f_read_number (Ac (Xv 0) (Ac (xC (.int (-2147483648))) (Ac (xC (.int (2147483647))) An)))) (wA An))))))
def f_read_operand:FnW:=fnW 1 b_read_operand
def b_read_instruction:SxW:=
 (wSq (wS (sAs (xA lstG (Ac (x2 ixG (Xv 0) (xC (.int (0)))) An)) (gNm 1)))
  (wSq (wFor (iZx' (Ac (x1 (kdG T_FORMS) (x2 ixG (Xv 0) (xC (.int (0))))) (Ac (xSl (Xv 0) (oSome (xC (.int (1)))) oNone) An))) (gSq 2 (Gsc (gNm 2) (Gsc (gNm 3) gsNil))) (wSq (wSet 4 (xCallW 1 f_read_operand (Ac (Xv 3) An)))
  (wS (sEx (xM chkL appG (Xv 1) (Ac (xIf (tBl (x2 eqG (Xv 2) (xC (.str "target")))) (x2 ixG (Xv 4) (xC (.int (1)))) (Xv 4)) An))))))
  (wS (sRt (xA tupleG (Ac (Xv 1) An))))))
def f_read_instruction:FnW:=fnW 5 b_read_instruction
def b_build:SxW:=
 (wSq (wS (sAs (xA lstG An) (gNm 1)))
  (wSq (wS (sAs (xC .non) (gNm 2)))
  (wSq (wS (sAs (xA lstG An) (gNm 3)))
  (wSq (wFor (iAny (Xv 0)) (gNm 4) (wIf (tBl (x2 eqG (x2 ixG (Xv 4) (xC (.int (0)))) (xC (.str "loop")))) (wSet 2 (xCallW 1 f_read_operand (Ac (x2 ixG (Xv 4) (xC (.int (1)))) An))) (wIf (tBl (x2 eqG (x2 ixG (Xv 4) (xC (.int (0)))) (xC (.str "end")))) (wSq (wS (sEx (xM chkL appG (Xv 1) (Ac (xA tupG (Ac (xC (.str "loop")) (Ac (Xv 2) (Ac (xA tupleG (Ac (Xv 3) An)) An)))) An))))
  (wSq (wS (sAs (xC .non) (gNm 2)))
  (wS (sAs (xA lstG An) (gNm 3))))) (wIf (tBl (x2 notNG (Xv 2) (xC .non))) (wAe 3 (xCallW 1 f_read_instruction (Ac (Xv 4) An))) (wAe 1 (xCallW 1 f_read_instruction (Ac (Xv 4) An)))))))
  (wS (sRt (xA tupleG (Ac (Xv 1) An))))))))
def f_build:FnW:=fnW 5 b_build
def b_is_natural:Sx:=
 (sSq (sIf (tOr' (tNt (tTru (xM chkS isasciiG (Xv 0) An))) (tNt (tTru (xM chkS isdigitG (Xv 0) An)))) (sRt (xC (.bl false))) sNx)
  (sRt (xOr (x2 eqG (Xv 0) (xC (.str "0"))) (xNt (xM chkS startsG (Xv 0) (Ac (xC (.str "0")) An))))))
def f_is_natural:Fn:=fnF 1 b_is_natural
def b_is_integer:Sx:=
 (sSq (sIf (tTru (xM chkS startsG (Xv 0) (Ac (xC (.str "-")) An))) (sRt (xAn (x2 neG (Xv 0) (xC (.str "-0"))) (Xc 1 f_is_natural (Ac (xSl (Xv 0) (oSome (xC (.int (1)))) oNone) An)))) sNx)
  (sRt (Xc 1 f_is_natural (Ac (Xv 0) An))))
def f_is_integer:Fn:=fnF 1 b_is_integer
def b_is_register:Sx:=
 (sRt (xAn (xM chkS startsG (Xv 0) (Ac (xC (.str "r")) An)) (Xc 1 f_is_natural (Ac (xSl (Xv 0) (oSome (xC (.int (1)))) oNone) An))))
def f_is_register:Fn:=fnF 1 b_is_register
def b_is_written:Sx:=
 (sSq (sIf (tTru (Xc 1 f_is_register (Ac (Xv 1) An))) (sRt (xC (.bl true))) sNx)
  (sRt (xAn (x2 eqG (Xv 0) (xC (.str "operand"))) (Xc 1 f_is_integer (Ac (Xv 1) An)))))
def f_is_written:Fn:=fnF 2 b_is_written
def b_form_of:Sx:=
 (sSq (sIf (tBl (x2 eqG (Xv 0) (xC (.str "loop")))) (sRt (xA tupG (Ac (xC (.str "operand")) An))) sNx)
  (sSq (sIf (tBl (x2 eqG (Xv 0) (xC (.str "end")))) (sRt (xA tupG An)) sNx)
  (sRt (x1 (kgG T_FORMS) (Xv 0)))))
def f_form_of:Fn:=fnF 1 b_form_of
def b_has_form:Sx:=
 (sSq (sAs (Xc 1 f_form_of (Ac (x2 ixG (Xv 0) (xC (.int (0)))) An)) (gNm 1))
  (sSq (sIf (tOr' (tBl (x2 isNG (Xv 1) (xC .non))) (tBl (x2 neG (xA lenG (Ac (Xv 0) An)) (x2 addG (xA lenG (Ac (Xv 1) An)) (xC (.int (1))))))) (sRt (xC (.bl false))) sNx)
  (sSq (sFor (iZx' (Ac (Xv 1) (Ac (xSl (Xv 0) (oSome (xC (.int (1)))) oNone) An))) (gSq 2 (Gsc (gNm 2) (Gsc (gNm 3) gsNil))) (sIf (tNt (tTru (Xc 2 f_is_written (Ac (Xv 2) (Ac (Xv 3) An))))) (sRt (xC (.bl false))) sNx))
  (sRt (xC (.bl true))))))
def f_has_form:Fn:=fnF 4 b_has_form
def b_may_stand:Sx:=
 (sSq (sIf (tBl (x2 eqG (Xv 0) (xC (.str "loop")))) (sRt (x2 isNG (Xv 1) (xC .non))) sNx)
  (sSq (sIf (tBl (x2 eqG (Xv 0) (xC (.str "end")))) (sRt (xAn (x2 notNG (Xv 1) (xC .non)) (x2 gtG (Xv 1) (xC (.int (0)))))) sNx)
  (sRt (xC (.bl true)))))
def f_may_stand:Fn:=fnF 2 b_may_stand
def b_check_forms:SxW:=
 (wSq (wS (sAs (xC .non) (gNm 1)))
  (wSq (wFor (iEnX (Ac (Xv 0) An)) (gSq 2 (Gsc (gNm 2) (Gsc (gNm 3) gsNil))) (wSq (wS (sIf (tNt (tTru (Xv 3))) sCt sNx))
  (wSq (wIf (tOr' (tNt (tTru (Xc 1 f_has_form (Ac (Xv 3) An)))) (tNt (tTru (Xc 2 f_may_stand (Ac (x2 ixG (Xv 3) (xC (.int (0)))) (Ac (Xv 1) An)))))) (wRsF 2 "line" (Xv 2)) (wS sNx))
  (wS (sIf (tBl (x2 eqG (x2 ixG (Xv 3) (xC (.int (0)))) (xC (.str "loop")))) (sAs (xC (.int (0))) (gNm 1)) (sIf (tBl (x2 eqG (x2 ixG (Xv 3) (xC (.int (0)))) (xC (.str "end")))) (sAs (xC .non) (gNm 1)) (sIf (tBl (x2 notNG (Xv 1) (xC .non))) (sAu 1 incG (xC (.int (1)))) sNx)))))))
  (wIf (tBl (x2 notNG (Xv 1) (xC .non))) (wRsF 2 "line" (xA lenG (Ac (Xv 0) An))) (wS sNx))))
def f_check_forms:FnW:=fnW 4 b_check_forms
def b_words_of:Sx:=
 (sRt (xLcP (List.map (·.2) ([("word",1)]:List (Str×Nat))) (iAny (xM chkS splitG (x2 ixG (xM chkS splitG (Xv 0) (Ac (xC (.str "#")) An)) (xC (.int (0)))) (Ac (xC (.str " ")) An))) (pNm 1) (tTru (Xv 1)) (Xv 1)))
def f_words_of:Fn:=fnF 2 b_words_of
def b_parse:SxW:=
 (wSq (wIf (tBl (x2 gtG (xA lenG (Ac (Xv 0) An)) (xC (.int (4000))))) (wRs 1) (wS sNx))
  (wSq (wS (sAs (xLcP (List.map (·.2) ([("line",3)]:List (Str×Nat))) (iAny (xM chkS splitG (Xv 0) (Ac (xC (.str "\n")) An))) (pNm 3) tYs (Xc 1 f_words_of (Ac (Xv 3) An))) (gNm 1)))
  (wSq (wEx (xCallW 1 f_check_forms (Ac (Xv 1) An)))
  (wSq (wSet 2 (xCallW 1 f_build (Ac (xLcP (List.map (·.2) ([("words",4)]:List (Str×Nat))) (iAny (Xv 1)) (pNm 4) (tTru (Xv 4)) (Xv 4)) An)))
  (wSq (wEx (xCallW 1 f_check_sizes (Ac (Xv 2) An)))
  (wS (sRt (Xv 2))))))))
def f_parse:FnW:=fnW 5 b_parse
def b_law_told:Sx:=
 (sTry2 (xAW lstG (wCons (wE (xC (.str "good"))) (wCons (xCallW 1 f_parse (Ac (Xv 0) An)) (wA An)))) 2 1 "parse" "limit")
def f_law_told:Fn:=fnF 2 b_law_told
def b_law_large (self:Fn):Sx:=
 (sSq (sIf (tAn (tTru (x1 (isG "tuple") (Xv 0))) (tAn (tBl (x2 eqG (xA lenG (Ac (Xv 0) An)) (xC (.int (2))))) (tBl (x2 eqG (x2 ixG (Xv 0) (xC (.int (0)))) (xC (.str "reg")))))) (sRt (x2 gtG (x2 ixG (Xv 0) (xC (.int (1)))) (xC (.int (15))))) sNx)
  (sSq (sIf (tAn (tTru (x1 (isG "tuple") (Xv 0))) (tAn (tBl (x2 eqG (xA lenG (Ac (Xv 0) An)) (xC (.int (2))))) (tBl (x2 eqG (x2 ixG (Xv 0) (xC (.int (0)))) (xC (.str "int")))))) (sRt (xOr (x2 ltG (x2 ixG (Xv 0) (xC (.int (1)))) (x2 subG (xC (.int (0))) (xC (.int (2147483648))))) (x2 gtG (x2 ixG (Xv 0) (xC (.int (1)))) (xC (.int (2147483647)))))) sNx)
  (sSq (sIf (tTru (x1 (isG "tuple") (Xv 0))) (sSq (sAs (xAn (x2 gtG (xA lenG (Ac (Xv 0) An)) (xC (.int (2)))) (xAn (x1 (isG "str") (x2 ixG (Xv 0) (xC (.int (0))))) (xAn (x1 (isG "int") (x2 ixG (Xv 0) (xC (.int (1))))) (x2 gtG (x2 ixG (Xv 0) (xC (.int (1)))) (xC (.int (15))))))) (gNm 1))
  (sRt (xOr (Xv 1) (xA anyG (Ac (xLcP (List.map (·.2) ([("part",2)]:List (Str×Nat))) (iAny (Xv 0)) (pNm 2) tYs (Xc 1 self (Ac (Xv 2) An))) An))))) sNx)
  (sRt (xC (.bl false))))))
def f_law_large_:Nat→Fn
 | 0=>fun _ _=>none
 | n+1=>fnF 3 (b_law_large (f_law_large_ n))
def f_law_large:Fn:=f_law_large_ 20
def b_law_digits:Sx:=
 (sRt (xAn (x2 neG (Xv 0) (xC (.str ""))) (xAn (xA allG (Ac (xLcP (List.map (·.2) ([("x",1)]:List (Str×Nat))) (iAny (Xv 0)) (pNm 1) tYs (x2 inG (Xv 1) (xC (.str "0123456789")))) An)) (xOr (x2 eqG (Xv 0) (xC (.str "0"))) (x2 neG (x2 ixG (Xv 0) (xC (.int (0)))) (xC (.str "0")))))))
def f_law_digits:Fn:=fnF 2 b_law_digits
def b_law_register:Sx:=
 (sSq (sIf (tAn (tBl (x2 eqG (xSl (Xv 0) oNone (oSome (xC (.int (1))))) (xC (.str "r")))) (tTru (Xc 1 f_law_digits (Ac (xSl (Xv 0) (oSome (xC (.int (1)))) oNone) An)))) (sRt (xA intG (Ac (xSl (Xv 0) (oSome (xC (.int (1)))) oNone) An))) sNx)
  (sRt (xC .non)))
def f_law_register:Fn:=fnF 1 b_law_register
def b_law_read_operand:Sx:=
 (sSq (sIf (tBl (x2 notNG (Xc 1 f_law_register (Ac (Xv 0) An)) (xC .non))) (sRt (xA tupG (Ac (xC (.str "reg")) (Ac (Xc 1 f_law_register (Ac (Xv 0) An)) An)))) sNx)
  (sSq (sIf (tAn (tBl (x2 eqG (xSl (Xv 0) oNone (oSome (xC (.int (1))))) (xC (.str "-")))) (tAn (tTru (Xc 1 f_law_digits (Ac (xSl (Xv 0) (oSome (xC (.int (1)))) oNone) An))) (tBl (x2 neG (Xv 0) (xC (.str "-0")))))) (sRt (xA tupG (Ac (xC (.str "int")) (Ac (x2 subG (xC (.int (0))) (xA intG (Ac (xSl (Xv 0) (oSome (xC (.int (1)))) oNone) An))) An)))) sNx)
  (sSq (sIf (tTru (Xc 1 f_law_digits (Ac (Xv 0) An))) (sRt (xA tupG (Ac (xC (.str "int")) (Ac (xA intG (Ac (Xv 0) An)) An)))) sNx)
  (sRt (xC .non)))))
def f_law_read_operand:Fn:=fnF 1 b_law_read_operand
def b_law_kinds:Sx:=
 (sRt (xA lstG (Ac (xC (.str "add")) (Ac (xC (.str "and")) (Ac (xC (.str "less")) (Ac (xC (.str "load")) (Ac (xC (.str "mul")) (Ac (xC (.str "out")) (Ac (xC (.str "store")) (Ac (xC (.str "sub")) An))))))))))
def f_law_kinds:Fn:=fnF 0 b_law_kinds
def b_law_read_line:Sx:=
 (sSq (sAs (x2 ixG (Xv 0) (xC (.int (0)))) (gNm 1))
  (sSq (sIf (tBl (x2 ninTG (Xv 1) (Xc 0 f_law_kinds An))) (sRt (xC .non)) sNx)
  (sSq (sAs (xC (.str "roo")) (gNm 2))
  (sSq (sIf (tBl (x2 inG (Xv 1) (xA lstG (Ac (xC (.str "load")) (Ac (xC (.str "store")) (Ac (xC (.str "out")) An)))))) (sAs (x2 ixG (xA lstG (Ac (x2 ixG (xA lstG (Ac (xC (.str "ro")) (Ac (xC (.str "oo")) An))) (xA intG (Ac (x2 eqG (Xv 1) (xC (.str "store"))) An))) (Ac (xC (.str "o")) An))) (xA intG (Ac (x2 eqG (Xv 1) (xC (.str "out"))) An))) (gNm 2)) sNx)
  (sSq (sIf (tBl (x2 neG (xA lenG (Ac (Xv 0) An)) (x2 addG (xA lenG (Ac (Xv 2) An)) (xC (.int (1)))))) (sRt (xC .non)) sNx)
  (sSq (sAs (xA lstG (Ac (Xv 1) An)) (gNm 3))
  (sSq (sFor (iRg (Ac (xA lenG (Ac (Xv 2) An)) An)) (gNm 4) (sIf (tBl (x2 eqG (x2 ixG (Xv 2) (Xv 4)) (xC (.str "r")))) (sEx (xM chkL appG (Xv 3) (Ac (Xc 1 f_law_register (Ac (x2 ixG (Xv 0) (x2 addG (Xv 4) (xC (.int (1))))) An)) An))) (sEx (xM chkL appG (Xv 3) (Ac (Xc 1 f_law_read_operand (Ac (x2 ixG (Xv 0) (x2 addG (Xv 4) (xC (.int (1))))) An)) An)))))
  (sSq (sIf (tBl (x2 inTG (xC .non) (Xv 3))) (sRt (xC .non)) sNx)
  (sRt (xA tupleG (Ac (Xv 3) An)))))))))))
def f_law_read_line:Fn:=fnF 5 b_law_read_line
def b_law_read:Sx:=
 (sSq (sAs (xA lstG An) (gNm 1))
  (sSq (sAs (xC .non) (gNm 2))
  (sSq (sAs (xA lstG An) (gNm 3))
  (sSq (sFor (iRg (Ac (xA lenG (Ac (Xv 0) An)) An)) (gNm 4) (sSq (sAs (xLcP (List.map (·.2) ([("word",6)]:List (Str×Nat))) (iAny (xM chkS splitG (x2 ixG (xM chkS splitG (x2 ixG (Xv 0) (Xv 4)) (Ac (xC (.str "#")) An)) (xC (.int (0)))) (Ac (xC (.str " ")) An))) (pNm 6) (tBl (x2 neG (Xv 6) (xC (.str "")))) (Xv 6)) (gNm 5))
  (sSq (sIf (tNt (tTru (Xv 5))) sCt sNx)
  (sIf (tBl (x2 eqG (x2 ixG (Xv 5) (xC (.int (0)))) (xC (.str "loop")))) (sSq (sIf (tOr' (tBl (x2 notNG (Xv 2) (xC .non))) (tOr' (tBl (x2 neG (xA lenG (Ac (Xv 5) An)) (xC (.int (2))))) (tBl (x2 isNG (Xc 1 f_law_read_operand (Ac (x2 ixG (Xv 5) (xC (.int (1)))) An)) (xC .non))))) (sRt (xA lstG (Ac (xC (.str "parse")) (Ac (Xv 4) An)))) sNx)
  (sSq (sAs (Xc 1 f_law_read_operand (Ac (x2 ixG (Xv 5) (xC (.int (1)))) An)) (gNm 2))
  (sAs (xA lstG An) (gNm 3)))) (sIf (tBl (x2 eqG (Xv 5) (xA lstG (Ac (xC (.str "end")) An)))) (sSq (sIf (tOr' (tBl (x2 isNG (Xv 2) (xC .non))) (tNt (tTru (Xv 3)))) (sRt (xA lstG (Ac (xC (.str "parse")) (Ac (Xv 4) An)))) sNx)
  (sSq (sEx (xM chkL appG (Xv 1) (Ac (xA tupG (Ac (xC (.str "loop")) (Ac (Xv 2) (Ac (xA tupleG (Ac (Xv 3) An)) An)))) An)))
  (sAs (xC .non) (gNm 2)))) (sSq (sAs (Xc 1 f_law_read_line (Ac (Xv 5) An)) (gNm 7))
  (sSq (sIf (tBl (x2 isNG (Xv 7) (xC .non))) (sRt (xA lstG (Ac (xC (.str "parse")) (Ac (Xv 4) An)))) sNx)
  (sIf (tBl (x2 isNG (Xv 2) (xC .non))) (sEx (xM chkL appG (Xv 1) (Ac (Xv 7) An))) (sEx (xM chkL appG (Xv 3) (Ac (Xv 7) An)))))))))))
  (sSq (sIf (tBl (x2 notNG (Xv 2) (xC .non))) (sRt (xA lstG (Ac (xC (.str "parse")) (Ac (xA lenG (Ac (Xv 0) An)) An)))) sNx)
  (sRt (xA lstG (Ac (xC (.str "good")) (Ac (xA tupleG (Ac (Xv 1) An)) An)))))))))
def f_law_read:Fn:=fnF 8 b_law_read
def b_law_due:Sx:=
 (sSq (sAs (xM chkS splitG (Xv 0) (Ac (xC (.str "\n")) An)) (gNm 1))
  (sSq (sIf (tBl (x2 gtG (xA lenG (Ac (Xv 0) An)) (xC (.int (4000))))) (sRt (xA lstG (Ac (xC (.str "limit")) (Ac (xC (.bl true)) An)))) sNx)
  (sSq (sAs (Xc 1 f_law_read (Ac (Xv 1) An)) (gNm 2))
  (sSq (sIf (tBl (x2 eqG (x2 ixG (Xv 2) (xC (.int (0)))) (xC (.str "parse")))) (sRt (x2 addG (Xv 2) (xA lstG (Ac (xC (.bl true)) An)))) sNx)
  (sSq (sIf (tOr' (tTru (Xc 1 f_law_large (Ac (x2 ixG (Xv 2) (xC (.int (1)))) An))) (tOr' (tBl (x2 gtG (xA lenG (Ac (x2 ixG (Xv 2) (xC (.int (1)))) An)) (xC (.int (12))))) (tTru (xA anyG (Ac (xLcP (List.map (·.2) ([("one",3)]:List (Str×Nat))) (iAny (x2 ixG (Xv 2) (xC (.int (1))))) (pNm 3) tYs (xAn (x2 eqG (x2 ixG (Xv 3) (xC (.int (0)))) (xC (.str "loop"))) (x2 gtG (xA lenG (Ac (x2 ixG (Xv 3) (xC (.int (2)))) An)) (xC (.int (12)))))) An))))) (sRt (xA lstG (Ac (xC (.str "limit")) (Ac (xC (.bl true)) An)))) sNx)
  (sRt (Xv 2)))))))
def f_law_due:Fn:=fnF 4 b_law_due
def b_law_fill:Sx:=
 (sSq (sAs (x2 addG (x2 ixG (Xv 0) (xC (.int (3)))) (xC (.int (1)))) (gIx (Xv 0) (xC (.int (3)))))
  (sSq (sAs (x2 addG (x2 mulG (x2 ixG (Xv 0) (xC (.int (3)))) (xC (.int (69621)))) (xC (.int (12345)))) (gNm 1))
  (sSq (sIf (tBl (x2 ltG (x2 ixG (Xv 0) (xC (.int (1)))) (xA lenG (Ac (x2 ixG (Xv 0) (xC (.int (0)))) An)))) (sSq (sAs (x2 ixG (x2 ixG (Xv 0) (xC (.int (0)))) (x2 ixG (Xv 0) (xC (.int (1))))) (gNm 1))
  (sSq (sAs (x2 addG (x2 ixG (Xv 0) (xC (.int (1)))) (xC (.int (1)))) (gIx (Xv 0) (xC (.int (1)))))
  (sSq (sIf (tBl (x2 ltG (Xv 1) (xC (.int (0))))) (sAs (x2 subG (x2 subG (xC (.int (0))) (xC (.int (1)))) (Xv 1)) (gNm 1)) sNx)
  (sIf (tBl (x2 geG (Xv 1) (x2 powG (xC (.int (10))) (xC (.int (18)))))) (sRt (Xv 1)) sNx)))) sNx)
  (sSq (sIf (tAn (tTru (x2 ixG (Xv 0) (xC (.int (0))))) (tBl (x2 geG (x2 ixG (Xv 0) (xC (.int (1)))) (xA lenG (Ac (x2 ixG (Xv 0) (xC (.int (0)))) An))))) (sAs (x2 addG (Xv 1) (x2 modG (xA intG (Ac (x2 ixG (x2 ixG (Xv 0) (xC (.int (0)))) (x1 negG (xC (.int (1))))) An)) (xC (.int (1000003))))) (gNm 1)) sNx)
  (sSq (sAs (x2 modG (xA intG (Ac (x2 addG (x2 mulG (Xv 1) (xC (.int (48271)))) (x2 mulG (x2 ixG (Xv 0) (xC (.int (3)))) (xC (.int (69621))))) An)) (xC (.int (2147483647)))) (gNm 1))
  (sRt (x2 addG (x2 modG (xA intG (Ac (x2 addG (x2 addG (x2 mulG (Xv 1) (Xv 1)) (x2 mulG (x2 ixG (Xv 0) (xC (.int (3)))) (xC (.int (7919))))) (xC (.int (11)))) An)) (xC (.int (2305843009213693951)))) (xC (.int (2305843009213693951))))))))))
def f_law_fill:Fn:=fnF 2 b_law_fill
def b_law_take:Sx:=
 (sSq (sIf (tBl (x2 ltG (x2 ixG (Xv 0) (xC (.int (2)))) (Xv 1))) (sAs (Xc 1 f_law_fill (Ac (Xv 0) An)) (gIx (Xv 0) (xC (.int (2))))) sNx)
  (sSq (sAs (x2 modG (xA intG (Ac (x2 ixG (Xv 0) (xC (.int (2)))) An)) (Xv 1)) (gNm 2))
  (sSq (sAs (x2 divG (x2 ixG (Xv 0) (xC (.int (2)))) (Xv 1)) (gIx (Xv 0) (xC (.int (2)))))
  (sRt (Xv 2)))))
def f_law_take:Fn:=fnF 3 b_law_take
def b_law_spoilt_lines:Sx:=
 (sSq (sAs (Xc 2 f_law_take (Ac (Xv 0) (Ac (x2 addG (xA lenG (Ac (Xv 1) An)) (xC (.int (1)))) An))) (gNm 2))
  (sSq (sAs (xA lstG (Ac (xC (.str "end")) (Ac (xC (.str "loop 3")) (Ac (xC (.str "loop r1")) (Ac (xC (.str "loop")) (Ac (xC (.str "loop 1 2")) (Ac (xC (.str "foo r1")) (Ac (xC (.str "add r1 r2")) (Ac (xC (.str "add 1 r2 r3")) (Ac (xC (.str "out 5")) (Ac (xC (.str "out")) (Ac (xC (.str "store 1")) (Ac (xC (.str "")) (Ac (xC (.str "# loop")) An)))))))))))))) (gNm 3))
  (sSq (sAs (x2 addG (Xv 3) (xA lstG (Ac (xC (.str "ADD r1 r2 5")) (Ac (xC (.str "Out 5")) (Ac (xC (.str "LOOP 3")) (Ac (xC (.str "END")) (Ac (xC (.str "adds r1 r2 5")) (Ac (xC (.str "loop3")) (Ac (xC (.str "ending")) (Ac (xC (.str "out --5")) (Ac (xC (.str "out -007")) (Ac (xC (.str "out -99999999999")) An)))))))))))) (gNm 3))
  (sSq (sAs (x2 addG (Xv 3) (xA lstG (Ac (xC (.str "load r1 2 3")) (Ac (xC (.str "end end")) (Ac (xC (.str "and r1 1 2 3")) (Ac (xC (.str "add r1 r2 5")) (Ac (xC (.str "mul r15 r16 1")) (Ac (xC (.str "out -0")) (Ac (xC (.str "out 2147483648")) (Ac (xC (.str "out -2147483649")) An)))))))))) (gNm 3))
  (sSq (sAs (xA lstG (Ac (xC (.str "r16")) (Ac (xC (.str "r015")) (Ac (xC (.str "r")) (Ac (xC (.str "R1")) (Ac (xC (.str "r-1")) (Ac (xC (.str "-0")) (Ac (xC (.str "007")) (Ac (xC (.str "-5")) (Ac (xC (.str "r00")) (Ac (xC (.str "+1")) (Ac (xC (.str "1.5")) (Ac (xC (.str "2147483647")) An))))))))))))) (gNm 4))
  (sSq (sAs (x2 addG (Xv 4) (xA lstG (Ac (xC (.str "-007")) (Ac (xC (.str "-00")) (Ac (xC (.str "-05")) (Ac (xC (.str "--5")) (Ac (xC (.str "-")) (Ac (xC (.str "5-")) (Ac (xC (.str "-r1")) (Ac (xC (.str "- 5")) (Ac (xC (.str "-99999999999")) (Ac (xC (.str "-2147483648")) (Ac (xC (.str "-2147483649")) (Ac (xC (.str "2147483648")) (Ac (xC (.str "99999999999999999999")) (Ac (xC (.str "r99999999999")) (Ac (xC (.str "x")) (Ac (xC (.str "end")) An)))))))))))))))))) (gNm 4))
  (sSq (sAs (Xc 2 f_law_take (Ac (Xv 0) (Ac (xC (.int (5))) An))) (gNm 5))
  (sSq (sIf (tOr' (tBl (x2 eqG (Xv 5) (xC (.int (0))))) (tNt (tTru (Xv 1)))) (sRt (x2 addG (x2 addG (xSl (Xv 1) oNone (oSome (Xv 2))) (xA lstG (Ac (x2 ixG (Xv 3) (Xc 2 f_law_take (Ac (Xv 0) (Ac (xA lenG (Ac (Xv 3) An)) An)))) An))) (xSl (Xv 1) (oSome (Xv 2)) oNone))) sNx)
  (sSq (sAs (xA minG (Ac (Xv 2) (Ac (x2 subG (xA lenG (Ac (Xv 1) An)) (xC (.int (1)))) An))) (gNm 2))
  (sSq (sIf (tBl (x2 eqG (Xv 5) (xC (.int (1))))) (sRt (x2 addG (xSl (Xv 1) oNone (oSome (Xv 2))) (xSl (Xv 1) (oSome (x2 addG (Xv 2) (xC (.int (1))))) oNone))) sNx)
  (sSq (sIf (tBl (x2 eqG (Xv 5) (xC (.int (2))))) (sRt (x2 addG (x2 addG (xSl (Xv 1) oNone (oSome (Xv 2))) (xSl (Xv 1) (oSome (Xv 2)) (oSome (x2 addG (Xv 2) (xC (.int (1))))))) (xSl (Xv 1) (oSome (Xv 2)) oNone))) sNx)
  (sSq (sAs (x2 addG (xLcP (List.map (·.2) ([("word",8)]:List (Str×Nat))) (iAny (xM chkS splitG (x2 ixG (Xv 1) (Xv 2)) (Ac (xC (.str " ")) An))) (pNm 8) (tBl (x2 neG (Xv 8) (xC (.str "")))) (Xv 8)) (xA lstG (Ac (xC (.str "")) An))) (gNm 6))
  (sSq (sAs (Xc 2 f_law_take (Ac (Xv 0) (Ac (xA lenG (Ac (Xv 6) An)) An))) (gNm 7))
  (sSq (sAs (x2 ixG (Xv 4) (Xc 2 f_law_take (Ac (Xv 0) (Ac (xA lenG (Ac (Xv 4) An)) An)))) (gIx (Xv 6) (Xv 7)))
  (sSq (sIf (tBl (x2 eqG (Xv 5) (xC (.int (4))))) (sAs (x2 addG (xSl (Xv 6) oNone (oSome (Xv 7))) (xSl (Xv 6) (oSome (x2 addG (Xv 7) (xC (.int (1))))) oNone)) (gNm 6)) sNx)
  (sRt (x2 addG (x2 addG (xSl (Xv 1) oNone (oSome (Xv 2))) (xA lstG (Ac (xM chkS joinG (xC (.str " ")) (Ac (Xv 6) An)) An))) (xSl (Xv 1) (oSome (x2 addG (Xv 2) (xC (.int (1))))) oNone))))))))))))))))))
def f_law_spoilt_lines:Fn:=fnF 9 b_law_spoilt_lines
def b_law_integer:Sx:=
 (sRt (x2 ixG (xA lstG (Ac (x2 subG (Xc 2 f_law_take (Ac (Xv 0) (Ac (xC (.int (9))) An))) (xC (.int (4)))) (Ac (Xc 2 f_law_take (Ac (Xv 0) (Ac (xC (.int (20))) An))) (Ac (x2 subG (Xc 2 f_law_take (Ac (Xv 0) (Ac (xC (.int (4294967296))) An))) (xC (.int (2147483648)))) (Ac (xC (.int (2147483647))) An))))) (x2 ixG (xA lstG (Ac (xC (.int (0))) (Ac (xC (.int (0))) (Ac (xC (.int (1))) (Ac (xC (.int (2))) (Ac (xC (.int (2))) (Ac (xC (.int (3))) An))))))) (Xc 2 f_law_take (Ac (Xv 0) (Ac (xC (.int (6))) An))))))
def f_law_integer:Fn:=fnF 1 b_law_integer
def b_law_operand:Sx:=
 (sSq (sIf (tBl (x2 neG (Xc 2 f_law_take (Ac (Xv 0) (Ac (xC (.int (3))) An))) (xC (.int (0))))) (sRt (xA tupG (Ac (xC (.str "reg")) (Ac (Xc 2 f_law_take (Ac (Xv 0) (Ac (Xv 1) An))) An)))) sNx)
  (sRt (xA tupG (Ac (xC (.str "int")) (Ac (Xc 1 f_law_integer (Ac (Xv 0) An)) An)))))
def f_law_operand:Fn:=fnF 2 b_law_operand
def b_law_instruction:Sx:=
 (sSq (sAs (x2 ixG (xA lstG (Ac (xC (.str "add")) (Ac (xC (.str "and")) (Ac (xC (.str "less")) (Ac (xC (.str "load")) (Ac (xC (.str "mul")) (Ac (xC (.str "out")) (Ac (xC (.str "store")) (Ac (xC (.str "sub")) (Ac (xC (.str "add")) (Ac (xC (.str "out")) (Ac (xC (.str "load")) (Ac (xC (.str "store")) An))))))))))))) (Xc 2 f_law_take (Ac (Xv 0) (Ac (xC (.int (12))) An)))) (gNm 2))
  (sSq (sIf (tBl (x2 eqG (Xv 2) (xC (.str "out")))) (sRt (xA tupG (Ac (xC (.str "out")) (Ac (Xc 2 f_law_operand (Ac (Xv 0) (Ac (Xv 1) An))) An)))) sNx)
  (sSq (sAs (xA tupG (Ac (xC (.str "int")) (Ac (x2 subG (Xc 2 f_law_take (Ac (Xv 0) (Ac (x2 ixG (xA lstG (Ac (xC (.int (3))) (Ac (xC (.int (40))) An))) (Xc 2 f_law_take (Ac (Xv 0) (Ac (xC (.int (2))) An)))) An))) (xC (.int (1)))) An))) (gNm 3))
  (sSq (sIf (tBl (x2 eqG (Xv 2) (xC (.str "load")))) (sRt (xA tupG (Ac (xC (.str "load")) (Ac (Xc 2 f_law_take (Ac (Xv 0) (Ac (Xv 1) An))) (Ac (x2 ixG (xA lstG (Ac (Xv 3) (Ac (Xc 2 f_law_operand (Ac (Xv 0) (Ac (Xv 1) An))) An))) (Xc 2 f_law_take (Ac (Xv 0) (Ac (xC (.int (2))) An)))) An))))) sNx)
  (sSq (sIf (tBl (x2 eqG (Xv 2) (xC (.str "store")))) (sRt (xA tupG (Ac (xC (.str "store")) (Ac (x2 ixG (xA lstG (Ac (Xv 3) (Ac (Xc 2 f_law_operand (Ac (Xv 0) (Ac (Xv 1) An))) An))) (Xc 2 f_law_take (Ac (Xv 0) (Ac (xC (.int (2))) An)))) (Ac (Xc 2 f_law_operand (Ac (Xv 0) (Ac (Xv 1) An))) An))))) sNx)
  (sRt (xA tupG (Ac (Xv 2) (Ac (Xc 2 f_law_take (Ac (Xv 0) (Ac (Xv 1) An))) (Ac (Xc 2 f_law_operand (Ac (Xv 0) (Ac (Xv 1) An))) (Ac (Xc 2 f_law_operand (Ac (Xv 0) (Ac (Xv 1) An))) An)))))))))))
def f_law_instruction:Fn:=fnF 4 b_law_instruction
def b_law_block:Sx:=
 (sRt (xA tupleG (Ac (xLcP (List.map (·.2) ([("k",3)]:List (Str×Nat))) (iRg (Ac (Xc 2 f_law_take (Ac (Xv 0) (Ac (x2 addG (Xv 2) (xC (.int (1)))) An))) An)) (pNm 3) tYs (Xc 2 f_law_instruction (Ac (Xv 0) (Ac (Xv 1) An)))) An)))
def f_law_block:Fn:=fnF 4 b_law_block
def b_law_program:Sx:=
 (sSq (sAs (xA lstG An) (gNm 3))
  (sSq (sFor (iRg (Ac (Xc 2 f_law_take (Ac (Xv 0) (Ac (xC (.int (5))) An))) An)) (gNm 4) (sIf (tBl (x2 eqG (Xc 2 f_law_take (Ac (Xv 0) (Ac (xC (.int (3))) An))) (xC (.int (0))))) (sSq (sAs (x2 ixG (xA lstG (Ac (xA tupG (Ac (xC (.str "int")) (Ac (x2 subG (Xc 2 f_law_take (Ac (Xv 0) (Ac (xC (.int (7))) An))) (xC (.int (1)))) An))) (Ac (xA tupG (Ac (xC (.str "reg")) (Ac (Xc 2 f_law_take (Ac (Xv 0) (Ac (Xv 1) An))) An))) (Ac (xA tupG (Ac (xC (.str "int")) (Ac (x2 ixG (xA lstG (Ac (Xc 2 f_law_take (Ac (Xv 0) (Ac (xC (.int (50))) An))) (Ac (Xc 1 f_law_integer (Ac (Xv 0) An)) An))) (Xc 2 f_law_take (Ac (Xv 0) (Ac (xC (.int (2))) An)))) An))) An)))) (Xc 2 f_law_take (Ac (Xv 0) (Ac (xC (.int (3))) An)))) (gNm 5))
  (sEx (xM chkL appG (Xv 3) (Ac (xA tupG (Ac (xC (.str "loop")) (Ac (Xv 5) (Ac (x2 addG (xA tupG (Ac (Xc 2 f_law_instruction (Ac (Xv 0) (Ac (Xv 1) An))) An)) (Xc 3 f_law_block (Ac (Xv 0) (Ac (Xv 1) (Ac (x2 subG (Xv 2) (xC (.int (1)))) An))))) An)))) An)))) (sAs (x2 addG (Xv 3) (xA listG (Ac (Xc 3 f_law_block (Ac (Xv 0) (Ac (Xv 1) (Ac (xC (.int (4))) An)))) An))) (gNm 3))))
  (sRt (xA tupleG (Ac (xSl (Xv 3) oNone (oSome (xC (.int (12))))) An)))))
def f_law_program:Fn:=fnF 6 b_law_program
def b_law_shown:Sx:=
 (sSq (sIf (tTru (x1 (isG "tuple") (Xv 0))) (sRt (x2 addG (x2 ixG (xA lstG (Ac (xC (.str "")) (Ac (xC (.str "r")) An))) (xA intG (Ac (x2 eqG (x2 ixG (Xv 0) (xC (.int (0)))) (xC (.str "reg"))) An))) (xA strG (Ac (x2 ixG (Xv 0) (xC (.int (1)))) An)))) sNx)
  (sRt (x2 addG (xC (.str "r")) (xA strG (Ac (Xv 0) An)))))
def f_law_shown:Fn:=fnF 1 b_law_shown
def b_law_line:Sx:=
 (sRt (xM chkS joinG (xC (.str " ")) (Ac (x2 addG (xA lstG (Ac (x2 ixG (Xv 0) (xC (.int (0)))) An)) (xLcP (List.map (·.2) ([("part",1)]:List (Str×Nat))) (iAny (xSl (Xv 0) (oSome (xC (.int (1)))) oNone)) (pNm 1) tYs (Xc 1 f_law_shown (Ac (Xv 1) An)))) An)))
def f_law_line:Fn:=fnF 2 b_law_line
def b_law_lines:Sx:=
 (sSq (sAs (xA lstG An) (gNm 1))
  (sSq (sFor (iAny (Xv 0)) (gNm 2) (sIf (tBl (x2 eqG (x2 ixG (Xv 2) (xC (.int (0)))) (xC (.str "loop")))) (sSq (sEx (xM chkL appG (Xv 1) (Ac (x2 addG (xC (.str "loop ")) (Xc 1 f_law_shown (Ac (x2 ixG (Xv 2) (xC (.int (1)))) An))) An)))
  (sAs (x2 addG (x2 addG (Xv 1) (xLcP (List.map (·.2) ([("each",3)]:List (Str×Nat))) (iAny (x2 ixG (Xv 2) (xC (.int (2))))) (pNm 3) tYs (x2 addG (xC (.str "  ")) (Xc 1 f_law_line (Ac (Xv 3) An))))) (xA lstG (Ac (xC (.str "end")) An))) (gNm 1))) (sEx (xM chkL appG (Xv 1) (Ac (Xc 1 f_law_line (Ac (Xv 2) An)) An)))))
  (sRt (Xv 1))))
def f_law_lines:Fn:=fnF 4 b_law_lines
def b_law_rest:Sx:=
 (sSq (sAs (Xc 1 f_law_lines (Ac (Xc 3 f_law_program (Ac (Xv 1) (Ac (xC (.int (16))) (Ac (xC (.int (6))) An)))) An)) (gNm 2))
  (sSq (sFor (iRg (Ac (x2 addG (xC (.int (1))) (Xc 2 f_law_take (Ac (Xv 1) (Ac (xC (.int (3))) An)))) An)) (gNm 3) (sAs (Xc 2 f_law_spoilt_lines (Ac (Xv 1) (Ac (Xv 2) An))) (gNm 2)))
  (sSq (sAs (Xc 2 f_law_take (Ac (Xv 1) (Ac (xC (.int (8))) An))) (gNm 4))
  (sSq (sIf (tBl (x2 eqG (Xv 4) (xC (.int (0))))) (sAs (x2 addG (Xv 2) (xLcP (List.map (·.2) ([("k",3)]:List (Str×Nat))) (iRg (Ac (x2 subG (xC (.int (13))) (Xc 2 f_law_take (Ac (Xv 1) (Ac (xC (.int (3))) An)))) An)) (pNm 3) tYs (x2 addG (xC (.str "out ")) (xA strG (Ac (Xv 3) An))))) (gNm 2)) sNx)
  (sSq (sIf (tBl (x2 eqG (Xv 4) (xC (.int (1))))) (sAs (x2 addG (x2 addG (x2 addG (Xv 2) (xA lstG (Ac (xC (.str "loop 2")) An))) (x2 mulG (xA lstG (Ac (xC (.str "  out 1")) An)) (x2 addG (xC (.int (11))) (Xc 2 f_law_take (Ac (Xv 1) (Ac (xC (.int (3))) An)))))) (xA lstG (Ac (xC (.str "end")) An))) (gNm 2)) sNx)
  (sSq (sAs (xM chkS joinG (xC (.str "\n")) (Ac (Xv 2) An)) (gNm 5))
  (sSq (sIf (tBl (x2 eqG (Xv 4) (xC (.int (2))))) (sAs (x2 addG (Xv 5) (x2 smulG (xC (.str "#")) (x2 subG (x2 addG (xC (.int (3998))) (Xc 2 f_law_take (Ac (Xv 1) (Ac (xC (.int (5))) An)))) (xA lenG (Ac (Xv 5) An))))) (gNm 5)) sNx)
  (sRt (x2 eqG (Xc 1 f_law_told (Ac (Xv 5) An)) (Xc 1 f_law_due (Ac (Xv 5) An)))))))))))
def b_law:Sx:=
 (sSq (sAs (Xc 1 f_law_start (Ac (Xv 0) An)) (gNm 1))
  (sSq (sAs (Xc 1 f_law_lines (Ac (Xc 3 f_law_program (Ac (Xv 1) (Ac (xC (.int (16))) (Ac (xC (.int (6))) An)))) An)) (gNm 2))
  (sSq (sFor (iRg (Ac (x2 addG (xC (.int (1))) (Xc 2 f_law_take (Ac (Xv 1) (Ac (xC (.int (3))) An)))) An)) (gNm 3) (sAs (Xc 2 f_law_spoilt_lines (Ac (Xv 1) (Ac (Xv 2) An))) (gNm 2)))
  (sSq (sAs (Xc 2 f_law_take (Ac (Xv 1) (Ac (xC (.int (8))) An))) (gNm 4))
  (sSq (sIf (tBl (x2 eqG (Xv 4) (xC (.int (0))))) (sAs (x2 addG (Xv 2) (xLcP (List.map (·.2) ([("k",3)]:List (Str×Nat))) (iRg (Ac (x2 subG (xC (.int (13))) (Xc 2 f_law_take (Ac (Xv 1) (Ac (xC (.int (3))) An)))) An)) (pNm 3) tYs (x2 addG (xC (.str "out ")) (xA strG (Ac (Xv 3) An))))) (gNm 2)) sNx)
  (sSq (sIf (tBl (x2 eqG (Xv 4) (xC (.int (1))))) (sAs (x2 addG (x2 addG (x2 addG (Xv 2) (xA lstG (Ac (xC (.str "loop 2")) An))) (x2 mulG (xA lstG (Ac (xC (.str "  out 1")) An)) (x2 addG (xC (.int (11))) (Xc 2 f_law_take (Ac (Xv 1) (Ac (xC (.int (3))) An)))))) (xA lstG (Ac (xC (.str "end")) An))) (gNm 2)) sNx)
  (sSq (sAs (xM chkS joinG (xC (.str "\n")) (Ac (Xv 2) An)) (gNm 5))
  (sSq (sIf (tBl (x2 eqG (Xv 4) (xC (.int (2))))) (sAs (x2 addG (Xv 5) (x2 smulG (xC (.str "#")) (x2 subG (x2 addG (xC (.int (3998))) (Xc 2 f_law_take (Ac (Xv 1) (Ac (xC (.int (5))) An)))) (xA lenG (Ac (Xv 5) An))))) (gNm 5)) sNx)
  (sRt (x2 eqG (Xc 1 f_law_told (Ac (Xv 5) An)) (Xc 1 f_law_due (Ac (Xv 5) An))))))))))))
def f_law:Fn:=fnF 6 b_law
end Gen
end
section
set_option maxHeartbeats 4000000
namespace Gen
open PySem PySem.Spec L2 Rf
local macro_rules | `(tactic| walk_at "o") => `(tactic| first|exact Or.inl rfl|exact Or.inr rfl)
local macro_rules | `(tactic| walk_at "s") => `(tactic| exact⟨rfl,rfl,rfl,by decide +kernel,rfl,by decide +kernel,by decide +kernel⟩)
def top (i:Nat):Stmt:=PySem.Challenge.pw_trireme_k02_errors_of_texts.main.body.getD i (.Pass ⟨0,0,0,0⟩)
abbrev s_law_start:Stmt:=(top 28)
abbrev N_law_start:List Str:=["script","cell"]
theorem sc_law_start:FnScope N_law_start ["script"] (defScope s_law_start):=(by walk_at "s")
abbrev s_check_sizes:Stmt:=(top 26)
abbrev N_check_sizes:List Str:=["program","statement"]
theorem sc_check_sizes:FnScope N_check_sizes ["program"] (defScope s_check_sizes):=(by walk_at "s")
abbrev s_read_number:Stmt:=(top 25)
abbrev N_read_number:List Str:=["word","least","greatest","number"]
theorem sc_read_number:FnScope N_read_number ["word","least","greatest"] (defScope s_read_number):=(by walk_at "s")
abbrev s_read_operand:Stmt:=(top 24)
abbrev N_read_operand:List Str:=["word"]
theorem sc_read_operand:FnScope N_read_operand ["word"] (defScope s_read_operand):=(by walk_at "s")
abbrev s_read_instruction:Stmt:=(top 23)
abbrev N_read_instruction:List Str:=["words","instruction","part","word","operand"]
theorem sc_read_instruction:FnScope N_read_instruction ["words"] (defScope s_read_instruction):=(by walk_at "s")
abbrev s_build:Stmt:=(top 22)
abbrev N_build:List Str:=["rows","program","turns","body","words"]
theorem sc_build:FnScope N_build ["rows"] (defScope s_build):=(by walk_at "s")
abbrev s_is_natural:Stmt:=(top 21)
abbrev N_is_natural:List Str:=["word"]
theorem sc_is_natural:FnScope N_is_natural ["word"] (defScope s_is_natural):=(by walk_at "s")
abbrev s_is_integer:Stmt:=(top 20)
abbrev N_is_integer:List Str:=["word"]
theorem sc_is_integer:FnScope N_is_integer ["word"] (defScope s_is_integer):=(by walk_at "s")
abbrev s_is_register:Stmt:=(top 19)
abbrev N_is_register:List Str:=["word"]
theorem sc_is_register:FnScope N_is_register ["word"] (defScope s_is_register):=(by walk_at "s")
abbrev s_is_written:Stmt:=(top 18)
abbrev N_is_written:List Str:=["part","word"]
theorem sc_is_written:FnScope N_is_written ["part","word"] (defScope s_is_written):=(by walk_at "s")
abbrev s_form_of:Stmt:=(top 17)
abbrev N_form_of:List Str:=["word"]
theorem sc_form_of:FnScope N_form_of ["word"] (defScope s_form_of):=(by walk_at "s")
abbrev s_has_form:Stmt:=(top 16)
abbrev N_has_form:List Str:=["words","form","part","word"]
theorem sc_has_form:FnScope N_has_form ["words"] (defScope s_has_form):=(by walk_at "s")
abbrev s_may_stand:Stmt:=(top 15)
abbrev N_may_stand:List Str:=["word","inside"]
theorem sc_may_stand:FnScope N_may_stand ["word","inside"] (defScope s_may_stand):=(by walk_at "s")
abbrev s_check_forms:Stmt:=(top 14)
abbrev N_check_forms:List Str:=["rows","inside","line","words"]
theorem sc_check_forms:FnScope N_check_forms ["rows"] (defScope s_check_forms):=(by walk_at "s")
abbrev s_words_of:Stmt:=(top 13)
abbrev N_words_of:List Str:=["line","word"]
theorem sc_words_of:FnScope N_words_of ["line"] (defScope s_words_of):=(by walk_at "s")
abbrev s_parse:Stmt:=(top 12)
abbrev N_parse:List Str:=["text","rows","program","line","words"]
theorem sc_parse:FnScope N_parse ["text"] (defScope s_parse):=(by walk_at "s")
abbrev s_law_told:Stmt:=(top 42)
abbrev N_law_told:List Str:=["text","e"]
theorem sc_law_told:FnScope N_law_told ["text"] (defScope s_law_told):=(by walk_at "s")
abbrev s_law_large:Stmt:=(top 48)
abbrev N_law_large:List Str:=["value","wide","part"]
theorem sc_law_large:FnScope N_law_large ["value"] (defScope s_law_large):=(by walk_at "s")
abbrev s_law_digits:Stmt:=(top 43)
abbrev N_law_digits:List Str:=["word","x"]
theorem sc_law_digits:FnScope N_law_digits ["word"] (defScope s_law_digits):=(by walk_at "s")
abbrev s_law_register:Stmt:=(top 44)
abbrev N_law_register:List Str:=["word"]
theorem sc_law_register:FnScope N_law_register ["word"] (defScope s_law_register):=(by walk_at "s")
abbrev s_law_read_operand:Stmt:=(top 45)
abbrev N_law_read_operand:List Str:=["word"]
theorem sc_law_read_operand:FnScope N_law_read_operand ["word"] (defScope s_law_read_operand):=(by walk_at "s")
abbrev s_law_kinds:Stmt:=(top 31)
abbrev N_law_kinds:List Str:=[]
theorem sc_law_kinds:FnScope N_law_kinds [] (defScope s_law_kinds):=(by walk_at "s")
abbrev s_law_read_line:Stmt:=(top 46)
abbrev N_law_read_line:List Str:=["words","kind","shape","found","k"]
theorem sc_law_read_line:FnScope N_law_read_line ["words"] (defScope s_law_read_line):=(by walk_at "s")
abbrev s_law_read:Stmt:=(top 47)
abbrev N_law_read:List Str:=["lines","program","count","body","k","words","word","one"]
theorem sc_law_read:FnScope N_law_read ["lines"] (defScope s_law_read):=(by walk_at "s")
abbrev s_law_due:Stmt:=(top 49)
abbrev N_law_due:List Str:=["text","lines","found","one"]
theorem sc_law_due:FnScope N_law_due ["text"] (defScope s_law_due):=(by walk_at "s")
abbrev s_law_fill:Stmt:=(top 29)
abbrev N_law_fill:List Str:=["c","number"]
theorem sc_law_fill:FnScope N_law_fill ["c"] (defScope s_law_fill):=(by walk_at "s")
abbrev s_law_take:Stmt:=(top 30)
abbrev N_law_take:List Str:=["c","many","digit"]
theorem sc_law_take:FnScope N_law_take ["c","many"] (defScope s_law_take):=(by walk_at "s")
abbrev s_law_spoilt_lines:Stmt:=(top 50)
abbrev N_law_spoilt_lines:List Str:=["c","lines","k","rows","menu","kind","words","j","word"]
theorem sc_law_spoilt_lines:FnScope N_law_spoilt_lines ["c","lines"] (defScope s_law_spoilt_lines):=(by walk_at "s")
abbrev s_law_integer:Stmt:=(top 33)
abbrev N_law_integer:List Str:=["c"]
theorem sc_law_integer:FnScope N_law_integer ["c"] (defScope s_law_integer):=(by walk_at "s")
abbrev s_law_operand:Stmt:=(top 34)
abbrev N_law_operand:List Str:=["c","many"]
theorem sc_law_operand:FnScope N_law_operand ["c","many"] (defScope s_law_operand):=(by walk_at "s")
abbrev s_law_instruction:Stmt:=(top 35)
abbrev N_law_instruction:List Str:=["c","many","kind","place"]
theorem sc_law_instruction:FnScope N_law_instruction ["c","many"] (defScope s_law_instruction):=(by walk_at "s")
abbrev s_law_block:Stmt:=(top 36)
abbrev N_law_block:List Str:=["c","many","most","k"]
theorem sc_law_block:FnScope N_law_block ["c","many","most"] (defScope s_law_block):=(by walk_at "s")
abbrev s_law_program:Stmt:=(top 37)
abbrev N_law_program:List Str:=["c","many","most","found","k","n"]
theorem sc_law_program:FnScope N_law_program ["c","many","most"] (defScope s_law_program):=(by walk_at "s")
abbrev s_law_shown:Stmt:=(top 39)
abbrev N_law_shown:List Str:=["part"]
theorem sc_law_shown:FnScope N_law_shown ["part"] (defScope s_law_shown):=(by walk_at "s")
abbrev s_law_line:Stmt:=(top 40)
abbrev N_law_line:List Str:=["one","part"]
theorem sc_law_line:FnScope N_law_line ["one"] (defScope s_law_line):=(by walk_at "s")
abbrev s_law_lines:Stmt:=(top 41)
abbrev N_law_lines:List Str:=["program","found","one","each"]
theorem sc_law_lines:FnScope N_law_lines ["program"] (defScope s_law_lines):=(by walk_at "s")
abbrev s_law:Stmt:=(top 51)
abbrev N_law:List Str:=["script","c","lines","k","kind","text"]
theorem sc_law:FnScope N_law ["script"] (defScope s_law):=(by walk_at "s")
structure Txt (P:Program) (w:World) (K:PySem.W.Frag) (mg:Str→Option Value) (cl:Nat→Addr):Prop where
 g_HIGHEST:∃t,mg "HIGHEST"=some (.int (2147483647) t)
 g_LOWEST:∃t,mg "LOWEST"=some (.int (-2147483648) t)
 g_MOST_INSTRUCTIONS:∃t,mg "MOST_INSTRUCTIONS"=some (.int (12) t)
 g_MOST_SIGNS:∃t,mg "MOST_SIGNS"=some (.int (4000) t)
 g_MOST_STATEMENTS:∃t,mg "MOST_STATEMENTS"=some (.int (12) t)
 g_REGISTERS:∃t,mg "REGISTERS"=some (.int (16) t)
 z_all:mg "all"=none
 z_any:mg "any"=none
 z_enumerate:mg "enumerate"=none
 z_int:mg "int"=none
 z_isinstance:mg "isinstance"=none
 z_len:mg "len"=none
 z_list:mg "list"=none
 z_min:mg "min"=none
 z_range:mg "range"=none
 z_str:mg "str"=none
 z_super:mg "super"=none
 z_tuple:mg "tuple"=none
 z_zip:mg "zip"=none
 g_FORMS:KTab K w mg "FORMS" T_FORMS
 gx_FORMS:KTabX K mg "FORMS" T_FORMS
 x1:XcF K mg "LimitError" (cl 1)
 y1:XcC K mg "LimitError" (cl 1)
 y2:XcC K mg "ParseError" (cl 2)
 w2:∃fI,PySem.PeX.PeTxt P K mg (cl 2) fI
 nf2:W.findIn K (.ref (cl 2)) "line"=some none
 ne1_2:PySem.W.subIn K (.ref (cl 1)) (.ref (cl 2))=some false
 t1_ParseError:∃CT,mg "ParseError"=some (.ref CT)∧PySem.W.kitOne K (.ref (cl 1)) (.ref CT)=some false
 t1_TriremeError:∃CT,mg "TriremeError"=some (.ref CT)∧PySem.W.kitOne K (.ref (cl 1)) (.ref CT)=some true
 t2_LimitError:∃CT,mg "LimitError"=some (.ref CT)∧PySem.W.kitOne K (.ref (cl 2)) (.ref CT)=some false
 t2_TriremeError:∃CT,mg "TriremeError"=some (.ref CT)∧PySem.W.kitOne K (.ref (cl 2)) (.ref CT)=some true
 t2_ValueError:mg "ValueError"=none∧PySem.W.kitOne K (.ref (cl 2)) (.type "ValueError")=some true
section
variable {P:Program}{w:World}{K:PySem.W.Frag}{mg:Str→Option Value}{base:Heap}{cl:Nat→Addr}
theorem ok_law_start {f:Addr}{fd:FuncData}(T:Txt P w K mg cl)(F:L2.Fun K "_law_start" "_law_start" s_law_start f fd)  : FnOk P w K mg base CX0 1 f fd ["script"] (SpF K cl 1 f_law_start):=
 fn_ok (N:=N_law_start) F sc_law_start rfl fun cdv A outer s H E hr=>
  (Rso (rs_ret (rx_lst (Rc (rx_lcP (own:=[("cell",1)]) (g:=(pNm 1)) (pat_nm (by decide)) rfl sc_law_start.nd (ri_any (rx_sl (rv 0) ro_none (ro_some Rxi))) (blkOk_by (own:=[("cell",1)]) (N:=N_law_start) (sc:=defScope s_law_start) (by decide +kernel)) (fun _ _ _ _ _=>(pgn 1 sc_law_start.nd)) (fun _ _ _ _ _=>Rtn) (fun _ _ _ _ _=>(rx_callTy (id:="int") cx_int (by rfl) T.z_int (by decide +kernel) (Rc (rv 1) Rn)))) (Rc Rxi (Rc Rxi (Rc Rxi (Rc Rxi Rn))))))))
theorem ok_check_sizes {f:Addr}{fd:FuncData}(T:Txt P w K mg cl)(F:L2.Fun K "check_sizes" "check_sizes" s_check_sizes f fd)  : FnOk P w K mg base (L2.CX P w) 1 f fd ["program"] (SpW K cl 1 f_check_sizes):=
 fn_okW (N:=N_check_sizes) F sc_check_sizes rfl fun cdv A outer s H E hr tk pw=>
  (rssw_cons (rsw_if (rt_cmp ox_gt (rx_callB (id:="len") cx_len (by rfl) T.z_len (by decide +kernel) (Rc (rv 0) Rn)) (rx_gint T.g_MOST_STATEMENTS (by rfl)) (nomark _)) (rssw_one (rsw_raiseX (c:=1) rfl tk T.x1 (by rfl))) (rssw rss_nil))
   (rssw_one (rsw_for pw rfl (ri_any (rv 0)) (rg_name (i:=1) sc_check_sizes.nd rfl (by walk_at "o")) (rssw_one (rsw_if (rt_w (rw_and (rt_cmp (ox_eq hr.units) (rx_ix (hu_of hr) (rv 1) Rxi (fun _ _=>rfl)) rx_str (nomark _)) (rw_and1 (rt_cmp ox_gt (rx_callB (id:="len") cx_len (by rfl) T.z_len (by decide +kernel) (Rc (rx_ix (hu_of hr) (rv 1) Rxi (fun _ _=>rfl)) Rn)) (rx_gint T.g_MOST_INSTRUCTIONS (by rfl)) (nomark _))))) (rssw_one (rsw_raiseX (c:=1) rfl tk T.x1 (by rfl))) (rssw rss_nil))))))
theorem ok_read_number {f:Addr}{fd:FuncData}(T:Txt P w K mg cl)(F:L2.Fun K "read_number" "read_number" s_read_number f fd)  : FnOk P w K mg base (L2.CX P w) 1 f fd ["word","least","greatest"] (SpW K cl 3 f_read_number):=
 fn_okW (N:=N_read_number) F sc_read_number rfl fun cdv A outer s H E hr tk pw=>
  (rssw_cons (rsw_if (rt_cmp ox_gt (rx_callB (id:="len") cx_len (by rfl) T.z_len (by decide +kernel) (Rc (rv 0) Rn)) (rx_callB (id:="len") cx_len (by rfl) T.z_len (by decide +kernel) (Rc (rx_callTy (id:="str") cx_str (by rfl) T.z_str (by decide +kernel) (Rc (rx_gint T.g_LOWEST (by rfl)) Rn)) Rn)) (nomark _)) (rssw_one (rsw_raiseX (c:=1) rfl tk T.x1 (by rfl))) (rssw rss_nil))
   (rssw_cons (rsw (rs_set (i:=3) sc_read_number.nd rfl (by walk_at "o") (rx_callTy (id:="int") cx_int (by rfl) T.z_int (by decide +kernel) (Rc (rv 0) Rn))))
   (rssw_cons (rsw_if (rt_w (rw_or (rt_cmp ox_lt (rv 3) (rv 1) (nomark _)) (rw_or1 (rt_cmp ox_gt (rv 3) (rv 2) (nomark _))))) (rssw_one (rsw_raiseX (c:=1) rfl tk T.x1 (by rfl))) (rssw rss_nil))
   (rssw_one (rsw (rs_ret (rv 3)))))))
theorem ok_read_operand {f:Addr}{fd:FuncData}(T:Txt P w K mg cl)(F:L2.Fun K "read_operand" "read_operand" s_read_operand f fd)(c_read_number:CalW P w K mg base 1 "read_number" (SpW K cl 3 f_read_number)):FnOk P w K mg base (L2.CX P w) 2 f fd ["word"] (SpW K cl 1 f_read_operand):=
 fn_okW (N:=N_read_operand) F sc_read_operand rfl fun cdv A outer s H E hr tk pw=>
  (rssw_cons (rsw_if (rt_tru (rx_starts (rv 0) rx_str)) (rssw_one (rsw_ret (rxw_tup (raw_cons (rxw rx_str) (raw_cons (rxw_callC tk c_read_number hr (by decide) (by rfl) (Rc (rx_sl (rv 0) (ro_some Rxi) ro_none) (Rc Rxi (Rc (rx_bin ox_sub (rx_gint T.g_REGISTERS (by rfl)) Rxi) Rn)))) (raw Rn)))))) (rssw rss_nil))
   (rssw_one (rsw_ret (rxw_tup (raw_cons (rxw rx_str) (raw_cons (rxw_callC tk c_read_number hr (by decide) (by rfl) (Rc (rv 0) (Rc (rx_gint T.g_LOWEST (by rfl)) (Rc (rx_gint T.g_HIGHEST (by rfl)) Rn)))) (raw Rn)))))))
theorem ok_read_instruction {f:Addr}{fd:FuncData}(T:Txt P w K mg cl)(F:L2.Fun K "read_instruction" "read_instruction" s_read_instruction f fd)(c_read_operand:CalW P w K mg base 2 "read_operand" (SpW K cl 1 f_read_operand)):FnOk P w K mg base (L2.CX P w) 3 f fd ["words"] (SpW K cl 1 f_read_instruction):=
 fn_okW (N:=N_read_instruction) F sc_read_instruction rfl fun cdv A outer s H E hr tk pw=>
  (rssw_cons (rsw (rs_set (i:=1) sc_read_instruction.nd rfl (by walk_at "o") (rx_lst (Rc (rx_ix (hu_of hr) (rv 0) Rxi (fun _ _=>rfl)) Rn))))
   (rssw_cons (rsw_for pw rfl (ri_zipX (by rfl) T.z_zip (Rc (rx_kd T.g_FORMS (by rfl) (rx_ix (hu_of hr) (rv 0) Rxi (fun _ _=>rfl)) (fun _ _=>rfl)) (Rc (rx_sl (rv 0) (ro_some Rxi) ro_none) Rn))) (rg_seq (n:=2) rfl (rgs_cons (rg_name (i:=2) sc_read_instruction.nd rfl (by walk_at "o")) (rgs_cons (rg_name (i:=3) sc_read_instruction.nd rfl (by walk_at "o")) rgs_nil))) (rssw_cons (rsw_set (i:=4) sc_read_instruction.nd rfl (by walk_at "o") (rxw_callC tk c_read_operand hr (by decide) (by rfl) (Rc (rv 3) Rn)))
   (rssw_one (rsw (rs_expr (rx_append (rv 1) (rx_ife (rt_cmp (ox_eq hr.units) (rv 2) rx_str (nomark _)) (rx_ix (hu_of hr) (rv 4) Rxi (fun _ _=>rfl)) (rv 4))))))))
   (rssw_one (rsw (rs_ret (rx_callTy (id:="tuple") cx_tuple (by rfl) T.z_tuple (by decide +kernel) (Rc (rv 1) Rn)))))))
theorem ok_build {f:Addr}{fd:FuncData}(T:Txt P w K mg cl)(F:L2.Fun K "build" "build" s_build f fd)(c_read_operand:CalW P w K mg base 2 "read_operand" (SpW K cl 1 f_read_operand))(c_read_instruction:CalW P w K mg base 3 "read_instruction" (SpW K cl 1 f_read_instruction)):FnOk P w K mg base (L2.CX P w) 4 f fd ["rows"] (SpW K cl 1 f_build):=
 fn_okW (N:=N_build) F sc_build rfl fun cdv A outer s H E hr tk pw=>
  (rssw_cons (rsw (rs_set (i:=1) sc_build.nd rfl (by walk_at "o") (rx_lst Rn)))
   (rssw_cons (rsw (rs_set (i:=2) sc_build.nd rfl (by walk_at "o") rx_non))
   (rssw_cons (rsw (rs_set (i:=3) sc_build.nd rfl (by walk_at "o") (rx_lst Rn)))
   (rssw_cons (rsw_for pw rfl (ri_any (rv 0)) (rg_name (i:=4) sc_build.nd rfl (by walk_at "o")) (rssw_one (rsw_if (rt_cmp (ox_eq hr.units) (rx_ix (hu_of hr) (rv 4) Rxi (fun _ _=>rfl)) rx_str (nomark _)) (rssw_one (rsw_set (i:=2) sc_build.nd rfl (by walk_at "o") (rxw_callC tk c_read_operand hr (by decide) (by rfl) (Rc (rx_ix (hu_of hr) (rv 4) Rxi (fun _ _=>rfl)) Rn)))) (rssw_one (rsw_if (rt_cmp (ox_eq hr.units) (rx_ix (hu_of hr) (rv 4) Rxi (fun _ _=>rfl)) rx_str (nomark _)) (rssw_cons (rsw (rs_expr (rx_append (rv 1) (rx_tup (Rc rx_str (Rc (rv 2) (Rc (rx_callTy (id:="tuple") cx_tuple (by rfl) T.z_tuple (by decide +kernel) (Rc (rv 3) Rn)) Rn)))))))
   (rssw_cons (rsw (rs_set (i:=2) sc_build.nd rfl (by walk_at "o") rx_non))
   (rssw_one (rsw (rs_set (i:=3) sc_build.nd rfl (by walk_at "o") (rx_lst Rn)))))) (rssw_one (rsw_if (rt_cmp ox_notn (rv 2) rx_non (nomark _)) (rssw_one (rsw_append (rv 3) (rxw_callC tk c_read_instruction hr (by decide) (by rfl) (Rc (rv 4) Rn)))) (rssw_one (rsw_append (rv 1) (rxw_callC tk c_read_instruction hr (by decide) (by rfl) (Rc (rv 4) Rn)))))))))))
   (rssw_one (rsw (rs_ret (rx_callTy (id:="tuple") cx_tuple (by rfl) T.z_tuple (by decide +kernel) (Rc (rv 1) Rn)))))))))
theorem ok_is_natural {f:Addr}{fd:FuncData}(T:Txt P w K mg cl)(F:L2.Fun K "is_natural" "is_natural" s_is_natural f fd)  : FnOk P w K mg base CX0 1 f fd ["word"] (SpF K cl 1 f_is_natural):=
 fn_ok (N:=N_is_natural) F sc_is_natural rfl fun cdv A outer s H E hr=>
  (Rsc (rs_if (rt_w (rw_or (rt_not (rt_tru (rx_isascii (rv 0)))) (rw_or1 (rt_not (rt_tru (rx_isdigit (rv 0))))))) (Rso (rs_ret rx_bl)) rss_nil)
   (Rso (rs_ret (rx_or (rx_cmp (ox_eq hr.units) (rv 0) rx_str (nomark _)) (rx_one (rx_not (rx_starts (rv 0) rx_str)))))))
theorem ok_is_integer {f:Addr}{fd:FuncData}(T:Txt P w K mg cl)(F:L2.Fun K "is_integer" "is_integer" s_is_integer f fd)(c_is_natural:C8.Cal P w K mg base 1 "is_natural" (SpF K cl 1 f_is_natural) []):FnOk P w K mg base CX0 2 f fd ["word"] (SpF K cl 1 f_is_integer):=
 fn_ok (N:=N_is_integer) F sc_is_integer rfl fun cdv A outer s H E hr=>
  (Rsc (rs_if (rt_tru (rx_starts (rv 0) rx_str)) (Rso (rs_ret (rx_and (rx_cmp (ox_ne hr.units) (rv 0) rx_str (nomark _)) (rx_one (Rxc c_is_natural hr (by decide) (by rfl) (Rc (rx_sl (rv 0) (ro_some Rxi) ro_none) Rn)))))) rss_nil)
   (Rso (rs_ret (Rxc c_is_natural hr (by decide) (by rfl) (Rc (rv 0) Rn)))))
theorem ok_is_register {f:Addr}{fd:FuncData}(T:Txt P w K mg cl)(F:L2.Fun K "is_register" "is_register" s_is_register f fd)(c_is_natural:C8.Cal P w K mg base 1 "is_natural" (SpF K cl 1 f_is_natural) []):FnOk P w K mg base CX0 2 f fd ["word"] (SpF K cl 1 f_is_register):=
 fn_ok (N:=N_is_register) F sc_is_register rfl fun cdv A outer s H E hr=>
  (Rso (rs_ret (rx_and (rx_starts (rv 0) rx_str) (rx_one (Rxc c_is_natural hr (by decide) (by rfl) (Rc (rx_sl (rv 0) (ro_some Rxi) ro_none) Rn))))))
theorem ok_is_written {f:Addr}{fd:FuncData}(T:Txt P w K mg cl)(F:L2.Fun K "is_written" "is_written" s_is_written f fd)(c_is_integer:C8.Cal P w K mg base 2 "is_integer" (SpF K cl 1 f_is_integer) [])(c_is_register:C8.Cal P w K mg base 2 "is_register" (SpF K cl 1 f_is_register) []):FnOk P w K mg base CX0 3 f fd ["part","word"] (SpF K cl 2 f_is_written):=
 fn_ok (N:=N_is_written) F sc_is_written rfl fun cdv A outer s H E hr=>
  (Rsc (rs_if (rt_tru (Rxc c_is_register hr (by decide) (by rfl) (Rc (rv 1) Rn))) (Rso (rs_ret rx_bl)) rss_nil)
   (Rso (rs_ret (rx_and (rx_cmp (ox_eq hr.units) (rv 0) rx_str (nomark _)) (rx_one (Rxc c_is_integer hr (by decide) (by rfl) (Rc (rv 1) Rn)))))))
theorem ok_form_of {f:Addr}{fd:FuncData}(T:Txt P w K mg cl)(F:L2.Fun K "form_of" "form_of" s_form_of f fd)  : FnOk P w K mg base CX0 1 f fd ["word"] (SpF K cl 1 f_form_of):=
 fn_ok (N:=N_form_of) F sc_form_of rfl fun cdv A outer s H E hr=>
  (Rsc (rs_if (rt_cmp (ox_eq hr.units) (rv 0) rx_str (nomark _)) (Rso (rs_ret (rx_tup (Rc rx_str Rn)))) rss_nil)
   (Rsc (rs_if (rt_cmp (ox_eq hr.units) (rv 0) rx_str (nomark _)) (Rso (rs_ret (rx_tup Rn))) rss_nil)
   (Rso (rs_ret (rx_kgetX T.g_FORMS T.gx_FORMS (by rfl) (rv 0) m1_of)))))
theorem ok_has_form {f:Addr}{fd:FuncData}(T:Txt P w K mg cl)(F:L2.Fun K "has_form" "has_form" s_has_form f fd)(c_is_written:C8.Cal P w K mg base 3 "is_written" (SpF K cl 2 f_is_written) [])(c_form_of:C8.Cal P w K mg base 1 "form_of" (SpF K cl 1 f_form_of) []):FnOk P w K mg base CX0 4 f fd ["words"] (SpF K cl 1 f_has_form):=
 fn_ok (N:=N_has_form) F sc_has_form rfl fun cdv A outer s H E hr=>
  (Rsc (rs_set (i:=1) sc_has_form.nd rfl (by walk_at "o") (Rxc c_form_of hr (by decide) (by rfl) (Rc (rx_ix (hu_of hr) (rv 0) Rxi (fun _ _=>rfl)) Rn)))
   (Rsc (rs_if (rt_w (rw_or (rt_cmp ox_isn (rv 1) rx_non (nomark _)) (rw_or1 (rt_cmp (ox_ne hr.units) (rx_callB (id:="len") cx_len (by rfl) T.z_len (by decide +kernel) (Rc (rv 0) Rn)) (rx_bin ox_add (rx_callB (id:="len") cx_len (by rfl) T.z_len (by decide +kernel) (Rc (rv 1) Rn)) Rxi) (nomark _))))) (Rso (rs_ret rx_bl)) rss_nil)
   (Rsc (rs_for PassesOwn.never rfl (ri_zipX (by rfl) T.z_zip (Rc (rv 1) (Rc (rx_sl (rv 0) (ro_some Rxi) ro_none) Rn))) (rg_seq (n:=2) rfl (rgs_cons (rg_name (i:=2) sc_has_form.nd rfl (by walk_at "o")) (rgs_cons (rg_name (i:=3) sc_has_form.nd rfl (by walk_at "o")) rgs_nil))) (Rso (rs_if (rt_not (rt_tru (Rxc c_is_written hr (by decide) (by rfl) (Rc (rv 2) (Rc (rv 3) Rn))))) (Rso (rs_ret rx_bl)) rss_nil)))
   (Rso (rs_ret rx_bl)))))
theorem ok_may_stand {f:Addr}{fd:FuncData}(T:Txt P w K mg cl)(F:L2.Fun K "may_stand" "may_stand" s_may_stand f fd)  : FnOk P w K mg base CX0 1 f fd ["word","inside"] (SpF K cl 2 f_may_stand):=
 fn_ok (N:=N_may_stand) F sc_may_stand rfl fun cdv A outer s H E hr=>
  (Rsc (rs_if (rt_cmp (ox_eq hr.units) (rv 0) rx_str (nomark _)) (Rso (rs_ret (rx_cmp ox_isn (rv 1) rx_non (nomark _)))) rss_nil)
   (Rsc (rs_if (rt_cmp (ox_eq hr.units) (rv 0) rx_str (nomark _)) (Rso (rs_ret (rx_and (rx_cmp ox_notn (rv 1) rx_non (nomark _)) (rx_one (rx_cmp ox_gt (rv 1) Rxi (nomark _)))))) rss_nil)
   (Rso (rs_ret rx_bl))))
theorem ok_check_forms {f:Addr}{fd:FuncData}(T:Txt P w K mg cl)(F:L2.Fun K "check_forms" "check_forms" s_check_forms f fd)(c_has_form:C8.Cal P w K mg base 4 "has_form" (SpF K cl 1 f_has_form) [])(c_may_stand:C8.Cal P w K mg base 1 "may_stand" (SpF K cl 2 f_may_stand) []):FnOk P w K mg base (L2.CX P w) 5 f fd ["rows"] (SpW K cl 1 f_check_forms):=
 fn_okW (N:=N_check_forms) F sc_check_forms rfl fun cdv A outer s H E hr tk pw=>
  (rssw_cons (rsw (rs_set (i:=1) sc_check_forms.nd rfl (by walk_at "o") rx_non))
   (rssw_cons (rsw_for pw rfl (ri_enumX (by rfl) T.z_enumerate (Rc (rv 0) Rn)) (rg_seq (n:=2) rfl (rgs_cons (rg_name (i:=2) sc_check_forms.nd rfl (by walk_at "o")) (rgs_cons (rg_name (i:=3) sc_check_forms.nd rfl (by walk_at "o")) rgs_nil))) (rssw_cons (rsw (rs_if (rt_not (rt_tru (rv 3))) (Rso rs_continue) rss_nil))
   (rssw_cons (rsw_if (rt_w (rw_or (rt_not (rt_tru (Rxc c_has_form hr (by decide) (by rfl) (Rc (rv 3) Rn)))) (rw_or1 (rt_not (rt_tru (Rxc c_may_stand hr (by decide) (by rfl) (Rc (rx_ix (hu_of hr) (rv 3) Rxi (fun _ _=>rfl)) (Rc (rv 1) Rn)))))))) (rssw_one (rsw_raiseF (c:=2) rfl tk T.w2 hr (by rfl) (rv 2))) (rssw rss_nil))
   (rssw_one (rsw (rs_if (rt_cmp (ox_eq hr.units) (rx_ix (hu_of hr) (rv 3) Rxi (fun _ _=>rfl)) rx_str (nomark _)) (Rso (rs_set (i:=1) sc_check_forms.nd rfl (by walk_at "o") Rxi)) (Rso (rs_if (rt_cmp (ox_eq hr.units) (rx_ix (hu_of hr) (rv 3) Rxi (fun _ _=>rfl)) rx_str (nomark _)) (Rso (rs_set (i:=1) sc_check_forms.nd rfl (by walk_at "o") rx_non)) (Rso (rs_if (rt_cmp ox_notn (rv 1) rx_non (nomark _)) (Rso (rs_aug (i:=1) sc_check_forms.nd rfl (by walk_at "o") Rxi ip_inc)) rss_nil))))))))))
   (rssw_one (rsw_if (rt_cmp ox_notn (rv 1) rx_non (nomark _)) (rssw_one (rsw_raiseF (c:=2) rfl tk T.w2 hr (by rfl) (rx_callB (id:="len") cx_len (by rfl) T.z_len (by decide +kernel) (Rc (rv 0) Rn)))) (rssw rss_nil)))))
theorem ok_words_of {f:Addr}{fd:FuncData}(T:Txt P w K mg cl)(F:L2.Fun K "words_of" "words_of" s_words_of f fd)  : FnOk P w K mg base CX0 1 f fd ["line"] (SpF K cl 1 f_words_of):=
 fn_ok (N:=N_words_of) F sc_words_of rfl fun cdv A outer s H E hr=>
  (Rso (rs_ret (rx_lcP (own:=[("word",1)]) (g:=(pNm 1)) (pat_nm (by decide)) rfl sc_words_of.nd (ri_any (rx_split (rx_ix (hu_of hr) (rx_split (rv 0) rx_str) Rxi (fun _ _=>rfl)) rx_str)) (blkOk_by (own:=[("word",1)]) (N:=N_words_of) (sc:=defScope s_words_of) (by decide +kernel)) (fun _ _ _ _ _=>(pgn 1 sc_words_of.nd)) (fun _ _ _ _ _=>(rts_one (rt_tru (rv 1)))) (fun _ _ _ _ _=>(rv 1)))))
theorem ok_parse {f:Addr}{fd:FuncData}(T:Txt P w K mg cl)(F:L2.Fun K "parse" "parse" s_parse f fd)(c_check_sizes:CalW P w K mg base 1 "check_sizes" (SpW K cl 1 f_check_sizes))(c_build:CalW P w K mg base 4 "build" (SpW K cl 1 f_build))(c_check_forms:CalW P w K mg base 5 "check_forms" (SpW K cl 1 f_check_forms))(c_words_of:C8.Cal P w K mg base 1 "words_of" (SpF K cl 1 f_words_of) []):FnOk P w K mg base (L2.CX P w) 6 f fd ["text"] (SpW K cl 1 f_parse):=
 fn_okW (N:=N_parse) F sc_parse rfl fun cdv A outer s H E hr tk pw=>
  (rssw_cons (rsw_if (rt_cmp ox_gt (rx_callB (id:="len") cx_len (by rfl) T.z_len (by decide +kernel) (Rc (rv 0) Rn)) (rx_gint T.g_MOST_SIGNS (by rfl)) (nomark _)) (rssw_one (rsw_raiseX (c:=1) rfl tk T.x1 (by rfl))) (rssw rss_nil))
   (rssw_cons (rsw (rs_setLcP (j:=1) (own:=[("line",3)]) (g:=(pNm 3)) (pat_nm (by decide)) rfl sc_parse.nd rfl rfl (sw_true rfl rfl rfl (by decide +kernel)) (ri_any (rx_split (rv 0) rx_str)) (blkOk_by (own:=[("line",3)]) (N:=N_parse) (sc:=defScope s_parse) (by decide +kernel)) (fun _ _ _ _ _=>(pgn 3 sc_parse.nd)) (fun _ _ _ _ _=>Rtn) (fun _ _ _ _ _=>(Rxc c_words_of hr (by decide) (by rfl) (Rc (rv 3) Rn)))))
   (rssw_cons (rsw_expr (rxw_callC tk c_check_forms hr (by decide) (by rfl) (Rc (rv 1) Rn)))
   (rssw_cons (rsw_set (i:=2) sc_parse.nd rfl (by walk_at "o") (rxw_callC tk c_build hr (by decide) (by rfl) (Rc (rx_lcP (own:=[("words",4)]) (g:=(pNm 4)) (pat_nm (by decide)) rfl sc_parse.nd (ri_any (rv 1)) (blkOk_by (own:=[("words",4)]) (N:=N_parse) (sc:=defScope s_parse) (by decide +kernel)) (fun _ _ _ _ _=>(pgn 4 sc_parse.nd)) (fun _ _ _ _ _=>(rts_one (rt_tru (rv 4)))) (fun _ _ _ _ _=>(rv 4))) Rn)))
   (rssw_cons (rsw_expr (rxw_callC tk c_check_sizes hr (by decide) (by rfl) (Rc (rv 2) Rn)))
   (rssw_one (rsw (rs_ret (rv 2)))))))))
theorem ok_law_told {f:Addr}{fd:FuncData}(T:Txt P w K mg cl)(F:L2.Fun K "_law_told" "_law_told" s_law_told f fd)(c_parse:CalW P w K mg base 6 "parse" (SpW K cl 1 f_parse)):FnOk P w K mg base CX0 7 f fd ["text"] (SpF K cl 1 f_law_told):=
 fn_ok (N:=N_law_told) F sc_law_told rfl fun cdv A outer s H E hr=>
  (Rso (rs_try2 (i:=1) (c1:=2) (c2:=1) rfl rfl sc_law_told.nd rfl rfl (by first|exact Or.inl rfl|exact Or.inr (Or.inl rfl)|exact Or.inr (Or.inr rfl)) ⟨by rfl,by decide,.inl T.y2.g⟩ ⟨by rfl,by decide,.inl T.y1.g⟩ T.y2.self (PySem.W.exm_ref T.y2.su T.y2.hd T.y2.ty T.ne1_2) T.y1.self ⟨T.y2.ga,T.y2.gk,T.y2.su,T.y2.hd⟩ T.nf2 (fun E pn xe tk=>(rxw_lst (raw_cons (rxw rx_str) (raw_cons (rxw_callC tk c_parse hr (by decide) (by rfl) (Rc (rv 0) Rn)) (raw Rn))))) (fun a d oe pn hz hf=>(pd_isAnd (pd_isO (i:=1) T.y2.exc hz hf rfl (by first|exact Or.inl rfl|exact Or.inr (Or.inl rfl)|exact Or.inr (Or.inr rfl)) (by rfl) T.z_isinstance (by rfl) T.t2_TriremeError.choose_spec.1 T.t2_TriremeError.choose_spec.2) (pd_isAnd (pd_isT (T:="ValueError") (i:=1) T.y2.exc hz hf rfl (by first|exact Or.inl rfl|exact Or.inr (Or.inl rfl)|exact Or.inr (Or.inr rfl)) (by rfl) T.z_isinstance (by rfl) T.t2_ValueError.1 (by decide +kernel) T.t2_ValueError.2) (pd_isOne (pd_isNotF (pd_isO (i:=1) T.y2.exc hz hf rfl (by first|exact Or.inl rfl|exact Or.inr (Or.inl rfl)|exact Or.inr (Or.inr rfl)) (by rfl) T.z_isinstance (by rfl) T.t2_LimitError.choose_spec.1 T.t2_LimitError.choose_spec.2)))))) (fun a oe pn hz hf=>(pe_isAnd (pe_isO (i:=1) T.y1.exc hz hf rfl (by first|exact Or.inl rfl|exact Or.inr (Or.inl rfl)|exact Or.inr (Or.inr rfl)) (by rfl) T.z_isinstance (by rfl) T.t1_TriremeError.choose_spec.1 T.t1_TriremeError.choose_spec.2) (pe_isOne (pe_isNotF (pe_isO (i:=1) T.y1.exc hz hf rfl (by first|exact Or.inl rfl|exact Or.inr (Or.inl rfl)|exact Or.inr (Or.inr rfl)) (by rfl) T.z_isinstance (by rfl) T.t1_ParseError.choose_spec.1 T.t1_ParseError.choose_spec.2)))))))
theorem okr_law_large {f:Addr}{fd:FuncData}(T:Txt P w K mg cl)(F:L2.Fun K "_law_large" "_law_large" s_law_large f fd)(hm:mg "_law_large"=some (.ref f))(bi:Binds K fd ["value"] [])  : ∀n:Nat,FnOk P w K mg base CX0 (1+n) f fd ["value"] (SpF K cl 1 (f_law_large_ n))
 | 0=>⟨fun vs H Q E h=>(by obtain⟨_,_,_,_,_,_,_,h,_⟩:=h;cases h),fun A outer s H args us vs Q E _ _ _ _ h=>(by obtain⟨_,_,_,_,_,_,_,h,_⟩:=h;cases h)⟩
 | n+1=>fn_ok (N:=N_law_large) F sc_law_large rfl fun cdv A outer s H E hr=>
  have c_law_large:C8.Cal P w K mg base (1+n) "_law_large" (SpF K cl 1 (f_law_large_ n)) []:=cal_of (okr_law_large T F hm bi  n) hm F.kp bi
  have lee:1+n≤1+n:=znr _
  (Rsc (rs_if (rt_w (rw_and (rt_tru (rx_isinst (T:="tuple") (by rfl) T.z_isinstance (by rfl) T.z_tuple (by decide +kernel) (rv 0))) (rw_and (rt_cmp (ox_eq hr.units) (rx_callB (id:="len") cx_len (by rfl) T.z_len (by decide +kernel) (Rc (rv 0) Rn)) Rxi (nomark _)) (rw_and1 (rt_cmp (ox_eq hr.units) (rx_ix (hu_of hr) (rv 0) Rxi (fun _ _=>rfl)) rx_str (nomark _)))))) (Rso (rs_ret (rx_cmp ox_gt (rx_ix (hu_of hr) (rv 0) Rxi (fun _ _=>rfl)) Rxi (nomark _)))) rss_nil)
   (Rsc (rs_if (rt_w (rw_and (rt_tru (rx_isinst (T:="tuple") (by rfl) T.z_isinstance (by rfl) T.z_tuple (by decide +kernel) (rv 0))) (rw_and (rt_cmp (ox_eq hr.units) (rx_callB (id:="len") cx_len (by rfl) T.z_len (by decide +kernel) (Rc (rv 0) Rn)) Rxi (nomark _)) (rw_and1 (rt_cmp (ox_eq hr.units) (rx_ix (hu_of hr) (rv 0) Rxi (fun _ _=>rfl)) rx_str (nomark _)))))) (Rso (rs_ret (rx_or (rx_cmp ox_lt (rx_ix (hu_of hr) (rv 0) Rxi (fun _ _=>rfl)) (rx_bin ox_sub Rxi Rxi) (nomark _)) (rx_one (rx_cmp ox_gt (rx_ix (hu_of hr) (rv 0) Rxi (fun _ _=>rfl)) Rxi (nomark _)))))) rss_nil)
   (Rsc (rs_if (rt_tru (rx_isinst (T:="tuple") (by rfl) T.z_isinstance (by rfl) T.z_tuple (by decide +kernel) (rv 0))) (Rsc (rs_set (i:=1) sc_law_large.nd rfl (by walk_at "o") (rx_and (rx_cmp ox_gt (rx_callB (id:="len") cx_len (by rfl) T.z_len (by decide +kernel) (Rc (rv 0) Rn)) Rxi (nomark _)) (rx_and (rx_isinst (T:="str") (by rfl) T.z_isinstance (by rfl) T.z_str (by decide +kernel) (rx_ix (hu_of hr) (rv 0) Rxi (fun _ _=>rfl))) (rx_and (rx_isinst (T:="int") (by rfl) T.z_isinstance (by rfl) T.z_int (by decide +kernel) (rx_ix (hu_of hr) (rv 0) Rxi (fun _ _=>rfl))) (rx_one (rx_cmp ox_gt (rx_ix (hu_of hr) (rv 0) Rxi (fun _ _=>rfl)) Rxi (nomark _)))))))
   (Rso (rs_ret (rx_or (rv 1) (rx_one (rx_callB (id:="any") (cx_any rfl) (by rfl) T.z_any (by decide +kernel) (Rc (rx_lcP (own:=[("part",2)]) (g:=(pNm 2)) (pat_nm (by decide)) rfl sc_law_large.nd (ri_any (rv 0)) (blkOk_by (own:=[("part",2)]) (N:=N_law_large) (sc:=defScope s_law_large) (by decide +kernel)) (fun _ _ _ _ _=>(pgn 2 sc_law_large.nd)) (fun _ _ _ _ _=>Rtn) (fun _ _ _ _ _=>(Rxc c_law_large hr lee (by rfl) (Rc (rv 2) Rn)))) Rn))))))) rss_nil)
   (Rso (rs_ret rx_bl)))))
theorem ok_law_digits {f:Addr}{fd:FuncData}(T:Txt P w K mg cl)(F:L2.Fun K "_law_digits" "_law_digits" s_law_digits f fd)  : FnOk P w K mg base CX0 1 f fd ["word"] (SpF K cl 1 f_law_digits):=
 fn_ok (N:=N_law_digits) F sc_law_digits rfl fun cdv A outer s H E hr=>
  (Rso (rs_ret (rx_and (rx_cmp (ox_ne hr.units) (rv 0) rx_str (nomark _)) (rx_and (rx_callB (id:="all") (cx_all rfl) (by rfl) T.z_all (by decide +kernel) (Rc (rx_lcP (own:=[("x",1)]) (g:=(pNm 1)) (pat_nm (by decide)) rfl sc_law_digits.nd (ri_any (rv 0)) (blkOk_by (own:=[("x",1)]) (N:=N_law_digits) (sc:=defScope s_law_digits) (by decide +kernel)) (fun _ _ _ _ _=>(pgn 1 sc_law_digits.nd)) (fun _ _ _ _ _=>Rtn) (fun _ _ _ _ _=>(rx_cmp ox_in (rv 1) rx_str (by rfl)))) Rn)) (rx_one (rx_or (rx_cmp (ox_eq hr.units) (rv 0) rx_str (nomark _)) (rx_one (rx_cmp (ox_ne hr.units) (rx_ix (hu_of hr) (rv 0) Rxi (fun _ _=>rfl)) rx_str (nomark _)))))))))
theorem ok_law_register {f:Addr}{fd:FuncData}(T:Txt P w K mg cl)(F:L2.Fun K "_law_register" "_law_register" s_law_register f fd)(c_law_digits:C8.Cal P w K mg base 1 "_law_digits" (SpF K cl 1 f_law_digits) []):FnOk P w K mg base CX0 2 f fd ["word"] (SpF K cl 1 f_law_register):=
 fn_ok (N:=N_law_register) F sc_law_register rfl fun cdv A outer s H E hr=>
  (Rsc (rs_if (rt_w (rw_and (rt_cmp (ox_eq hr.units) (rx_sl (rv 0) ro_none (ro_some Rxi)) rx_str (nomark _)) (rw_and1 (rt_tru (Rxc c_law_digits hr (by decide) (by rfl) (Rc (rx_sl (rv 0) (ro_some Rxi) ro_none) Rn)))))) (Rso (rs_ret (rx_callTy (id:="int") cx_int (by rfl) T.z_int (by decide +kernel) (Rc (rx_sl (rv 0) (ro_some Rxi) ro_none) Rn)))) rss_nil)
   (Rso (rs_ret rx_non)))
theorem ok_law_read_operand {f:Addr}{fd:FuncData}(T:Txt P w K mg cl)(F:L2.Fun K "_law_read_operand" "_law_read_operand" s_law_read_operand f fd)(c_law_digits:C8.Cal P w K mg base 1 "_law_digits" (SpF K cl 1 f_law_digits) [])(c_law_register:C8.Cal P w K mg base 2 "_law_register" (SpF K cl 1 f_law_register) []):FnOk P w K mg base CX0 3 f fd ["word"] (SpF K cl 1 f_law_read_operand):=
 fn_ok (N:=N_law_read_operand) F sc_law_read_operand rfl fun cdv A outer s H E hr=>
  (Rsc (rs_if (rt_cmp ox_notn (Rxc c_law_register hr (by decide) (by rfl) (Rc (rv 0) Rn)) rx_non (nomark _)) (Rso (rs_ret (rx_tup (Rc rx_str (Rc (Rxc c_law_register hr (by decide) (by rfl) (Rc (rv 0) Rn)) Rn))))) rss_nil)
   (Rsc (rs_if (rt_w (rw_and (rt_cmp (ox_eq hr.units) (rx_sl (rv 0) ro_none (ro_some Rxi)) rx_str (nomark _)) (rw_and (rt_tru (Rxc c_law_digits hr (by decide) (by rfl) (Rc (rx_sl (rv 0) (ro_some Rxi) ro_none) Rn))) (rw_and1 (rt_cmp (ox_ne hr.units) (rv 0) rx_str (nomark _)))))) (Rso (rs_ret (rx_tup (Rc rx_str (Rc (rx_bin ox_sub Rxi (rx_callTy (id:="int") cx_int (by rfl) T.z_int (by decide +kernel) (Rc (rx_sl (rv 0) (ro_some Rxi) ro_none) Rn))) Rn))))) rss_nil)
   (Rsc (rs_if (rt_tru (Rxc c_law_digits hr (by decide) (by rfl) (Rc (rv 0) Rn))) (Rso (rs_ret (rx_tup (Rc rx_str (Rc (rx_callTy (id:="int") cx_int (by rfl) T.z_int (by decide +kernel) (Rc (rv 0) Rn)) Rn))))) rss_nil)
   (Rso (rs_ret rx_non)))))
theorem ok_law_kinds {f:Addr}{fd:FuncData}(T:Txt P w K mg cl)(F:L2.Fun K "_law_kinds" "_law_kinds" s_law_kinds f fd)  : FnOk P w K mg base CX0 1 f fd [] (SpF K cl 0 f_law_kinds):=
 fn_ok (N:=N_law_kinds) F sc_law_kinds rfl fun cdv A outer s H E hr=>
  (Rso (rs_ret (rx_lst (Rc rx_str (Rc rx_str (Rc rx_str (Rc rx_str (Rc rx_str (Rc rx_str (Rc rx_str (Rc rx_str Rn)))))))))))
theorem ok_law_read_line {f:Addr}{fd:FuncData}(T:Txt P w K mg cl)(F:L2.Fun K "_law_read_line" "_law_read_line" s_law_read_line f fd)(c_law_register:C8.Cal P w K mg base 2 "_law_register" (SpF K cl 1 f_law_register) [])(c_law_read_operand:C8.Cal P w K mg base 3 "_law_read_operand" (SpF K cl 1 f_law_read_operand) [])(c_law_kinds:C8.Cal P w K mg base 1 "_law_kinds" (SpF K cl 0 f_law_kinds) []):FnOk P w K mg base CX0 4 f fd ["words"] (SpF K cl 1 f_law_read_line):=
 fn_ok (N:=N_law_read_line) F sc_law_read_line rfl fun cdv A outer s H E hr=>
  (Rsc (rs_set (i:=1) sc_law_read_line.nd rfl (by walk_at "o") (rx_ix (hu_of hr) (rv 0) Rxi (fun _ _=>rfl)))
   (Rsc (rs_if (rt_cmp (ox_ninT hr.u65) (rv 1) (rx_call0 c_law_kinds hr (by first|decide|omega) (by rfl)) (by rfl)) (Rso (rs_ret rx_non)) rss_nil)
   (Rsc (rs_set (i:=2) sc_law_read_line.nd rfl (by walk_at "o") rx_str)
   (Rsc (rs_if (rt_cmp ox_in (rv 1) (rx_lst (Rc rx_str (Rc rx_str (Rc rx_str Rn)))) (by rfl)) (Rso (rs_set (i:=2) sc_law_read_line.nd rfl (by walk_at "o") (rx_ix (hu_of hr) (rx_lst (Rc (rx_ix (hu_of hr) (rx_lst (Rc rx_str (Rc rx_str Rn))) (rx_callTy (id:="int") cx_int (by rfl) T.z_int (by decide +kernel) (Rc (rx_cmp (ox_eq hr.units) (rv 1) rx_str (nomark _)) Rn)) (fun _ _=>rfl)) (Rc rx_str Rn))) (rx_callTy (id:="int") cx_int (by rfl) T.z_int (by decide +kernel) (Rc (rx_cmp (ox_eq hr.units) (rv 1) rx_str (nomark _)) Rn)) (fun _ _=>rfl)))) rss_nil)
   (Rsc (rs_if (rt_cmp (ox_ne hr.units) (rx_callB (id:="len") cx_len (by rfl) T.z_len (by decide +kernel) (Rc (rv 0) Rn)) (rx_bin ox_add (rx_callB (id:="len") cx_len (by rfl) T.z_len (by decide +kernel) (Rc (rv 2) Rn)) Rxi) (nomark _)) (Rso (rs_ret rx_non)) rss_nil)
   (Rsc (rs_set (i:=3) sc_law_read_line.nd rfl (by walk_at "o") (rx_lst (Rc (rv 1) Rn)))
   (Rsc (rs_for PassesOwn.never rfl (ri_range1 (by rfl) T.z_range (rx_callB (id:="len") cx_len (by rfl) T.z_len (by decide +kernel) (Rc (rv 2) Rn))) (rg_name (i:=4) sc_law_read_line.nd rfl (by walk_at "o")) (Rso (rs_if (rt_cmp (ox_eq hr.units) (rx_ix (hu_of hr) (rv 2) (rv 4) (fun _ _=>rfl)) rx_str (nomark _)) (Rso (rs_expr (rx_append (rv 3) (Rxc c_law_register hr (by decide) (by rfl) (Rc (rx_ix (hu_of hr) (rv 0) (rx_bin ox_add (rv 4) Rxi) (fun _ _=>rfl)) Rn))))) (Rso (rs_expr (rx_append (rv 3) (Rxc c_law_read_operand hr (by decide) (by rfl) (Rc (rx_ix (hu_of hr) (rv 0) (rx_bin ox_add (rv 4) Rxi) (fun _ _=>rfl)) Rn))))))))
   (Rsc (rs_if (rt_cmp (ox_inT hr.u65) rx_non (rv 3) (by rfl)) (Rso (rs_ret rx_non)) rss_nil)
   (Rso (rs_ret (rx_callTy (id:="tuple") cx_tuple (by rfl) T.z_tuple (by decide +kernel) (Rc (rv 3) Rn))))))))))))
theorem ok_law_read {f:Addr}{fd:FuncData}(T:Txt P w K mg cl)(F:L2.Fun K "_law_read" "_law_read" s_law_read f fd)(c_law_read_operand:C8.Cal P w K mg base 3 "_law_read_operand" (SpF K cl 1 f_law_read_operand) [])(c_law_read_line:C8.Cal P w K mg base 4 "_law_read_line" (SpF K cl 1 f_law_read_line) []):FnOk P w K mg base CX0 5 f fd ["lines"] (SpF K cl 1 f_law_read):=
 fn_ok (N:=N_law_read) F sc_law_read rfl fun cdv A outer s H E hr=>
  (Rsc (rs_set (i:=1) sc_law_read.nd rfl (by walk_at "o") (rx_lst Rn))
   (Rsc (rs_set (i:=2) sc_law_read.nd rfl (by walk_at "o") rx_non)
   (Rsc (rs_set (i:=3) sc_law_read.nd rfl (by walk_at "o") (rx_lst Rn))
   (Rsc (rs_for PassesOwn.never rfl (ri_range1 (by rfl) T.z_range (rx_callB (id:="len") cx_len (by rfl) T.z_len (by decide +kernel) (Rc (rv 0) Rn))) (rg_name (i:=4) sc_law_read.nd rfl (by walk_at "o")) (Rsc (rs_setLcP (j:=5) (own:=[("word",6)]) (g:=(pNm 6)) (pat_nm (by decide)) rfl sc_law_read.nd rfl rfl (sw_true rfl rfl rfl (by decide +kernel)) (ri_any (rx_split (rx_ix (hu_of hr) (rx_split (rx_ix (hu_of hr) (rv 0) (rv 4) (fun _ _=>rfl)) rx_str) Rxi (fun _ _=>rfl)) rx_str)) (blkOk_by (own:=[("word",6)]) (N:=N_law_read) (sc:=defScope s_law_read) (by decide +kernel)) (fun _ _ _ _ _=>(pgn 6 sc_law_read.nd)) (fun _ _ _ _ _=>(rts_one (rt_cmp (ox_ne hr.units) (rv 6) rx_str (nomark _)))) (fun _ _ _ _ _=>(rv 6)))
   (Rsc (rs_if (rt_not (rt_tru (rv 5))) (Rso rs_continue) rss_nil)
   (Rso (rs_if (rt_cmp (ox_eq hr.units) (rx_ix (hu_of hr) (rv 5) Rxi (fun _ _=>rfl)) rx_str (nomark _)) (Rsc (rs_if (rt_w (rw_or (rt_cmp ox_notn (rv 2) rx_non (nomark _)) (rw_or (rt_cmp (ox_ne hr.units) (rx_callB (id:="len") cx_len (by rfl) T.z_len (by decide +kernel) (Rc (rv 5) Rn)) Rxi (nomark _)) (rw_or1 (rt_cmp ox_isn (Rxc c_law_read_operand hr (by decide) (by rfl) (Rc (rx_ix (hu_of hr) (rv 5) Rxi (fun _ _=>rfl)) Rn)) rx_non (nomark _)))))) (Rso (rs_ret (rx_lst (Rc rx_str (Rc (rv 4) Rn))))) rss_nil)
   (Rsc (rs_set (i:=2) sc_law_read.nd rfl (by walk_at "o") (Rxc c_law_read_operand hr (by decide) (by rfl) (Rc (rx_ix (hu_of hr) (rv 5) Rxi (fun _ _=>rfl)) Rn)))
   (Rso (rs_set (i:=3) sc_law_read.nd rfl (by walk_at "o") (rx_lst Rn))))) (Rso (rs_if (rt_cmp (ox_eq hr.units) (rv 5) (rx_lst (Rc rx_str Rn)) (nomark _)) (Rsc (rs_if (rt_w (rw_or (rt_cmp ox_isn (rv 2) rx_non (nomark _)) (rw_or1 (rt_not (rt_tru (rv 3)))))) (Rso (rs_ret (rx_lst (Rc rx_str (Rc (rv 4) Rn))))) rss_nil)
   (Rsc (rs_expr (rx_append (rv 1) (rx_tup (Rc rx_str (Rc (rv 2) (Rc (rx_callTy (id:="tuple") cx_tuple (by rfl) T.z_tuple (by decide +kernel) (Rc (rv 3) Rn)) Rn))))))
   (Rso (rs_set (i:=2) sc_law_read.nd rfl (by walk_at "o") rx_non)))) (Rsc (rs_set (i:=7) sc_law_read.nd rfl (by walk_at "o") (Rxc c_law_read_line hr (by decide) (by rfl) (Rc (rv 5) Rn)))
   (Rsc (rs_if (rt_cmp ox_isn (rv 7) rx_non (nomark _)) (Rso (rs_ret (rx_lst (Rc rx_str (Rc (rv 4) Rn))))) rss_nil)
   (Rso (rs_if (rt_cmp ox_isn (rv 2) rx_non (nomark _)) (Rso (rs_expr (rx_append (rv 1) (rv 7)))) (Rso (rs_expr (rx_append (rv 3) (rv 7)))))))))))))))
   (Rsc (rs_if (rt_cmp ox_notn (rv 2) rx_non (nomark _)) (Rso (rs_ret (rx_lst (Rc rx_str (Rc (rx_callB (id:="len") cx_len (by rfl) T.z_len (by decide +kernel) (Rc (rv 0) Rn)) Rn))))) rss_nil)
   (Rso (rs_ret (rx_lst (Rc rx_str (Rc (rx_callTy (id:="tuple") cx_tuple (by rfl) T.z_tuple (by decide +kernel) (Rc (rv 1) Rn)) Rn))))))))))
theorem ok_law_due {f:Addr}{fd:FuncData}(T:Txt P w K mg cl)(F:L2.Fun K "_law_due" "_law_due" s_law_due f fd)(c_law_large:C8.Cal P w K mg base 21 "_law_large" (SpF K cl 1 f_law_large) [])(c_law_read:C8.Cal P w K mg base 5 "_law_read" (SpF K cl 1 f_law_read) []):FnOk P w K mg base CX0 22 f fd ["text"] (SpF K cl 1 f_law_due):=
 fn_ok (N:=N_law_due) F sc_law_due rfl fun cdv A outer s H E hr=>
  (Rsc (rs_set (i:=1) sc_law_due.nd rfl (by walk_at "o") (rx_split (rv 0) rx_str))
   (Rsc (rs_if (rt_cmp ox_gt (rx_callB (id:="len") cx_len (by rfl) T.z_len (by decide +kernel) (Rc (rv 0) Rn)) Rxi (nomark _)) (Rso (rs_ret (rx_lst (Rc rx_str (Rc rx_bl Rn))))) rss_nil)
   (Rsc (rs_set (i:=2) sc_law_due.nd rfl (by walk_at "o") (Rxc c_law_read hr (by decide) (by rfl) (Rc (rv 1) Rn)))
   (Rsc (rs_if (rt_cmp (ox_eq hr.units) (rx_ix (hu_of hr) (rv 2) Rxi (fun _ _=>rfl)) rx_str (nomark _)) (Rso (rs_ret (rx_bin ox_add (rv 2) (rx_lst (Rc rx_bl Rn))))) rss_nil)
   (Rsc (rs_if (rt_w (rw_or (rt_tru (Rxc c_law_large hr (by decide) (by rfl) (Rc (rx_ix (hu_of hr) (rv 2) Rxi (fun _ _=>rfl)) Rn))) (rw_or (rt_cmp ox_gt (rx_callB (id:="len") cx_len (by rfl) T.z_len (by decide +kernel) (Rc (rx_ix (hu_of hr) (rv 2) Rxi (fun _ _=>rfl)) Rn)) Rxi (nomark _)) (rw_or1 (rt_tru (rx_callB (id:="any") (cx_any rfl) (by rfl) T.z_any (by decide +kernel) (Rc (rx_lcP (own:=[("one",3)]) (g:=(pNm 3)) (pat_nm (by decide)) rfl sc_law_due.nd (ri_any (rx_ix (hu_of hr) (rv 2) Rxi (fun _ _=>rfl))) (blkOk_by (own:=[("one",3)]) (N:=N_law_due) (sc:=defScope s_law_due) (by decide +kernel)) (fun _ _ _ _ _=>(pgn 3 sc_law_due.nd)) (fun _ _ _ _ _=>Rtn) (fun _ _ _ _ _=>(rx_and (rx_cmp (ox_eq hr.units) (rx_ix (hu_of hr) (rv 3) Rxi (fun _ _=>rfl)) rx_str (nomark _)) (rx_one (rx_cmp ox_gt (rx_callB (id:="len") cx_len (by rfl) T.z_len (by decide +kernel) (Rc (rx_ix (hu_of hr) (rv 3) Rxi (fun _ _=>rfl)) Rn)) Rxi (nomark _)))))) Rn))))))) (Rso (rs_ret (rx_lst (Rc rx_str (Rc rx_bl Rn))))) rss_nil)
   (Rso (rs_ret (rv 2))))))))
theorem ok_law_fill {f:Addr}{fd:FuncData}(T:Txt P w K mg cl)(F:L2.Fun K "_law_fill" "_law_fill" s_law_fill f fd)  : FnOk P w K mg base CX0 1 f fd ["c"] (SpF K cl 1 f_law_fill):=
 fn_ok (N:=N_law_fill) F sc_law_fill rfl fun cdv A outer s H E hr=>
  (Rsc (rs_asg (rx_bin ox_add (rx_ix (hu_of hr) (rv 0) Rxi (fun _ _=>rfl)) Rxi) (rg_ix (hu_of hr) (rv 0) Rxi))
   (Rsc (rs_set (i:=1) sc_law_fill.nd rfl (by walk_at "o") (rx_bin ox_add (rx_bin ox_mul (rx_ix (hu_of hr) (rv 0) Rxi (fun _ _=>rfl)) Rxi) Rxi))
   (Rsc (rs_if (rt_cmp ox_lt (rx_ix (hu_of hr) (rv 0) Rxi (fun _ _=>rfl)) (rx_callB (id:="len") cx_len (by rfl) T.z_len (by decide +kernel) (Rc (rx_ix (hu_of hr) (rv 0) Rxi (fun _ _=>rfl)) Rn)) (nomark _)) (Rsc (rs_set (i:=1) sc_law_fill.nd rfl (by walk_at "o") (rx_ix (hu_of hr) (rx_ix (hu_of hr) (rv 0) Rxi (fun _ _=>rfl)) (rx_ix (hu_of hr) (rv 0) Rxi (fun _ _=>rfl)) (fun _ _=>rfl)))
   (Rsc (rs_asg (rx_bin ox_add (rx_ix (hu_of hr) (rv 0) Rxi (fun _ _=>rfl)) Rxi) (rg_ix (hu_of hr) (rv 0) Rxi))
   (Rsc (rs_if (rt_cmp ox_lt (rv 1) Rxi (nomark _)) (Rso (rs_set (i:=1) sc_law_fill.nd rfl (by walk_at "o") (rx_bin ox_sub (rx_bin ox_sub Rxi Rxi) (rv 1)))) rss_nil)
   (Rso (rs_if (rt_cmp ox_ge (rv 1) (rx_bin ox_pow Rxi Rxi) (nomark _)) (Rso (rs_ret (rv 1))) rss_nil))))) rss_nil)
   (Rsc (rs_if (rt_w (rw_and (rt_tru (rx_ix (hu_of hr) (rv 0) Rxi (fun _ _=>rfl))) (rw_and1 (rt_cmp ox_ge (rx_ix (hu_of hr) (rv 0) Rxi (fun _ _=>rfl)) (rx_callB (id:="len") cx_len (by rfl) T.z_len (by decide +kernel) (Rc (rx_ix (hu_of hr) (rv 0) Rxi (fun _ _=>rfl)) Rn)) (nomark _))))) (Rso (rs_set (i:=1) sc_law_fill.nd rfl (by walk_at "o") (rx_bin ox_add (rv 1) (rx_bin ox_mod (rx_callTy (id:="int") cx_int (by rfl) T.z_int (by decide +kernel) (Rc (rx_ix (hu_of hr) (rx_ix (hu_of hr) (rv 0) Rxi (fun _ _=>rfl)) (rx_un ox_neg Rxi) (fun _ _=>rfl)) Rn)) Rxi)))) rss_nil)
   (Rsc (rs_set (i:=1) sc_law_fill.nd rfl (by walk_at "o") (rx_bin ox_mod (rx_callTy (id:="int") cx_int (by rfl) T.z_int (by decide +kernel) (Rc (rx_bin ox_add (rx_bin ox_mul (rv 1) Rxi) (rx_bin ox_mul (rx_ix (hu_of hr) (rv 0) Rxi (fun _ _=>rfl)) Rxi)) Rn)) Rxi))
   (Rso (rs_ret (rx_bin ox_add (rx_bin ox_mod (rx_callTy (id:="int") cx_int (by rfl) T.z_int (by decide +kernel) (Rc (rx_bin ox_add (rx_bin ox_add (rx_bin ox_mul (rv 1) (rv 1)) (rx_bin ox_mul (rx_ix (hu_of hr) (rv 0) Rxi (fun _ _=>rfl)) Rxi)) Rxi) Rn)) Rxi) Rxi))))))))
theorem ok_law_take {f:Addr}{fd:FuncData}(T:Txt P w K mg cl)(F:L2.Fun K "_law_take" "_law_take" s_law_take f fd)(c_law_fill:C8.Cal P w K mg base 1 "_law_fill" (SpF K cl 1 f_law_fill) []):FnOk P w K mg base CX0 2 f fd ["c","many"] (SpF K cl 2 f_law_take):=
 fn_ok (N:=N_law_take) F sc_law_take rfl fun cdv A outer s H E hr=>
  (Rsc (rs_if (rt_cmp ox_lt (rx_ix (hu_of hr) (rv 0) Rxi (fun _ _=>rfl)) (rv 1) (nomark _)) (Rso (rs_asg (Rxc c_law_fill hr (by decide) (by rfl) (Rc (rv 0) Rn)) (rg_ix (hu_of hr) (rv 0) Rxi))) rss_nil)
   (Rsc (rs_set (i:=2) sc_law_take.nd rfl (by walk_at "o") (rx_bin ox_mod (rx_callTy (id:="int") cx_int (by rfl) T.z_int (by decide +kernel) (Rc (rx_ix (hu_of hr) (rv 0) Rxi (fun _ _=>rfl)) Rn)) (rv 1)))
   (Rsc (rs_asg (rx_bin ox_div (rx_ix (hu_of hr) (rv 0) Rxi (fun _ _=>rfl)) (rv 1)) (rg_ix (hu_of hr) (rv 0) Rxi))
   (Rso (rs_ret (rv 2))))))
theorem ok_law_spoilt_lines {f:Addr}{fd:FuncData}(T:Txt P w K mg cl)(F:L2.Fun K "_law_spoilt_lines" "_law_spoilt_lines" s_law_spoilt_lines f fd)(c_law_take:C8.Cal P w K mg base 2 "_law_take" (SpF K cl 2 f_law_take) []):FnOk P w K mg base CX0 3 f fd ["c","lines"] (SpF K cl 2 f_law_spoilt_lines):=
 fn_ok (N:=N_law_spoilt_lines) F sc_law_spoilt_lines rfl fun cdv A outer s H E hr=>
  (Rsc (rs_set (i:=2) sc_law_spoilt_lines.nd rfl (by walk_at "o") (Rxc c_law_take hr (by decide) (by rfl) (Rc (rv 0) (Rc (rx_bin ox_add (rx_callB (id:="len") cx_len (by rfl) T.z_len (by decide +kernel) (Rc (rv 1) Rn)) Rxi) Rn))))
   (Rsc (rs_set (i:=3) sc_law_spoilt_lines.nd rfl (by walk_at "o") (rx_lst (Rc rx_str (Rc rx_str (Rc rx_str (Rc rx_str (Rc rx_str (Rc rx_str (Rc rx_str (Rc rx_str (Rc rx_str (Rc rx_str (Rc rx_str (Rc rx_str (Rc rx_str Rn)))))))))))))))
   (Rsc (rs_set (i:=3) sc_law_spoilt_lines.nd rfl (by walk_at "o") (rx_bin ox_add (rv 3) (rx_lst (Rc rx_str (Rc rx_str (Rc rx_str (Rc rx_str (Rc rx_str (Rc rx_str (Rc rx_str (Rc rx_str (Rc rx_str (Rc rx_str Rn)))))))))))))
   (Rsc (rs_set (i:=3) sc_law_spoilt_lines.nd rfl (by walk_at "o") (rx_bin ox_add (rv 3) (rx_lst (Rc rx_str (Rc rx_str (Rc rx_str (Rc rx_str (Rc rx_str (Rc rx_str (Rc rx_str (Rc rx_str Rn)))))))))))
   (Rsc (rs_set (i:=4) sc_law_spoilt_lines.nd rfl (by walk_at "o") (rx_lst (Rc rx_str (Rc rx_str (Rc rx_str (Rc rx_str (Rc rx_str (Rc rx_str (Rc rx_str (Rc rx_str (Rc rx_str (Rc rx_str (Rc rx_str (Rc rx_str Rn))))))))))))))
   (Rsc (rs_set (i:=4) sc_law_spoilt_lines.nd rfl (by walk_at "o") (rx_bin ox_add (rv 4) (rx_lst (Rc rx_str (Rc rx_str (Rc rx_str (Rc rx_str (Rc rx_str (Rc rx_str (Rc rx_str (Rc rx_str (Rc rx_str (Rc rx_str (Rc rx_str (Rc rx_str (Rc rx_str (Rc rx_str (Rc rx_str (Rc rx_str Rn)))))))))))))))))))
   (Rsc (rs_set (i:=5) sc_law_spoilt_lines.nd rfl (by walk_at "o") (Rxc c_law_take hr (by decide) (by rfl) (Rc (rv 0) (Rc Rxi Rn))))
   (Rsc (rs_if (rt_w (rw_or (rt_cmp (ox_eq hr.units) (rv 5) Rxi (nomark _)) (rw_or1 (rt_not (rt_tru (rv 1)))))) (Rso (rs_ret (rx_bin ox_add (rx_bin ox_add (rx_sl (rv 1) ro_none (ro_some (rv 2))) (rx_lst (Rc (rx_ix (hu_of hr) (rv 3) (Rxc c_law_take hr (by decide) (by rfl) (Rc (rv 0) (Rc (rx_callB (id:="len") cx_len (by rfl) T.z_len (by decide +kernel) (Rc (rv 3) Rn)) Rn))) (fun _ _=>rfl)) Rn))) (rx_sl (rv 1) (ro_some (rv 2)) ro_none)))) rss_nil)
   (Rsc (rs_set (i:=2) sc_law_spoilt_lines.nd rfl (by walk_at "o") (rx_callB (id:="min") (cx_min rfl) (by rfl) T.z_min (by decide +kernel) (Rc (rv 2) (Rc (rx_bin ox_sub (rx_callB (id:="len") cx_len (by rfl) T.z_len (by decide +kernel) (Rc (rv 1) Rn)) Rxi) Rn))))
   (Rsc (rs_if (rt_cmp (ox_eq hr.units) (rv 5) Rxi (nomark _)) (Rso (rs_ret (rx_bin ox_add (rx_sl (rv 1) ro_none (ro_some (rv 2))) (rx_sl (rv 1) (ro_some (rx_bin ox_add (rv 2) Rxi)) ro_none)))) rss_nil)
   (Rsc (rs_if (rt_cmp (ox_eq hr.units) (rv 5) Rxi (nomark _)) (Rso (rs_ret (rx_bin ox_add (rx_bin ox_add (rx_sl (rv 1) ro_none (ro_some (rv 2))) (rx_sl (rv 1) (ro_some (rv 2)) (ro_some (rx_bin ox_add (rv 2) Rxi)))) (rx_sl (rv 1) (ro_some (rv 2)) ro_none)))) rss_nil)
   (Rsc (rs_set (i:=6) sc_law_spoilt_lines.nd rfl (by walk_at "o") (rx_bin ox_add (rx_lcP (own:=[("word",8)]) (g:=(pNm 8)) (pat_nm (by decide)) rfl sc_law_spoilt_lines.nd (ri_any (rx_split (rx_ix (hu_of hr) (rv 1) (rv 2) (fun _ _=>rfl)) rx_str)) (blkOk_by (own:=[("word",8)]) (N:=N_law_spoilt_lines) (sc:=defScope s_law_spoilt_lines) (by decide +kernel)) (fun _ _ _ _ _=>(pgn 8 sc_law_spoilt_lines.nd)) (fun _ _ _ _ _=>(rts_one (rt_cmp (ox_ne hr.units) (rv 8) rx_str (nomark _)))) (fun _ _ _ _ _=>(rv 8))) (rx_lst (Rc rx_str Rn))))
   (Rsc (rs_set (i:=7) sc_law_spoilt_lines.nd rfl (by walk_at "o") (Rxc c_law_take hr (by decide) (by rfl) (Rc (rv 0) (Rc (rx_callB (id:="len") cx_len (by rfl) T.z_len (by decide +kernel) (Rc (rv 6) Rn)) Rn))))
   (Rsc (rs_asg (rx_ix (hu_of hr) (rv 4) (Rxc c_law_take hr (by decide) (by rfl) (Rc (rv 0) (Rc (rx_callB (id:="len") cx_len (by rfl) T.z_len (by decide +kernel) (Rc (rv 4) Rn)) Rn))) (fun _ _=>rfl)) (rg_ix (hu_of hr) (rv 6) (rv 7)))
   (Rsc (rs_if (rt_cmp (ox_eq hr.units) (rv 5) Rxi (nomark _)) (Rso (rs_set (i:=6) sc_law_spoilt_lines.nd rfl (by walk_at "o") (rx_bin ox_add (rx_sl (rv 6) ro_none (ro_some (rv 7))) (rx_sl (rv 6) (ro_some (rx_bin ox_add (rv 7) Rxi)) ro_none)))) rss_nil)
   (Rso (rs_ret (rx_bin ox_add (rx_bin ox_add (rx_sl (rv 1) ro_none (ro_some (rv 2))) (rx_lst (Rc (rx_join rx_str (rv 6)) Rn))) (rx_sl (rv 1) (ro_some (rx_bin ox_add (rv 2) Rxi)) ro_none)))))))))))))))))))
theorem ok_law_integer {f:Addr}{fd:FuncData}(T:Txt P w K mg cl)(F:L2.Fun K "_law_integer" "_law_integer" s_law_integer f fd)(c_law_take:C8.Cal P w K mg base 2 "_law_take" (SpF K cl 2 f_law_take) []):FnOk P w K mg base CX0 3 f fd ["c"] (SpF K cl 1 f_law_integer):=
 fn_ok (N:=N_law_integer) F sc_law_integer rfl fun cdv A outer s H E hr=>
  (Rso (rs_ret (rx_ix (hu_of hr) (rx_lst (Rc (rx_bin ox_sub (Rxc c_law_take hr (by decide) (by rfl) (Rc (rv 0) (Rc Rxi Rn))) Rxi) (Rc (Rxc c_law_take hr (by decide) (by rfl) (Rc (rv 0) (Rc Rxi Rn))) (Rc (rx_bin ox_sub (Rxc c_law_take hr (by decide) (by rfl) (Rc (rv 0) (Rc Rxi Rn))) Rxi) (Rc Rxi Rn))))) (rx_ix (hu_of hr) (rx_lst (Rc Rxi (Rc Rxi (Rc Rxi (Rc Rxi (Rc Rxi (Rc Rxi Rn))))))) (Rxc c_law_take hr (by decide) (by rfl) (Rc (rv 0) (Rc Rxi Rn))) (fun _ _=>rfl)) (fun _ _=>rfl))))
theorem ok_law_operand {f:Addr}{fd:FuncData}(T:Txt P w K mg cl)(F:L2.Fun K "_law_operand" "_law_operand" s_law_operand f fd)(c_law_integer:C8.Cal P w K mg base 3 "_law_integer" (SpF K cl 1 f_law_integer) [])(c_law_take:C8.Cal P w K mg base 2 "_law_take" (SpF K cl 2 f_law_take) []):FnOk P w K mg base CX0 4 f fd ["c","many"] (SpF K cl 2 f_law_operand):=
 fn_ok (N:=N_law_operand) F sc_law_operand rfl fun cdv A outer s H E hr=>
  (Rsc (rs_if (rt_cmp (ox_ne hr.units) (Rxc c_law_take hr (by decide) (by rfl) (Rc (rv 0) (Rc Rxi Rn))) Rxi (nomark _)) (Rso (rs_ret (rx_tup (Rc rx_str (Rc (Rxc c_law_take hr (by decide) (by rfl) (Rc (rv 0) (Rc (rv 1) Rn))) Rn))))) rss_nil)
   (Rso (rs_ret (rx_tup (Rc rx_str (Rc (Rxc c_law_integer hr (by decide) (by rfl) (Rc (rv 0) Rn)) Rn))))))
theorem ok_law_instruction {f:Addr}{fd:FuncData}(T:Txt P w K mg cl)(F:L2.Fun K "_law_instruction" "_law_instruction" s_law_instruction f fd)(c_law_operand:C8.Cal P w K mg base 4 "_law_operand" (SpF K cl 2 f_law_operand) [])(c_law_take:C8.Cal P w K mg base 2 "_law_take" (SpF K cl 2 f_law_take) []):FnOk P w K mg base CX0 5 f fd ["c","many"] (SpF K cl 2 f_law_instruction):=
 fn_ok (N:=N_law_instruction) F sc_law_instruction rfl fun cdv A outer s H E hr=>
  (Rsc (rs_set (i:=2) sc_law_instruction.nd rfl (by walk_at "o") (rx_ix (hu_of hr) (rx_lst (Rc rx_str (Rc rx_str (Rc rx_str (Rc rx_str (Rc rx_str (Rc rx_str (Rc rx_str (Rc rx_str (Rc rx_str (Rc rx_str (Rc rx_str (Rc rx_str Rn))))))))))))) (Rxc c_law_take hr (by decide) (by rfl) (Rc (rv 0) (Rc Rxi Rn))) (fun _ _=>rfl)))
   (Rsc (rs_if (rt_cmp (ox_eq hr.units) (rv 2) rx_str (nomark _)) (Rso (rs_ret (rx_tup (Rc rx_str (Rc (Rxc c_law_operand hr (by decide) (by rfl) (Rc (rv 0) (Rc (rv 1) Rn))) Rn))))) rss_nil)
   (Rsc (rs_set (i:=3) sc_law_instruction.nd rfl (by walk_at "o") (rx_tup (Rc rx_str (Rc (rx_bin ox_sub (Rxc c_law_take hr (by decide) (by rfl) (Rc (rv 0) (Rc (rx_ix (hu_of hr) (rx_lst (Rc Rxi (Rc Rxi Rn))) (Rxc c_law_take hr (by decide) (by rfl) (Rc (rv 0) (Rc Rxi Rn))) (fun _ _=>rfl)) Rn))) Rxi) Rn))))
   (Rsc (rs_if (rt_cmp (ox_eq hr.units) (rv 2) rx_str (nomark _)) (Rso (rs_ret (rx_tup (Rc rx_str (Rc (Rxc c_law_take hr (by decide) (by rfl) (Rc (rv 0) (Rc (rv 1) Rn))) (Rc (rx_ix (hu_of hr) (rx_lst (Rc (rv 3) (Rc (Rxc c_law_operand hr (by decide) (by rfl) (Rc (rv 0) (Rc (rv 1) Rn))) Rn))) (Rxc c_law_take hr (by decide) (by rfl) (Rc (rv 0) (Rc Rxi Rn))) (fun _ _=>rfl)) Rn)))))) rss_nil)
   (Rsc (rs_if (rt_cmp (ox_eq hr.units) (rv 2) rx_str (nomark _)) (Rso (rs_ret (rx_tup (Rc rx_str (Rc (rx_ix (hu_of hr) (rx_lst (Rc (rv 3) (Rc (Rxc c_law_operand hr (by decide) (by rfl) (Rc (rv 0) (Rc (rv 1) Rn))) Rn))) (Rxc c_law_take hr (by decide) (by rfl) (Rc (rv 0) (Rc Rxi Rn))) (fun _ _=>rfl)) (Rc (Rxc c_law_operand hr (by decide) (by rfl) (Rc (rv 0) (Rc (rv 1) Rn))) Rn)))))) rss_nil)
   (Rso (rs_ret (rx_tup (Rc (rv 2) (Rc (Rxc c_law_take hr (by decide) (by rfl) (Rc (rv 0) (Rc (rv 1) Rn))) (Rc (Rxc c_law_operand hr (by decide) (by rfl) (Rc (rv 0) (Rc (rv 1) Rn))) (Rc (Rxc c_law_operand hr (by decide) (by rfl) (Rc (rv 0) (Rc (rv 1) Rn))) Rn))))))))))))
theorem ok_law_block {f:Addr}{fd:FuncData}(T:Txt P w K mg cl)(F:L2.Fun K "_law_block" "_law_block" s_law_block f fd)(c_law_take:C8.Cal P w K mg base 2 "_law_take" (SpF K cl 2 f_law_take) [])(c_law_instruction:C8.Cal P w K mg base 5 "_law_instruction" (SpF K cl 2 f_law_instruction) []):FnOk P w K mg base CX0 6 f fd ["c","many","most"] (SpF K cl 3 f_law_block):=
 fn_ok (N:=N_law_block) F sc_law_block rfl fun cdv A outer s H E hr=>
  (Rso (rs_ret (rx_callTy (id:="tuple") cx_tuple (by rfl) T.z_tuple (by decide +kernel) (Rc (rx_lcP (own:=[("k",3)]) (g:=(pNm 3)) (pat_nm (by decide)) rfl sc_law_block.nd (ri_range1 (by rfl) T.z_range (Rxc c_law_take hr (by decide) (by rfl) (Rc (rv 0) (Rc (rx_bin ox_add (rv 2) Rxi) Rn)))) (blkOk_by (own:=[("k",3)]) (N:=N_law_block) (sc:=defScope s_law_block) (by decide +kernel)) (fun _ _ _ _ _=>(pgn 3 sc_law_block.nd)) (fun _ _ _ _ _=>Rtn) (fun _ _ _ _ _=>(Rxc c_law_instruction hr (by decide) (by rfl) (Rc (rv 0) (Rc (rv 1) Rn))))) Rn))))
theorem ok_law_program {f:Addr}{fd:FuncData}(T:Txt P w K mg cl)(F:L2.Fun K "_law_program" "_law_program" s_law_program f fd)(c_law_take:C8.Cal P w K mg base 2 "_law_take" (SpF K cl 2 f_law_take) [])(c_law_instruction:C8.Cal P w K mg base 5 "_law_instruction" (SpF K cl 2 f_law_instruction) [])(c_law_block:C8.Cal P w K mg base 6 "_law_block" (SpF K cl 3 f_law_block) [])(c_law_integer:C8.Cal P w K mg base 3 "_law_integer" (SpF K cl 1 f_law_integer) []):FnOk P w K mg base CX0 7 f fd ["c","many","most"] (SpF K cl 3 f_law_program):=
 fn_ok (N:=N_law_program) F sc_law_program rfl fun cdv A outer s H E hr=>
  (Rsc (rs_set (i:=3) sc_law_program.nd rfl (by walk_at "o") (rx_lst Rn))
   (Rsc (rs_for PassesOwn.never rfl (ri_range1 (by rfl) T.z_range (Rxc c_law_take hr (by decide) (by rfl) (Rc (rv 0) (Rc Rxi Rn)))) (rg_name (i:=4) sc_law_program.nd rfl (by walk_at "o")) (Rso (rs_if (rt_cmp (ox_eq hr.units) (Rxc c_law_take hr (by decide) (by rfl) (Rc (rv 0) (Rc Rxi Rn))) Rxi (nomark _)) (Rsc (rs_set (i:=5) sc_law_program.nd rfl (by walk_at "o") (rx_ix (hu_of hr) (rx_lst (Rc (rx_tup (Rc rx_str (Rc (rx_bin ox_sub (Rxc c_law_take hr (by decide) (by rfl) (Rc (rv 0) (Rc Rxi Rn))) Rxi) Rn))) (Rc (rx_tup (Rc rx_str (Rc (Rxc c_law_take hr (by decide) (by rfl) (Rc (rv 0) (Rc (rv 1) Rn))) Rn))) (Rc (rx_tup (Rc rx_str (Rc (rx_ix (hu_of hr) (rx_lst (Rc (Rxc c_law_take hr (by decide) (by rfl) (Rc (rv 0) (Rc Rxi Rn))) (Rc (Rxc c_law_integer hr (by decide) (by rfl) (Rc (rv 0) Rn)) Rn))) (Rxc c_law_take hr (by decide) (by rfl) (Rc (rv 0) (Rc Rxi Rn))) (fun _ _=>rfl)) Rn))) Rn)))) (Rxc c_law_take hr (by decide) (by rfl) (Rc (rv 0) (Rc Rxi Rn))) (fun _ _=>rfl)))
   (Rso (rs_expr (rx_append (rv 3) (rx_tup (Rc rx_str (Rc (rv 5) (Rc (rx_bin ox_add (rx_tup (Rc (Rxc c_law_instruction hr (by decide) (by rfl) (Rc (rv 0) (Rc (rv 1) Rn))) Rn)) (Rxc c_law_block hr (by decide) (by rfl) (Rc (rv 0) (Rc (rv 1) (Rc (rx_bin ox_sub (rv 2) Rxi) Rn))))) Rn)))))))) (Rso (rs_set (i:=3) sc_law_program.nd rfl (by walk_at "o") (rx_bin ox_add (rv 3) (rx_callTy (id:="list") cx_list (by rfl) T.z_list (by decide +kernel) (Rc (Rxc c_law_block hr (by decide) (by rfl) (Rc (rv 0) (Rc (rv 1) (Rc Rxi Rn)))) Rn))))))))
   (Rso (rs_ret (rx_callTy (id:="tuple") cx_tuple (by rfl) T.z_tuple (by decide +kernel) (Rc (rx_sl (rv 3) ro_none (ro_some Rxi)) Rn))))))
theorem ok_law_shown {f:Addr}{fd:FuncData}(T:Txt P w K mg cl)(F:L2.Fun K "_law_shown" "_law_shown" s_law_shown f fd)  : FnOk P w K mg base CX0 1 f fd ["part"] (SpF K cl 1 f_law_shown):=
 fn_ok (N:=N_law_shown) F sc_law_shown rfl fun cdv A outer s H E hr=>
  (Rsc (rs_if (rt_tru (rx_isinst (T:="tuple") (by rfl) T.z_isinstance (by rfl) T.z_tuple (by decide +kernel) (rv 0))) (Rso (rs_ret (rx_bin ox_add (rx_ix (hu_of hr) (rx_lst (Rc rx_str (Rc rx_str Rn))) (rx_callTy (id:="int") cx_int (by rfl) T.z_int (by decide +kernel) (Rc (rx_cmp (ox_eq hr.units) (rx_ix (hu_of hr) (rv 0) Rxi (fun _ _=>rfl)) rx_str (nomark _)) Rn)) (fun _ _=>rfl)) (rx_callTy (id:="str") cx_str (by rfl) T.z_str (by decide +kernel) (Rc (rx_ix (hu_of hr) (rv 0) Rxi (fun _ _=>rfl)) Rn))))) rss_nil)
   (Rso (rs_ret (rx_bin ox_add rx_str (rx_callTy (id:="str") cx_str (by rfl) T.z_str (by decide +kernel) (Rc (rv 0) Rn))))))
theorem ok_law_line {f:Addr}{fd:FuncData}(T:Txt P w K mg cl)(F:L2.Fun K "_law_line" "_law_line" s_law_line f fd)(c_law_shown:C8.Cal P w K mg base 1 "_law_shown" (SpF K cl 1 f_law_shown) []):FnOk P w K mg base CX0 2 f fd ["one"] (SpF K cl 1 f_law_line):=
 fn_ok (N:=N_law_line) F sc_law_line rfl fun cdv A outer s H E hr=>
  (Rso (rs_ret (rx_join rx_str (rx_bin ox_add (rx_lst (Rc (rx_ix (hu_of hr) (rv 0) Rxi (fun _ _=>rfl)) Rn)) (rx_lcP (own:=[("part",1)]) (g:=(pNm 1)) (pat_nm (by decide)) rfl sc_law_line.nd (ri_any (rx_sl (rv 0) (ro_some Rxi) ro_none)) (blkOk_by (own:=[("part",1)]) (N:=N_law_line) (sc:=defScope s_law_line) (by decide +kernel)) (fun _ _ _ _ _=>(pgn 1 sc_law_line.nd)) (fun _ _ _ _ _=>Rtn) (fun _ _ _ _ _=>(Rxc c_law_shown hr (by decide) (by rfl) (Rc (rv 1) Rn))))))))
theorem ok_law_lines {f:Addr}{fd:FuncData}(T:Txt P w K mg cl)(F:L2.Fun K "_law_lines" "_law_lines" s_law_lines f fd)(c_law_line:C8.Cal P w K mg base 2 "_law_line" (SpF K cl 1 f_law_line) [])(c_law_shown:C8.Cal P w K mg base 1 "_law_shown" (SpF K cl 1 f_law_shown) []):FnOk P w K mg base CX0 3 f fd ["program"] (SpF K cl 1 f_law_lines):=
 fn_ok (N:=N_law_lines) F sc_law_lines rfl fun cdv A outer s H E hr=>
  (Rsc (rs_set (i:=1) sc_law_lines.nd rfl (by walk_at "o") (rx_lst Rn))
   (Rsc (rs_for PassesOwn.never rfl (ri_any (rv 0)) (rg_name (i:=2) sc_law_lines.nd rfl (by walk_at "o")) (Rso (rs_if (rt_cmp (ox_eq hr.units) (rx_ix (hu_of hr) (rv 2) Rxi (fun _ _=>rfl)) rx_str (nomark _)) (Rsc (rs_expr (rx_append (rv 1) (rx_bin ox_add rx_str (Rxc c_law_shown hr (by decide) (by rfl) (Rc (rx_ix (hu_of hr) (rv 2) Rxi (fun _ _=>rfl)) Rn)))))
   (Rso (rs_set (i:=1) sc_law_lines.nd rfl (by walk_at "o") (rx_bin ox_add (rx_bin ox_add (rv 1) (rx_lcP (own:=[("each",3)]) (g:=(pNm 3)) (pat_nm (by decide)) rfl sc_law_lines.nd (ri_any (rx_ix (hu_of hr) (rv 2) Rxi (fun _ _=>rfl))) (blkOk_by (own:=[("each",3)]) (N:=N_law_lines) (sc:=defScope s_law_lines) (by decide +kernel)) (fun _ _ _ _ _=>(pgn 3 sc_law_lines.nd)) (fun _ _ _ _ _=>Rtn) (fun _ _ _ _ _=>(rx_bin ox_add rx_str (Rxc c_law_line hr (by decide) (by rfl) (Rc (rv 3) Rn)))))) (rx_lst (Rc rx_str Rn)))))) (Rso (rs_expr (rx_append (rv 1) (Rxc c_law_line hr (by decide) (by rfl) (Rc (rv 2) Rn))))))))
   (Rso (rs_ret (rv 1)))))
theorem ok_law {f:Addr}{fd:FuncData}(T:Txt P w K mg cl)(F:L2.Fun K "law" "law" s_law f fd)(c_law_start:C8.Cal P w K mg base 1 "_law_start" (SpF K cl 1 f_law_start) [])(c_law_told:C8.Cal P w K mg base 7 "_law_told" (SpF K cl 1 f_law_told) [])(c_law_due:C8.Cal P w K mg base 22 "_law_due" (SpF K cl 1 f_law_due) [])(c_law_take:C8.Cal P w K mg base 2 "_law_take" (SpF K cl 2 f_law_take) [])(c_law_spoilt_lines:C8.Cal P w K mg base 3 "_law_spoilt_lines" (SpF K cl 2 f_law_spoilt_lines) [])(c_law_lines:C8.Cal P w K mg base 3 "_law_lines" (SpF K cl 1 f_law_lines) [])(c_law_program:C8.Cal P w K mg base 7 "_law_program" (SpF K cl 3 f_law_program) []):FnOk P w K mg base CX0 23 f fd ["script"] (SpF K cl 1 f_law):=
 fn_ok (N:=N_law) F sc_law rfl fun cdv A outer s H E hr=>
  (Rsc (rs_set (i:=1) sc_law.nd rfl (by walk_at "o") (Rxc c_law_start hr (by decide) (by rfl) (Rc (rv 0) Rn)))
   (Rsc (rs_set (i:=2) sc_law.nd rfl (by walk_at "o") (Rxc c_law_lines hr (by decide) (by rfl) (Rc (Rxc c_law_program hr (by decide) (by rfl) (Rc (rv 1) (Rc Rxi (Rc Rxi Rn)))) Rn)))
   (Rsc (rs_for PassesOwn.never rfl (ri_range1 (by rfl) T.z_range (rx_bin ox_add Rxi (Rxc c_law_take hr (by decide) (by rfl) (Rc (rv 1) (Rc Rxi Rn))))) (rg_name (i:=3) sc_law.nd rfl (by walk_at "o")) (Rso (rs_set (i:=2) sc_law.nd rfl (by walk_at "o") (Rxc c_law_spoilt_lines hr (by decide) (by rfl) (Rc (rv 1) (Rc (rv 2) Rn))))))
   (Rsc (rs_set (i:=4) sc_law.nd rfl (by walk_at "o") (Rxc c_law_take hr (by decide) (by rfl) (Rc (rv 1) (Rc Rxi Rn))))
   (Rsc (rs_if (rt_cmp (ox_eq hr.units) (rv 4) Rxi (nomark _)) (Rso (rs_set (i:=2) sc_law.nd rfl (by walk_at "o") (rx_bin ox_add (rv 2) (rx_lcP (own:=[("k",3)]) (g:=(pNm 3)) (pat_nm (by decide)) rfl sc_law.nd (ri_range1 (by rfl) T.z_range (rx_bin ox_sub Rxi (Rxc c_law_take hr (by decide) (by rfl) (Rc (rv 1) (Rc Rxi Rn))))) (blkOk_by (own:=[("k",3)]) (N:=N_law) (sc:=defScope s_law) (by decide +kernel)) (fun _ _ _ _ _=>(pgn 3 sc_law.nd)) (fun _ _ _ _ _=>Rtn) (fun _ _ _ _ _=>(rx_bin ox_add rx_str (rx_callTy (id:="str") cx_str (by rfl) T.z_str (by decide +kernel) (Rc (rv 3) Rn)))))))) rss_nil)
   (Rsc (rs_if (rt_cmp (ox_eq hr.units) (rv 4) Rxi (nomark _)) (Rso (rs_set (i:=2) sc_law.nd rfl (by walk_at "o") (rx_bin ox_add (rx_bin ox_add (rx_bin ox_add (rv 2) (rx_lst (Rc rx_str Rn))) (rx_bin ox_mul (rx_lst (Rc rx_str Rn)) (rx_bin ox_add Rxi (Rxc c_law_take hr (by decide) (by rfl) (Rc (rv 1) (Rc Rxi Rn)))))) (rx_lst (Rc rx_str Rn))))) rss_nil)
   (Rsc (rs_set (i:=5) sc_law.nd rfl (by walk_at "o") (rx_join rx_str (rv 2)))
   (Rsc (rs_if (rt_cmp (ox_eq hr.units) (rv 4) Rxi (nomark _)) (Rso (rs_set (i:=5) sc_law.nd rfl (by walk_at "o") (rx_bin ox_add (rv 5) (rx_bin ox_smul rx_str (rx_bin ox_sub (rx_bin ox_add Rxi (Rxc c_law_take hr (by decide) (by rfl) (Rc (rv 1) (Rc Rxi Rn)))) (rx_callB (id:="len") cx_len (by rfl) T.z_len (by decide +kernel) (Rc (rv 5) Rn))))))) rss_nil)
   (Rso (rs_ret (rx_cmp (ox_eq hr.units) (Rxc c_law_told hr (by decide) (by rfl) (Rc (rv 5) Rn)) (Rxc c_law_due hr (by decide) (by rfl) (Rc (rv 5) Rn)) (nomark _))))))))))))
end
theorem all_mk {l:PySem.W.OpenLaw}{w:World}{K:PySem.W.Frag}{h:Heap}{mg:Str→Option Value}{fa:Addr}(hF:∀ns:List Int,ns.length≤63→∃m,f_law [.ref 0] [.rol (ns.map PV.int)]=some (.bl true,m))(X:K.In h)(G:h.Ns mainGlobals mg)(hfa:mg "law"=some (.ref fa))
  {C1 C2 C0:Addr}
  {f0 f1 f2 f3 f4 f5 f6 f7 f8 f9 f10 f11 f12 f13 f14 f15 f16 f17 f18 f19 f20 f21 f22 f23 f24 f25 f26 f27 f28 f29 f30 f31 f32 f33 f34 f35 f36:Addr}
  {od0 an0 od1 an1 od2 an2 od3 an3 od4 an4 od5 an5 od6 an6 od7 an7 od8 an8 od9 an9 od10 an10 od11 an11 od12 an12 od13 an13 od14 an14 od15 an15 od16 an16 od17 an17 od18 an18 od19 an19 od20 an20 od21 an21 od22 an22 od23 an23 od24 an24 od25 an25 od26 an26 od27 an27 od28 an28 od29 an29 od30 an30 od31 an31 od32 an32 od33 an33 od34 an34 od35 an35 od36 an36:Option Addr} {sl0 sl1 sl2 sl3 sl4 sl5 sl6 sl7 sl8 sl9 sl10 sl11 sl12 sl13 sl14 sl15 sl16 sl17 sl18 sl19 sl20 sl21 sl22 sl23 sl24 sl25 sl26 sl27 sl28 sl29 sl30 sl31 sl32 sl33 sl34 sl35 sl36:Array (Option Value)} {oc0 kV0 dc0 pm0 cd0 ct0 oc1 kV1 dc1 pm1 cd1 ct1 oc2 kV2 dc2 pm2 cd2 ct2 oc3 kV3 dc3 pm3 cd3 ct3 oc4 kV4 dc4 pm4 cd4 ct4 oc5 kV5 dc5 pm5 cd5 ct5 oc6 kV6 dc6 pm6 cd6 ct6 oc7 kV7 dc7 pm7 cd7 ct7 oc8 kV8 dc8 pm8 cd8 ct8 oc9 kV9 dc9 pm9 cd9 ct9 oc10 kV10 dc10 pm10 cd10 ct10 oc11 kV11 dc11 pm11 cd11 ct11 oc12 kV12 dc12 pm12 cd12 ct12 oc13 kV13 dc13 pm13 cd13 ct13 oc14 kV14 dc14 pm14 cd14 ct14 oc15 kV15 dc15 pm15 cd15 ct15 oc16 kV16 dc16 pm16 cd16 ct16 oc17 kV17 dc17 pm17 cd17 ct17 oc18 kV18 dc18 pm18 cd18 ct18 oc19 kV19 dc19 pm19 cd19 ct19 oc20 kV20 dc20 pm20 cd20 ct20 oc21 kV21 dc21 pm21 cd21 ct21 oc22 kV22 dc22 pm22 cd22 ct22 oc23 kV23 dc23 pm23 cd23 ct23 oc24 kV24 dc24 pm24 cd24 ct24 oc25 kV25 dc25 pm25 cd25 ct25 oc26 kV26 dc26 pm26 cd26 ct26 oc27 kV27 dc27 pm27 cd27 ct27 oc28 kV28 dc28 pm28 cd28 ct28 oc29 kV29 dc29 pm29 cd29 ct29 oc30 kV30 dc30 pm30 cd30 ct30 oc31 kV31 dc31 pm31 cd31 ct31 oc32 kV32 dc32 pm32 cd32 ct32 oc33 kV33 dc33 pm33 cd33 ct33 oc34 kV34 dc34 pm34 cd34 ct34 oc35 kV35 dc35 pm35 cd35 ct35 oc36 kV36 dc36 pm36 cd36 ct36:Value}
  (aC1:W.nsIn K mainGlobals "LimitError"=some (some (.ref C1)))
  (aC2:W.nsIn K mainGlobals "ParseError"=some (some (.ref C2)))
  (aC0:W.nsIn K mainGlobals "TriremeError"=some (some (.ref C0)))
  (xx1q:PySem.W.excIn K C1 bmVE "ValueError.__new__"=true)
  (xx1kp:W.keepIn K (.ref C1)=true)
  (xx1su:PySem.W.subIn K (.ref C1) (.type "BaseException")=some true)
  (xx1ty:PySem.W.typeIn K (.ref C1)=some (.type "type"))
  (xy1ga:W.findIn K (.ref C1) "__getattribute__"=some (some (.builtin "BaseException.__getattribute__")))
  (xy1gk:W.findIn K (.ref C1) "__getattr__"=some none)
  (xy1su:PySem.W.subIn K (.ref C1) (.type "BaseException")=some true)
  (xy1hd:W.hasDictIn K C1=true)
  (xy1ca:W.findIn K (.ref C1) "__class__"=some (some (.builtin "object.__class__")))
  (xy1cn:PySem.W.specialIn K (.builtin "object.__class__") "__get__"=some (some (.builtin "getset_descriptor.__get__")))
  (xy1ct:PySem.W.takesIn K (.builtin "object.__class__")=some true)
  (xy1cm:PySem.W.mroIn K C1 (.type "object")=some true)
  (xy1ty:PySem.W.typeIn K (.ref C1)=some (.type "type"))
  (xy1sf:PySem.W.subIn K (.ref C1) (.ref C1)=some true)
  (xy2ga:W.findIn K (.ref C2) "__getattribute__"=some (some (.builtin "BaseException.__getattribute__")))
  (xy2gk:W.findIn K (.ref C2) "__getattr__"=some none)
  (xy2su:PySem.W.subIn K (.ref C2) (.type "BaseException")=some true)
  (xy2hd:W.hasDictIn K C2=true)
  (xy2ca:W.findIn K (.ref C2) "__class__"=some (some (.builtin "object.__class__")))
  (xy2cn:PySem.W.specialIn K (.builtin "object.__class__") "__get__"=some (some (.builtin "getset_descriptor.__get__")))
  (xy2ct:PySem.W.takesIn K (.builtin "object.__class__")=some true)
  (xy2cm:PySem.W.mroIn K C2 (.type "object")=some true)
  (xy2ty:PySem.W.typeIn K (.ref C2)=some (.type "type"))
  (xy2sf:PySem.W.subIn K (.ref C2) (.ref C2)=some true)
  {nm2 qn2:Str} {nn2:Addr} {bs2 bm2 sb2:List Value} {sn2:List Str} {ab2:Bool} {co2:Option Bool} {dd2:Option Addr} {m02 m12 m22 m32 m52:Option Value} (xw2cls:K.lookup C2=some (excClassObj nm2 qn2 C2 nn2 bs2 bm2 true sn2 sb2 ab2 co2 dd2 m02 m12 m22 m32 m52 "ValueError.__new__"))
  (xw2ref:PySem.HandSPX.refsVE bm2=true)
  (xw2sa:W.findIn K (.ref C2) "__setattr__"=some (some (.builtin "object.__setattr__")))
  (xw2ga:W.findIn K (.ref C2) "__getattribute__"=some (some (.builtin "BaseException.__getattribute__")))
  (xw2gg:W.findIn K (.ref C2) "__getattr__"=some none)
  (xw2noN:W.findIn K (.ref C2) "line"=some none)
  {fI2:Addr} (xw2iC:W.findIn K (.ref C2) "__init__"=some (some (.ref fI2)))
  (xw2tC:PySem.W.typeIn K (.ref fI2)=some (.type "function"))
  (xw2kC:W.keepIn K (.ref C2)=true)
  (xw2exC:PySem.W.subIn K (.ref C2) (.type "BaseException")=some true)
  (xw2vaC:PySem.W.subIn K (.ref C2) (.type "ValueError")=some true)
  (xw2tyC:PySem.W.typeIn K (.ref C2)=some (.type "type"))
  (xw2hdC:W.hasDictIn K C2=true)
  (xw2sf:PySem.W.subIn K (.ref C2) (.ref C2)=some true)
  (xw2op:W.nsIn K cStatics "thirdparty.any"=some none)
  (xw2su:PySem.W.ks_superIn K C2 C2 "__init__"=some (some (.builtin "ValueError.__init__")))
  (xw2ei:PySem.W.excInitIn K C2 Rf.bmVE "ValueError.__new__"=true)
  (xw2mr:PySem.W.mroIn K C2 (.ref C2)=some true)
  {wa2:Addr} {wb2:Value} {wc2:Option Addr} {wd2:Array (Option Value)} {we2:Option Addr} {wf2 wg2 wh2:Value} {wi2:Addr} (xw2fl:K.lookup fI2=some ⟨wb2,wc2,.func (PySem.W.ksFn "__init__" "ParseError.__init__" (PySem.PeX.iA ⟨8,17,8,21⟩ ⟨8,23,8,27⟩) (PySem.PeX.iB ⟨9,8,9,13⟩ ⟨9,8,9,15⟩ ⟨9,8,9,24⟩ ⟨9,27,9,32⟩ ⟨9,33,9,37⟩ ⟨9,32,9,38⟩ ⟨9,38,9,68⟩ ⟨9,25,9,69⟩ ⟨9,8,9,70⟩ ⟨9,8,9,70⟩ ⟨10,8,10,12⟩ ⟨10,8,10,17⟩ ⟨10,20,10,24⟩ ⟨10,8,10,24⟩) PySem.PeX.iS .none .none wf2 wg2 we2 (.ref wa2) wh2 wi2),wd2⟩)
  (xw2cd:W.codeIn K (.ref wa2) "ParseError.__init__"=true)
  {wj2:Value} {wk2:Option Addr} {wl2:Array Value} {wm2:Array (Option Value)} (xw2co:K.lookup wa2=some ⟨wj2,wk2,.fields wl2,wm2⟩)
  {wn2:Str} {wo2:Tok} (xw2vs:wl2[2]?=some (.str wn2 wo2))
  (xw2fi:((l.prog.main.file:Str) == wn2)=true)
  {wp2:Value} {wq2:Option Addr} {wr2:Array (Option Value)} (xw2ce:K.lookup wi2=some ⟨wp2,wq2,.cell (some (.ref C2)),wr2⟩)
  (xw2tp:(l.prog.main.scope.names.lookup ("super":Str)).isSome=false)
  (xnf2:W.findIn K (.ref C2) "line"=some none)
  (xne1_2:PySem.W.subIn K (.ref C1) (.ref C2)=some false)
  (xt1_ParseError:PySem.W.kitOne K (.ref C1) (.ref C2)=some false)
  (xt1_TriremeError:PySem.W.kitOne K (.ref C1) (.ref C0)=some true)
  (xt2_LimitError:PySem.W.kitOne K (.ref C2) (.ref C1)=some false)
  (xt2_TriremeError:PySem.W.kitOne K (.ref C2) (.ref C0)=some true)
  (zz_ValueError:W.nsIn K mainGlobals "ValueError"=some none)
  (xt2_ValueError:PySem.W.kitOne K (.ref C2) (.type "ValueError")=some true)
  (a0:W.nsIn K mainGlobals "_law_start"=some (some (.ref f0)))
  (l0:K.lookup f0=some ⟨oc0,od0,.func (W.fnOf "_law_start" "_law_start" (defArgs s_law_start) (defBody s_law_start) (defScope s_law_start) .none kV0 dc0 pm0 an0 cd0 ct0),sl0⟩)
  (c0:W.codeIn K cd0 "_law_start"=true)
  (k0:W.keepIn K (.ref f0)=true)
  (a1:W.nsIn K mainGlobals "check_sizes"=some (some (.ref f1)))
  (l1:K.lookup f1=some ⟨oc1,od1,.func (W.fnOf "check_sizes" "check_sizes" (defArgs s_check_sizes) (defBody s_check_sizes) (defScope s_check_sizes) .none kV1 dc1 pm1 an1 cd1 ct1),sl1⟩)
  (c1:W.codeIn K cd1 "check_sizes"=true)
  (k1:W.keepIn K (.ref f1)=true)
  (a2:W.nsIn K mainGlobals "read_number"=some (some (.ref f2)))
  (l2:K.lookup f2=some ⟨oc2,od2,.func (W.fnOf "read_number" "read_number" (defArgs s_read_number) (defBody s_read_number) (defScope s_read_number) .none kV2 dc2 pm2 an2 cd2 ct2),sl2⟩)
  (c2:W.codeIn K cd2 "read_number"=true)
  (k2:W.keepIn K (.ref f2)=true)
  (a3:W.nsIn K mainGlobals "read_operand"=some (some (.ref f3)))
  (l3:K.lookup f3=some ⟨oc3,od3,.func (W.fnOf "read_operand" "read_operand" (defArgs s_read_operand) (defBody s_read_operand) (defScope s_read_operand) .none kV3 dc3 pm3 an3 cd3 ct3),sl3⟩)
  (c3:W.codeIn K cd3 "read_operand"=true)
  (k3:W.keepIn K (.ref f3)=true)
  (a4:W.nsIn K mainGlobals "read_instruction"=some (some (.ref f4)))
  (l4:K.lookup f4=some ⟨oc4,od4,.func (W.fnOf "read_instruction" "read_instruction" (defArgs s_read_instruction) (defBody s_read_instruction) (defScope s_read_instruction) .none kV4 dc4 pm4 an4 cd4 ct4),sl4⟩)
  (c4:W.codeIn K cd4 "read_instruction"=true)
  (k4:W.keepIn K (.ref f4)=true)
  (a5:W.nsIn K mainGlobals "build"=some (some (.ref f5)))
  (l5:K.lookup f5=some ⟨oc5,od5,.func (W.fnOf "build" "build" (defArgs s_build) (defBody s_build) (defScope s_build) .none kV5 dc5 pm5 an5 cd5 ct5),sl5⟩)
  (c5:W.codeIn K cd5 "build"=true)
  (k5:W.keepIn K (.ref f5)=true)
  (a6:W.nsIn K mainGlobals "is_natural"=some (some (.ref f6)))
  (l6:K.lookup f6=some ⟨oc6,od6,.func (W.fnOf "is_natural" "is_natural" (defArgs s_is_natural) (defBody s_is_natural) (defScope s_is_natural) .none kV6 dc6 pm6 an6 cd6 ct6),sl6⟩)
  (c6:W.codeIn K cd6 "is_natural"=true)
  (k6:W.keepIn K (.ref f6)=true)
  (a7:W.nsIn K mainGlobals "is_integer"=some (some (.ref f7)))
  (l7:K.lookup f7=some ⟨oc7,od7,.func (W.fnOf "is_integer" "is_integer" (defArgs s_is_integer) (defBody s_is_integer) (defScope s_is_integer) .none kV7 dc7 pm7 an7 cd7 ct7),sl7⟩)
  (c7:W.codeIn K cd7 "is_integer"=true)
  (k7:W.keepIn K (.ref f7)=true)
  (a8:W.nsIn K mainGlobals "is_register"=some (some (.ref f8)))
  (l8:K.lookup f8=some ⟨oc8,od8,.func (W.fnOf "is_register" "is_register" (defArgs s_is_register) (defBody s_is_register) (defScope s_is_register) .none kV8 dc8 pm8 an8 cd8 ct8),sl8⟩)
  (c8:W.codeIn K cd8 "is_register"=true)
  (k8:W.keepIn K (.ref f8)=true)
  (a9:W.nsIn K mainGlobals "is_written"=some (some (.ref f9)))
  (l9:K.lookup f9=some ⟨oc9,od9,.func (W.fnOf "is_written" "is_written" (defArgs s_is_written) (defBody s_is_written) (defScope s_is_written) .none kV9 dc9 pm9 an9 cd9 ct9),sl9⟩)
  (c9:W.codeIn K cd9 "is_written"=true)
  (k9:W.keepIn K (.ref f9)=true)
  (a10:W.nsIn K mainGlobals "form_of"=some (some (.ref f10)))
  (l10:K.lookup f10=some ⟨oc10,od10,.func (W.fnOf "form_of" "form_of" (defArgs s_form_of) (defBody s_form_of) (defScope s_form_of) .none kV10 dc10 pm10 an10 cd10 ct10),sl10⟩)
  (c10:W.codeIn K cd10 "form_of"=true)
  (k10:W.keepIn K (.ref f10)=true)
  (a11:W.nsIn K mainGlobals "has_form"=some (some (.ref f11)))
  (l11:K.lookup f11=some ⟨oc11,od11,.func (W.fnOf "has_form" "has_form" (defArgs s_has_form) (defBody s_has_form) (defScope s_has_form) .none kV11 dc11 pm11 an11 cd11 ct11),sl11⟩)
  (c11:W.codeIn K cd11 "has_form"=true)
  (k11:W.keepIn K (.ref f11)=true)
  (a12:W.nsIn K mainGlobals "may_stand"=some (some (.ref f12)))
  (l12:K.lookup f12=some ⟨oc12,od12,.func (W.fnOf "may_stand" "may_stand" (defArgs s_may_stand) (defBody s_may_stand) (defScope s_may_stand) .none kV12 dc12 pm12 an12 cd12 ct12),sl12⟩)
  (c12:W.codeIn K cd12 "may_stand"=true)
  (k12:W.keepIn K (.ref f12)=true)
  (a13:W.nsIn K mainGlobals "check_forms"=some (some (.ref f13)))
  (l13:K.lookup f13=some ⟨oc13,od13,.func (W.fnOf "check_forms" "check_forms" (defArgs s_check_forms) (defBody s_check_forms) (defScope s_check_forms) .none kV13 dc13 pm13 an13 cd13 ct13),sl13⟩)
  (c13:W.codeIn K cd13 "check_forms"=true)
  (k13:W.keepIn K (.ref f13)=true)
  (a14:W.nsIn K mainGlobals "words_of"=some (some (.ref f14)))
  (l14:K.lookup f14=some ⟨oc14,od14,.func (W.fnOf "words_of" "words_of" (defArgs s_words_of) (defBody s_words_of) (defScope s_words_of) .none kV14 dc14 pm14 an14 cd14 ct14),sl14⟩)
  (c14:W.codeIn K cd14 "words_of"=true)
  (k14:W.keepIn K (.ref f14)=true)
  (a15:W.nsIn K mainGlobals "parse"=some (some (.ref f15)))
  (l15:K.lookup f15=some ⟨oc15,od15,.func (W.fnOf "parse" "parse" (defArgs s_parse) (defBody s_parse) (defScope s_parse) .none kV15 dc15 pm15 an15 cd15 ct15),sl15⟩)
  (c15:W.codeIn K cd15 "parse"=true)
  (k15:W.keepIn K (.ref f15)=true)
  (a16:W.nsIn K mainGlobals "_law_told"=some (some (.ref f16)))
  (l16:K.lookup f16=some ⟨oc16,od16,.func (W.fnOf "_law_told" "_law_told" (defArgs s_law_told) (defBody s_law_told) (defScope s_law_told) .none kV16 dc16 pm16 an16 cd16 ct16),sl16⟩)
  (c16:W.codeIn K cd16 "_law_told"=true)
  (k16:W.keepIn K (.ref f16)=true)
  (a17:W.nsIn K mainGlobals "_law_large"=some (some (.ref f17)))
  (l17:K.lookup f17=some ⟨oc17,od17,.func (W.fnOf "_law_large" "_law_large" (defArgs s_law_large) (defBody s_law_large) (defScope s_law_large) .none kV17 dc17 pm17 an17 cd17 ct17),sl17⟩)
  (c17:W.codeIn K cd17 "_law_large"=true)
  (k17:W.keepIn K (.ref f17)=true)
  (a18:W.nsIn K mainGlobals "_law_digits"=some (some (.ref f18)))
  (l18:K.lookup f18=some ⟨oc18,od18,.func (W.fnOf "_law_digits" "_law_digits" (defArgs s_law_digits) (defBody s_law_digits) (defScope s_law_digits) .none kV18 dc18 pm18 an18 cd18 ct18),sl18⟩)
  (c18:W.codeIn K cd18 "_law_digits"=true)
  (k18:W.keepIn K (.ref f18)=true)
  (a19:W.nsIn K mainGlobals "_law_register"=some (some (.ref f19)))
  (l19:K.lookup f19=some ⟨oc19,od19,.func (W.fnOf "_law_register" "_law_register" (defArgs s_law_register) (defBody s_law_register) (defScope s_law_register) .none kV19 dc19 pm19 an19 cd19 ct19),sl19⟩)
  (c19:W.codeIn K cd19 "_law_register"=true)
  (k19:W.keepIn K (.ref f19)=true)
  (a20:W.nsIn K mainGlobals "_law_read_operand"=some (some (.ref f20)))
  (l20:K.lookup f20=some ⟨oc20,od20,.func (W.fnOf "_law_read_operand" "_law_read_operand" (defArgs s_law_read_operand) (defBody s_law_read_operand) (defScope s_law_read_operand) .none kV20 dc20 pm20 an20 cd20 ct20),sl20⟩)
  (c20:W.codeIn K cd20 "_law_read_operand"=true)
  (k20:W.keepIn K (.ref f20)=true)
  (a21:W.nsIn K mainGlobals "_law_kinds"=some (some (.ref f21)))
  (l21:K.lookup f21=some ⟨oc21,od21,.func (W.fnOf "_law_kinds" "_law_kinds" (defArgs s_law_kinds) (defBody s_law_kinds) (defScope s_law_kinds) .none kV21 dc21 pm21 an21 cd21 ct21),sl21⟩)
  (c21:W.codeIn K cd21 "_law_kinds"=true)
  (k21:W.keepIn K (.ref f21)=true)
  (a22:W.nsIn K mainGlobals "_law_read_line"=some (some (.ref f22)))
  (l22:K.lookup f22=some ⟨oc22,od22,.func (W.fnOf "_law_read_line" "_law_read_line" (defArgs s_law_read_line) (defBody s_law_read_line) (defScope s_law_read_line) .none kV22 dc22 pm22 an22 cd22 ct22),sl22⟩)
  (c22:W.codeIn K cd22 "_law_read_line"=true)
  (k22:W.keepIn K (.ref f22)=true)
  (a23:W.nsIn K mainGlobals "_law_read"=some (some (.ref f23)))
  (l23:K.lookup f23=some ⟨oc23,od23,.func (W.fnOf "_law_read" "_law_read" (defArgs s_law_read) (defBody s_law_read) (defScope s_law_read) .none kV23 dc23 pm23 an23 cd23 ct23),sl23⟩)
  (c23:W.codeIn K cd23 "_law_read"=true)
  (k23:W.keepIn K (.ref f23)=true)
  (a24:W.nsIn K mainGlobals "_law_due"=some (some (.ref f24)))
  (l24:K.lookup f24=some ⟨oc24,od24,.func (W.fnOf "_law_due" "_law_due" (defArgs s_law_due) (defBody s_law_due) (defScope s_law_due) .none kV24 dc24 pm24 an24 cd24 ct24),sl24⟩)
  (c24:W.codeIn K cd24 "_law_due"=true)
  (k24:W.keepIn K (.ref f24)=true)
  (a25:W.nsIn K mainGlobals "_law_fill"=some (some (.ref f25)))
  (l25:K.lookup f25=some ⟨oc25,od25,.func (W.fnOf "_law_fill" "_law_fill" (defArgs s_law_fill) (defBody s_law_fill) (defScope s_law_fill) .none kV25 dc25 pm25 an25 cd25 ct25),sl25⟩)
  (c25:W.codeIn K cd25 "_law_fill"=true)
  (k25:W.keepIn K (.ref f25)=true)
  (a26:W.nsIn K mainGlobals "_law_take"=some (some (.ref f26)))
  (l26:K.lookup f26=some ⟨oc26,od26,.func (W.fnOf "_law_take" "_law_take" (defArgs s_law_take) (defBody s_law_take) (defScope s_law_take) .none kV26 dc26 pm26 an26 cd26 ct26),sl26⟩)
  (c26:W.codeIn K cd26 "_law_take"=true)
  (k26:W.keepIn K (.ref f26)=true)
  (a27:W.nsIn K mainGlobals "_law_spoilt_lines"=some (some (.ref f27)))
  (l27:K.lookup f27=some ⟨oc27,od27,.func (W.fnOf "_law_spoilt_lines" "_law_spoilt_lines" (defArgs s_law_spoilt_lines) (defBody s_law_spoilt_lines) (defScope s_law_spoilt_lines) .none kV27 dc27 pm27 an27 cd27 ct27),sl27⟩)
  (c27:W.codeIn K cd27 "_law_spoilt_lines"=true)
  (k27:W.keepIn K (.ref f27)=true)
  (a28:W.nsIn K mainGlobals "_law_integer"=some (some (.ref f28)))
  (l28:K.lookup f28=some ⟨oc28,od28,.func (W.fnOf "_law_integer" "_law_integer" (defArgs s_law_integer) (defBody s_law_integer) (defScope s_law_integer) .none kV28 dc28 pm28 an28 cd28 ct28),sl28⟩)
  (c28:W.codeIn K cd28 "_law_integer"=true)
  (k28:W.keepIn K (.ref f28)=true)
  (a29:W.nsIn K mainGlobals "_law_operand"=some (some (.ref f29)))
  (l29:K.lookup f29=some ⟨oc29,od29,.func (W.fnOf "_law_operand" "_law_operand" (defArgs s_law_operand) (defBody s_law_operand) (defScope s_law_operand) .none kV29 dc29 pm29 an29 cd29 ct29),sl29⟩)
  (c29:W.codeIn K cd29 "_law_operand"=true)
  (k29:W.keepIn K (.ref f29)=true)
  (a30:W.nsIn K mainGlobals "_law_instruction"=some (some (.ref f30)))
  (l30:K.lookup f30=some ⟨oc30,od30,.func (W.fnOf "_law_instruction" "_law_instruction" (defArgs s_law_instruction) (defBody s_law_instruction) (defScope s_law_instruction) .none kV30 dc30 pm30 an30 cd30 ct30),sl30⟩)
  (c30:W.codeIn K cd30 "_law_instruction"=true)
  (k30:W.keepIn K (.ref f30)=true)
  (a31:W.nsIn K mainGlobals "_law_block"=some (some (.ref f31)))
  (l31:K.lookup f31=some ⟨oc31,od31,.func (W.fnOf "_law_block" "_law_block" (defArgs s_law_block) (defBody s_law_block) (defScope s_law_block) .none kV31 dc31 pm31 an31 cd31 ct31),sl31⟩)
  (c31:W.codeIn K cd31 "_law_block"=true)
  (k31:W.keepIn K (.ref f31)=true)
  (a32:W.nsIn K mainGlobals "_law_program"=some (some (.ref f32)))
  (l32:K.lookup f32=some ⟨oc32,od32,.func (W.fnOf "_law_program" "_law_program" (defArgs s_law_program) (defBody s_law_program) (defScope s_law_program) .none kV32 dc32 pm32 an32 cd32 ct32),sl32⟩)
  (c32:W.codeIn K cd32 "_law_program"=true)
  (k32:W.keepIn K (.ref f32)=true)
  (a33:W.nsIn K mainGlobals "_law_shown"=some (some (.ref f33)))
  (l33:K.lookup f33=some ⟨oc33,od33,.func (W.fnOf "_law_shown" "_law_shown" (defArgs s_law_shown) (defBody s_law_shown) (defScope s_law_shown) .none kV33 dc33 pm33 an33 cd33 ct33),sl33⟩)
  (c33:W.codeIn K cd33 "_law_shown"=true)
  (k33:W.keepIn K (.ref f33)=true)
  (a34:W.nsIn K mainGlobals "_law_line"=some (some (.ref f34)))
  (l34:K.lookup f34=some ⟨oc34,od34,.func (W.fnOf "_law_line" "_law_line" (defArgs s_law_line) (defBody s_law_line) (defScope s_law_line) .none kV34 dc34 pm34 an34 cd34 ct34),sl34⟩)
  (c34:W.codeIn K cd34 "_law_line"=true)
  (k34:W.keepIn K (.ref f34)=true)
  (a35:W.nsIn K mainGlobals "_law_lines"=some (some (.ref f35)))
  (l35:K.lookup f35=some ⟨oc35,od35,.func (W.fnOf "_law_lines" "_law_lines" (defArgs s_law_lines) (defBody s_law_lines) (defScope s_law_lines) .none kV35 dc35 pm35 an35 cd35 ct35),sl35⟩)
  (c35:W.codeIn K cd35 "_law_lines"=true)
  (k35:W.keepIn K (.ref f35)=true)
  (a36:W.nsIn K mainGlobals "law"=some (some (.ref f36)))
  (l36:K.lookup f36=some ⟨oc36,od36,.func (W.fnOf "law" "law" (defArgs s_law) (defBody s_law) (defScope s_law) .none kV36 dc36 pm36 an36 cd36 ct36),sl36⟩)
  (c36:W.codeIn K cd36 "law"=true)
  (k36:W.keepIn K (.ref f36)=true)
  {tk_HIGHEST:Tok} (g_HIGHEST:W.nsIn K mainGlobals "HIGHEST"=some (some (.int (2147483647) tk_HIGHEST)))
  {tk_LOWEST:Tok} (g_LOWEST:W.nsIn K mainGlobals "LOWEST"=some (some (.int (-2147483648) tk_LOWEST)))
  {tk_MOST_INSTRUCTIONS:Tok} (g_MOST_INSTRUCTIONS:W.nsIn K mainGlobals "MOST_INSTRUCTIONS"=some (some (.int (12) tk_MOST_INSTRUCTIONS)))
  {tk_MOST_SIGNS:Tok} (g_MOST_SIGNS:W.nsIn K mainGlobals "MOST_SIGNS"=some (some (.int (4000) tk_MOST_SIGNS)))
  {tk_MOST_STATEMENTS:Tok} (g_MOST_STATEMENTS:W.nsIn K mainGlobals "MOST_STATEMENTS"=some (some (.int (12) tk_MOST_STATEMENTS)))
  {tk_REGISTERS:Tok} (g_REGISTERS:W.nsIn K mainGlobals "REGISTERS"=some (some (.int (16) tk_REGISTERS)))
  (z_all:W.nsIn K mainGlobals "all"=some none)
  (z_any:W.nsIn K mainGlobals "any"=some none)
  (z_enumerate:W.nsIn K mainGlobals "enumerate"=some none)
  (z_int:W.nsIn K mainGlobals "int"=some none)
  (z_isinstance:W.nsIn K mainGlobals "isinstance"=some none)
  (z_len:W.nsIn K mainGlobals "len"=some none)
  (z_list:W.nsIn K mainGlobals "list"=some none)
  (z_min:W.nsIn K mainGlobals "min"=some none)
  (z_range:W.nsIn K mainGlobals "range"=some none)
  (z_str:W.nsIn K mainGlobals "str"=some none)
  (z_super:W.nsIn K mainGlobals "super"=some none)
  (z_tuple:W.nsIn K mainGlobals "tuple"=some none)
  (z_zip:W.nsIn K mainGlobals "zip"=some none)
  {d_FORMS:Addr} {es_FORMS:Array DictEntry} {n_FORMS:Nat} (g_FORMS:W.nsIn K mainGlobals "FORMS"=some (some (.ref d_FORMS)))
  (l_FORMS:K.lookup d_FORMS=some ⟨.type "dict",none,.dict es_FORMS n_FORMS,#[]⟩)
  (q_FORMS:PySem.W.KeysLit w.params es_FORMS.toList)
  (y_FORMS:(d_FORMS == sysModules)=false)
  {t_FORMS_0:Addr} (v_FORMS_0:W.nsIn K d_FORMS "add"=some (some (.ref t_FORMS_0)))
  {its_FORMS_0:Array Value} {nn_FORMS_0:Nat} {sl_FORMS_0:Array (Option Value)} (w_FORMS_0:K.lookup t_FORMS_0=some ⟨.type "tuple",none,.seq its_FORMS_0 nn_FORMS_0,sl_FORMS_0⟩)
  (e_FORMS_0:Vals ((["target","operand","operand"]:List Str).map V.str) its_FORMS_0.toList)
  (s_FORMS_0:its_FORMS_0.size≤sizeLine)
  {t_FORMS_1:Addr} (v_FORMS_1:W.nsIn K d_FORMS "sub"=some (some (.ref t_FORMS_1)))
  {its_FORMS_1:Array Value} {nn_FORMS_1:Nat} {sl_FORMS_1:Array (Option Value)} (w_FORMS_1:K.lookup t_FORMS_1=some ⟨.type "tuple",none,.seq its_FORMS_1 nn_FORMS_1,sl_FORMS_1⟩)
  (e_FORMS_1:Vals ((["target","operand","operand"]:List Str).map V.str) its_FORMS_1.toList)
  (s_FORMS_1:its_FORMS_1.size≤sizeLine)
  {t_FORMS_2:Addr} (v_FORMS_2:W.nsIn K d_FORMS "mul"=some (some (.ref t_FORMS_2)))
  {its_FORMS_2:Array Value} {nn_FORMS_2:Nat} {sl_FORMS_2:Array (Option Value)} (w_FORMS_2:K.lookup t_FORMS_2=some ⟨.type "tuple",none,.seq its_FORMS_2 nn_FORMS_2,sl_FORMS_2⟩)
  (e_FORMS_2:Vals ((["target","operand","operand"]:List Str).map V.str) its_FORMS_2.toList)
  (s_FORMS_2:its_FORMS_2.size≤sizeLine)
  {t_FORMS_3:Addr} (v_FORMS_3:W.nsIn K d_FORMS "and"=some (some (.ref t_FORMS_3)))
  {its_FORMS_3:Array Value} {nn_FORMS_3:Nat} {sl_FORMS_3:Array (Option Value)} (w_FORMS_3:K.lookup t_FORMS_3=some ⟨.type "tuple",none,.seq its_FORMS_3 nn_FORMS_3,sl_FORMS_3⟩)
  (e_FORMS_3:Vals ((["target","operand","operand"]:List Str).map V.str) its_FORMS_3.toList)
  (s_FORMS_3:its_FORMS_3.size≤sizeLine)
  {t_FORMS_4:Addr} (v_FORMS_4:W.nsIn K d_FORMS "less"=some (some (.ref t_FORMS_4)))
  {its_FORMS_4:Array Value} {nn_FORMS_4:Nat} {sl_FORMS_4:Array (Option Value)} (w_FORMS_4:K.lookup t_FORMS_4=some ⟨.type "tuple",none,.seq its_FORMS_4 nn_FORMS_4,sl_FORMS_4⟩)
  (e_FORMS_4:Vals ((["target","operand","operand"]:List Str).map V.str) its_FORMS_4.toList)
  (s_FORMS_4:its_FORMS_4.size≤sizeLine)
  {t_FORMS_5:Addr} (v_FORMS_5:W.nsIn K d_FORMS "load"=some (some (.ref t_FORMS_5)))
  {its_FORMS_5:Array Value} {nn_FORMS_5:Nat} {sl_FORMS_5:Array (Option Value)} (w_FORMS_5:K.lookup t_FORMS_5=some ⟨.type "tuple",none,.seq its_FORMS_5 nn_FORMS_5,sl_FORMS_5⟩)
  (e_FORMS_5:Vals ((["target","operand"]:List Str).map V.str) its_FORMS_5.toList)
  (s_FORMS_5:its_FORMS_5.size≤sizeLine)
  {t_FORMS_6:Addr} (v_FORMS_6:W.nsIn K d_FORMS "store"=some (some (.ref t_FORMS_6)))
  {its_FORMS_6:Array Value} {nn_FORMS_6:Nat} {sl_FORMS_6:Array (Option Value)} (w_FORMS_6:K.lookup t_FORMS_6=some ⟨.type "tuple",none,.seq its_FORMS_6 nn_FORMS_6,sl_FORMS_6⟩)
  (e_FORMS_6:Vals ((["operand","operand"]:List Str).map V.str) its_FORMS_6.toList)
  (s_FORMS_6:its_FORMS_6.size≤sizeLine)
  {t_FORMS_7:Addr} (v_FORMS_7:W.nsIn K d_FORMS "out"=some (some (.ref t_FORMS_7)))
  {its_FORMS_7:Array Value} {nn_FORMS_7:Nat} {sl_FORMS_7:Array (Option Value)} (w_FORMS_7:K.lookup t_FORMS_7=some ⟨.type "tuple",none,.seq its_FORMS_7 nn_FORMS_7,sl_FORMS_7⟩)
  (e_FORMS_7:Vals ((["operand"]:List Str).map V.str) its_FORMS_7.toList)
  (s_FORMS_7:its_FORMS_7.size≤sizeLine)
  (kx_FORMS:es_FORMS.toList.map Rf.keyS=(T_FORMS.map (·.1)).map some)
  : ∃fd:FuncData,(∀(s:Shared) (v:Value),BindsTo s fd ⟨[v],[]⟩ [("script",v)])∧∀base:Heap,K.In base→base.Ns mainGlobals mg→FnOk l.prog w K mg base CX0 23 fa fd ["script"] (SpLaw K):=by
 have e:=hfa.symm.trans (W.mg_of X G a36)
 cases e
 let cl:Nat→Addr:=fun i=>[0,C1,C2].getD i 0
 have T:Txt l.prog w K mg cl:=⟨⟨_,W.mg_of X G g_HIGHEST⟩,⟨_,W.mg_of X G g_LOWEST⟩,⟨_,W.mg_of X G g_MOST_INSTRUCTIONS⟩,⟨_,W.mg_of X G g_MOST_SIGNS⟩,⟨_,W.mg_of X G g_MOST_STATEMENTS⟩,⟨_,W.mg_of X G g_REGISTERS⟩,PySem.W.mg_none_of X G z_all,PySem.W.mg_none_of X G z_any,PySem.W.mg_none_of X G z_enumerate,PySem.W.mg_none_of X G z_int,PySem.W.mg_none_of X G z_isinstance,PySem.W.mg_none_of X G z_len,PySem.W.mg_none_of X G z_list,PySem.W.mg_none_of X G z_min,PySem.W.mg_none_of X G z_range,PySem.W.mg_none_of X G z_str,PySem.W.mg_none_of X G z_super,PySem.W.mg_none_of X G z_tuple,PySem.W.mg_none_of X G z_zip,⟨_,_,_,W.mg_of X G g_FORMS,⟨l_FORMS,q_FORMS,y_FORMS⟩,(List.forall_mem_cons.mpr ⟨kval_mk v_FORMS_0 w_FORMS_0 e_FORMS_0 s_FORMS_0,(List.forall_mem_cons.mpr ⟨kval_mk v_FORMS_1 w_FORMS_1 e_FORMS_1 s_FORMS_1,(List.forall_mem_cons.mpr ⟨kval_mk v_FORMS_2 w_FORMS_2 e_FORMS_2 s_FORMS_2,(List.forall_mem_cons.mpr ⟨kval_mk v_FORMS_3 w_FORMS_3 e_FORMS_3 s_FORMS_3,(List.forall_mem_cons.mpr ⟨kval_mk v_FORMS_4 w_FORMS_4 e_FORMS_4 s_FORMS_4,(List.forall_mem_cons.mpr ⟨kval_mk v_FORMS_5 w_FORMS_5 e_FORMS_5 s_FORMS_5,(List.forall_mem_cons.mpr ⟨kval_mk v_FORMS_6 w_FORMS_6 e_FORMS_6 s_FORMS_6,(List.forall_mem_cons.mpr ⟨kval_mk v_FORMS_7 w_FORMS_7 e_FORMS_7 s_FORMS_7,(fun q h=>nomatch h)⟩)⟩)⟩)⟩)⟩)⟩)⟩)⟩)⟩,ktabx_mk (W.mg_of X G g_FORMS) l_FORMS kx_FORMS,⟨W.mg_of X G aC1,xx1q,xx1kp,xx1su,xx1ty⟩,⟨W.mg_of X G aC1,xy1ga,xy1gk,xy1su,xy1hd,xy1ca,xy1cn,xy1ct,xy1cm,xy1ty,xy1sf⟩,⟨W.mg_of X G aC2,xy2ga,xy2gk,xy2su,xy2hd,xy2ca,xy2cn,xy2ct,xy2cm,xy2ty,xy2sf⟩,⟨fI2,{ gC:=W.mg_of X G aC2,gS:=PySem.W.mg_none_of X G z_super,cls:=⟨_,_,_,_,_,_,_,_,_,_,_,_,_,_,_,xw2cls,xw2ref⟩,sa:=xw2sa,ga:=xw2ga,gg:=xw2gg,noN:=xw2noN,iC:=xw2iC,tC:=xw2tC,kC:=xw2kC,exC:=xw2exC,vaC:=xw2vaC,tyC:=xw2tyC,hdC:=xw2hdC,te:=PySem.W.exm_ref xw2exC xw2hdC xw2tyC xw2sf,op:=xw2op,su:=xw2su,ei:=xw2ei,mr:=xw2mr,fl:=⟨_,_,_,_,_,_,_,_,_,_,_,_,.none,.none,_,_,_,_,_,_,_,_,_,_,_,_,_,_,_,_,_,_,_,_,_,_,xw2fl,xw2cd,xw2co,xw2vs,xw2fi,xw2ce,rfl⟩,tp:=xw2tp }⟩,xnf2,xne1_2,⟨C2,W.mg_of X G aC2,xt1_ParseError⟩,⟨C0,W.mg_of X G aC0,xt1_TriremeError⟩,⟨C1,W.mg_of X G aC1,xt2_LimitError⟩,⟨C0,W.mg_of X G aC0,xt2_TriremeError⟩,⟨PySem.W.mg_none_of X G zz_ValueError,xt2_ValueError⟩⟩
 have F0:=L2.fun_mk (st:=s_law_start) l0 c0 k0
 have b0:=F0.binds (ps:=["script"]) fun _ _ _ _ _ _ us hl=>match us,hl with | [_],_=>rfl
 have F1:=L2.fun_mk (st:=s_check_sizes) l1 c1 k1
 have b1:=F1.binds (ps:=["program"]) fun _ _ _ _ _ _ us hl=>match us,hl with | [_],_=>rfl
 have F2:=L2.fun_mk (st:=s_read_number) l2 c2 k2
 have b2:=F2.binds (ps:=["word","least","greatest"]) fun _ _ _ _ _ _ us hl=>match us,hl with | [_,_,_],_=>rfl
 have F3:=L2.fun_mk (st:=s_read_operand) l3 c3 k3
 have b3:=F3.binds (ps:=["word"]) fun _ _ _ _ _ _ us hl=>match us,hl with | [_],_=>rfl
 have F4:=L2.fun_mk (st:=s_read_instruction) l4 c4 k4
 have b4:=F4.binds (ps:=["words"]) fun _ _ _ _ _ _ us hl=>match us,hl with | [_],_=>rfl
 have F5:=L2.fun_mk (st:=s_build) l5 c5 k5
 have b5:=F5.binds (ps:=["rows"]) fun _ _ _ _ _ _ us hl=>match us,hl with | [_],_=>rfl
 have F6:=L2.fun_mk (st:=s_is_natural) l6 c6 k6
 have b6:=F6.binds (ps:=["word"]) fun _ _ _ _ _ _ us hl=>match us,hl with | [_],_=>rfl
 have F7:=L2.fun_mk (st:=s_is_integer) l7 c7 k7
 have b7:=F7.binds (ps:=["word"]) fun _ _ _ _ _ _ us hl=>match us,hl with | [_],_=>rfl
 have F8:=L2.fun_mk (st:=s_is_register) l8 c8 k8
 have b8:=F8.binds (ps:=["word"]) fun _ _ _ _ _ _ us hl=>match us,hl with | [_],_=>rfl
 have F9:=L2.fun_mk (st:=s_is_written) l9 c9 k9
 have b9:=F9.binds (ps:=["part","word"]) fun _ _ _ _ _ _ us hl=>match us,hl with | [_,_],_=>rfl
 have F10:=L2.fun_mk (st:=s_form_of) l10 c10 k10
 have b10:=F10.binds (ps:=["word"]) fun _ _ _ _ _ _ us hl=>match us,hl with | [_],_=>rfl
 have F11:=L2.fun_mk (st:=s_has_form) l11 c11 k11
 have b11:=F11.binds (ps:=["words"]) fun _ _ _ _ _ _ us hl=>match us,hl with | [_],_=>rfl
 have F12:=L2.fun_mk (st:=s_may_stand) l12 c12 k12
 have b12:=F12.binds (ps:=["word","inside"]) fun _ _ _ _ _ _ us hl=>match us,hl with | [_,_],_=>rfl
 have F13:=L2.fun_mk (st:=s_check_forms) l13 c13 k13
 have b13:=F13.binds (ps:=["rows"]) fun _ _ _ _ _ _ us hl=>match us,hl with | [_],_=>rfl
 have F14:=L2.fun_mk (st:=s_words_of) l14 c14 k14
 have b14:=F14.binds (ps:=["line"]) fun _ _ _ _ _ _ us hl=>match us,hl with | [_],_=>rfl
 have F15:=L2.fun_mk (st:=s_parse) l15 c15 k15
 have b15:=F15.binds (ps:=["text"]) fun _ _ _ _ _ _ us hl=>match us,hl with | [_],_=>rfl
 have F16:=L2.fun_mk (st:=s_law_told) l16 c16 k16
 have b16:=F16.binds (ps:=["text"]) fun _ _ _ _ _ _ us hl=>match us,hl with | [_],_=>rfl
 have F17:=L2.fun_mk (st:=s_law_large) l17 c17 k17
 have b17:=F17.binds (ps:=["value"]) fun _ _ _ _ _ _ us hl=>match us,hl with | [_],_=>rfl
 have F18:=L2.fun_mk (st:=s_law_digits) l18 c18 k18
 have b18:=F18.binds (ps:=["word"]) fun _ _ _ _ _ _ us hl=>match us,hl with | [_],_=>rfl
 have F19:=L2.fun_mk (st:=s_law_register) l19 c19 k19
 have b19:=F19.binds (ps:=["word"]) fun _ _ _ _ _ _ us hl=>match us,hl with | [_],_=>rfl
 have F20:=L2.fun_mk (st:=s_law_read_operand) l20 c20 k20
 have b20:=F20.binds (ps:=["word"]) fun _ _ _ _ _ _ us hl=>match us,hl with | [_],_=>rfl
 have F21:=L2.fun_mk (st:=s_law_kinds) l21 c21 k21
 have b21:=F21.binds (ps:=[]) fun _ _ _ _ _ _ us hl=>match us,hl with | [],_=>rfl
 have F22:=L2.fun_mk (st:=s_law_read_line) l22 c22 k22
 have b22:=F22.binds (ps:=["words"]) fun _ _ _ _ _ _ us hl=>match us,hl with | [_],_=>rfl
 have F23:=L2.fun_mk (st:=s_law_read) l23 c23 k23
 have b23:=F23.binds (ps:=["lines"]) fun _ _ _ _ _ _ us hl=>match us,hl with | [_],_=>rfl
 have F24:=L2.fun_mk (st:=s_law_due) l24 c24 k24
 have b24:=F24.binds (ps:=["text"]) fun _ _ _ _ _ _ us hl=>match us,hl with | [_],_=>rfl
 have F25:=L2.fun_mk (st:=s_law_fill) l25 c25 k25
 have b25:=F25.binds (ps:=["c"]) fun _ _ _ _ _ _ us hl=>match us,hl with | [_],_=>rfl
 have F26:=L2.fun_mk (st:=s_law_take) l26 c26 k26
 have b26:=F26.binds (ps:=["c","many"]) fun _ _ _ _ _ _ us hl=>match us,hl with | [_,_],_=>rfl
 have F27:=L2.fun_mk (st:=s_law_spoilt_lines) l27 c27 k27
 have b27:=F27.binds (ps:=["c","lines"]) fun _ _ _ _ _ _ us hl=>match us,hl with | [_,_],_=>rfl
 have F28:=L2.fun_mk (st:=s_law_integer) l28 c28 k28
 have b28:=F28.binds (ps:=["c"]) fun _ _ _ _ _ _ us hl=>match us,hl with | [_],_=>rfl
 have F29:=L2.fun_mk (st:=s_law_operand) l29 c29 k29
 have b29:=F29.binds (ps:=["c","many"]) fun _ _ _ _ _ _ us hl=>match us,hl with | [_,_],_=>rfl
 have F30:=L2.fun_mk (st:=s_law_instruction) l30 c30 k30
 have b30:=F30.binds (ps:=["c","many"]) fun _ _ _ _ _ _ us hl=>match us,hl with | [_,_],_=>rfl
 have F31:=L2.fun_mk (st:=s_law_block) l31 c31 k31
 have b31:=F31.binds (ps:=["c","many","most"]) fun _ _ _ _ _ _ us hl=>match us,hl with | [_,_,_],_=>rfl
 have F32:=L2.fun_mk (st:=s_law_program) l32 c32 k32
 have b32:=F32.binds (ps:=["c","many","most"]) fun _ _ _ _ _ _ us hl=>match us,hl with | [_,_,_],_=>rfl
 have F33:=L2.fun_mk (st:=s_law_shown) l33 c33 k33
 have b33:=F33.binds (ps:=["part"]) fun _ _ _ _ _ _ us hl=>match us,hl with | [_],_=>rfl
 have F34:=L2.fun_mk (st:=s_law_line) l34 c34 k34
 have b34:=F34.binds (ps:=["one"]) fun _ _ _ _ _ _ us hl=>match us,hl with | [_],_=>rfl
 have F35:=L2.fun_mk (st:=s_law_lines) l35 c35 k35
 have b35:=F35.binds (ps:=["program"]) fun _ _ _ _ _ _ us hl=>match us,hl with | [_],_=>rfl
 have F36:=L2.fun_mk (st:=s_law) l36 c36 k36
 have b36:=F36.binds (ps:=["script"]) fun _ _ _ _ _ _ us hl=>match us,hl with | [_],_=>rfl
 refine⟨W.fnOf "law" "law" (defArgs s_law) (defBody s_law) (defScope s_law) .none kV36 dc36 pm36 an36 cd36 ct36,fun s v=>.of_eq rfl,fun base _ _=>?_⟩
 have o0:FnOk l.prog w K mg base CX0 1 f0 _ ["script"] (SpF K cl 1 f_law_start):=ok_law_start T F0 
 have c_law_start:C8.Cal l.prog w K mg base 1 "_law_start" (SpF K cl 1 f_law_start) []:=cal_of o0 (W.mg_of X G a0) k0 b0
 have o1:FnOk l.prog w K mg base (L2.CX l.prog w) 1 f1 _ ["program"] (SpW K cl 1 f_check_sizes):=ok_check_sizes T F1 
 have c_check_sizes:CalW l.prog w K mg base 1 "check_sizes" (SpW K cl 1 f_check_sizes):=⟨_,_,_,o1,W.mg_of X G a1,k1,b1⟩
 have o2:FnOk l.prog w K mg base (L2.CX l.prog w) 1 f2 _ ["word","least","greatest"] (SpW K cl 3 f_read_number):=ok_read_number T F2 
 have c_read_number:CalW l.prog w K mg base 1 "read_number" (SpW K cl 3 f_read_number):=⟨_,_,_,o2,W.mg_of X G a2,k2,b2⟩
 have o3:FnOk l.prog w K mg base (L2.CX l.prog w) 2 f3 _ ["word"] (SpW K cl 1 f_read_operand):=ok_read_operand T F3 c_read_number
 have c_read_operand:CalW l.prog w K mg base 2 "read_operand" (SpW K cl 1 f_read_operand):=⟨_,_,_,o3,W.mg_of X G a3,k3,b3⟩
 have o4:FnOk l.prog w K mg base (L2.CX l.prog w) 3 f4 _ ["words"] (SpW K cl 1 f_read_instruction):=ok_read_instruction T F4 c_read_operand
 have c_read_instruction:CalW l.prog w K mg base 3 "read_instruction" (SpW K cl 1 f_read_instruction):=⟨_,_,_,o4,W.mg_of X G a4,k4,b4⟩
 have o5:FnOk l.prog w K mg base (L2.CX l.prog w) 4 f5 _ ["rows"] (SpW K cl 1 f_build):=ok_build T F5 c_read_operand c_read_instruction
 have c_build:CalW l.prog w K mg base 4 "build" (SpW K cl 1 f_build):=⟨_,_,_,o5,W.mg_of X G a5,k5,b5⟩
 have o6:FnOk l.prog w K mg base CX0 1 f6 _ ["word"] (SpF K cl 1 f_is_natural):=ok_is_natural T F6 
 have c_is_natural:C8.Cal l.prog w K mg base 1 "is_natural" (SpF K cl 1 f_is_natural) []:=cal_of o6 (W.mg_of X G a6) k6 b6
 have o7:FnOk l.prog w K mg base CX0 2 f7 _ ["word"] (SpF K cl 1 f_is_integer):=ok_is_integer T F7 c_is_natural
 have c_is_integer:C8.Cal l.prog w K mg base 2 "is_integer" (SpF K cl 1 f_is_integer) []:=cal_of o7 (W.mg_of X G a7) k7 b7
 have o8:FnOk l.prog w K mg base CX0 2 f8 _ ["word"] (SpF K cl 1 f_is_register):=ok_is_register T F8 c_is_natural
 have c_is_register:C8.Cal l.prog w K mg base 2 "is_register" (SpF K cl 1 f_is_register) []:=cal_of o8 (W.mg_of X G a8) k8 b8
 have o9:FnOk l.prog w K mg base CX0 3 f9 _ ["part","word"] (SpF K cl 2 f_is_written):=ok_is_written T F9 c_is_integer c_is_register
 have c_is_written:C8.Cal l.prog w K mg base 3 "is_written" (SpF K cl 2 f_is_written) []:=cal_of o9 (W.mg_of X G a9) k9 b9
 have o10:FnOk l.prog w K mg base CX0 1 f10 _ ["word"] (SpF K cl 1 f_form_of):=ok_form_of T F10 
 have c_form_of:C8.Cal l.prog w K mg base 1 "form_of" (SpF K cl 1 f_form_of) []:=cal_of o10 (W.mg_of X G a10) k10 b10
 have o11:FnOk l.prog w K mg base CX0 4 f11 _ ["words"] (SpF K cl 1 f_has_form):=ok_has_form T F11 c_is_written c_form_of
 have c_has_form:C8.Cal l.prog w K mg base 4 "has_form" (SpF K cl 1 f_has_form) []:=cal_of o11 (W.mg_of X G a11) k11 b11
 have o12:FnOk l.prog w K mg base CX0 1 f12 _ ["word","inside"] (SpF K cl 2 f_may_stand):=ok_may_stand T F12 
 have c_may_stand:C8.Cal l.prog w K mg base 1 "may_stand" (SpF K cl 2 f_may_stand) []:=cal_of o12 (W.mg_of X G a12) k12 b12
 have o13:FnOk l.prog w K mg base (L2.CX l.prog w) 5 f13 _ ["rows"] (SpW K cl 1 f_check_forms):=ok_check_forms T F13 c_has_form c_may_stand
 have c_check_forms:CalW l.prog w K mg base 5 "check_forms" (SpW K cl 1 f_check_forms):=⟨_,_,_,o13,W.mg_of X G a13,k13,b13⟩
 have o14:FnOk l.prog w K mg base CX0 1 f14 _ ["line"] (SpF K cl 1 f_words_of):=ok_words_of T F14 
 have c_words_of:C8.Cal l.prog w K mg base 1 "words_of" (SpF K cl 1 f_words_of) []:=cal_of o14 (W.mg_of X G a14) k14 b14
 have o15:FnOk l.prog w K mg base (L2.CX l.prog w) 6 f15 _ ["text"] (SpW K cl 1 f_parse):=ok_parse T F15 c_check_sizes c_build c_check_forms c_words_of
 have c_parse:CalW l.prog w K mg base 6 "parse" (SpW K cl 1 f_parse):=⟨_,_,_,o15,W.mg_of X G a15,k15,b15⟩
 have o16:FnOk l.prog w K mg base CX0 7 f16 _ ["text"] (SpF K cl 1 f_law_told):=ok_law_told T F16 c_parse
 have c_law_told:C8.Cal l.prog w K mg base 7 "_law_told" (SpF K cl 1 f_law_told) []:=cal_of o16 (W.mg_of X G a16) k16 b16
 have o17:FnOk l.prog w K mg base CX0 21 f17 _ ["value"] (SpF K cl 1 f_law_large):=okr_law_large T F17 (W.mg_of X G a17) b17  20
 have c_law_large:C8.Cal l.prog w K mg base 21 "_law_large" (SpF K cl 1 f_law_large) []:=cal_of o17 (W.mg_of X G a17) k17 b17
 have o18:FnOk l.prog w K mg base CX0 1 f18 _ ["word"] (SpF K cl 1 f_law_digits):=ok_law_digits T F18 
 have c_law_digits:C8.Cal l.prog w K mg base 1 "_law_digits" (SpF K cl 1 f_law_digits) []:=cal_of o18 (W.mg_of X G a18) k18 b18
 have o19:FnOk l.prog w K mg base CX0 2 f19 _ ["word"] (SpF K cl 1 f_law_register):=ok_law_register T F19 c_law_digits
 have c_law_register:C8.Cal l.prog w K mg base 2 "_law_register" (SpF K cl 1 f_law_register) []:=cal_of o19 (W.mg_of X G a19) k19 b19
 have o20:FnOk l.prog w K mg base CX0 3 f20 _ ["word"] (SpF K cl 1 f_law_read_operand):=ok_law_read_operand T F20 c_law_digits c_law_register
 have c_law_read_operand:C8.Cal l.prog w K mg base 3 "_law_read_operand" (SpF K cl 1 f_law_read_operand) []:=cal_of o20 (W.mg_of X G a20) k20 b20
 have o21:FnOk l.prog w K mg base CX0 1 f21 _ [] (SpF K cl 0 f_law_kinds):=ok_law_kinds T F21 
 have c_law_kinds:C8.Cal l.prog w K mg base 1 "_law_kinds" (SpF K cl 0 f_law_kinds) []:=cal_of o21 (W.mg_of X G a21) k21 b21
 have o22:FnOk l.prog w K mg base CX0 4 f22 _ ["words"] (SpF K cl 1 f_law_read_line):=ok_law_read_line T F22 c_law_register c_law_read_operand c_law_kinds
 have c_law_read_line:C8.Cal l.prog w K mg base 4 "_law_read_line" (SpF K cl 1 f_law_read_line) []:=cal_of o22 (W.mg_of X G a22) k22 b22
 have o23:FnOk l.prog w K mg base CX0 5 f23 _ ["lines"] (SpF K cl 1 f_law_read):=ok_law_read T F23 c_law_read_operand c_law_read_line
 have c_law_read:C8.Cal l.prog w K mg base 5 "_law_read" (SpF K cl 1 f_law_read) []:=cal_of o23 (W.mg_of X G a23) k23 b23
 have o24:FnOk l.prog w K mg base CX0 22 f24 _ ["text"] (SpF K cl 1 f_law_due):=ok_law_due T F24 c_law_large c_law_read
 have c_law_due:C8.Cal l.prog w K mg base 22 "_law_due" (SpF K cl 1 f_law_due) []:=cal_of o24 (W.mg_of X G a24) k24 b24
 have o25:FnOk l.prog w K mg base CX0 1 f25 _ ["c"] (SpF K cl 1 f_law_fill):=ok_law_fill T F25 
 have c_law_fill:C8.Cal l.prog w K mg base 1 "_law_fill" (SpF K cl 1 f_law_fill) []:=cal_of o25 (W.mg_of X G a25) k25 b25
 have o26:FnOk l.prog w K mg base CX0 2 f26 _ ["c","many"] (SpF K cl 2 f_law_take):=ok_law_take T F26 c_law_fill
 have c_law_take:C8.Cal l.prog w K mg base 2 "_law_take" (SpF K cl 2 f_law_take) []:=cal_of o26 (W.mg_of X G a26) k26 b26
 have o27:FnOk l.prog w K mg base CX0 3 f27 _ ["c","lines"] (SpF K cl 2 f_law_spoilt_lines):=ok_law_spoilt_lines T F27 c_law_take
 have c_law_spoilt_lines:C8.Cal l.prog w K mg base 3 "_law_spoilt_lines" (SpF K cl 2 f_law_spoilt_lines) []:=cal_of o27 (W.mg_of X G a27) k27 b27
 have o28:FnOk l.prog w K mg base CX0 3 f28 _ ["c"] (SpF K cl 1 f_law_integer):=ok_law_integer T F28 c_law_take
 have c_law_integer:C8.Cal l.prog w K mg base 3 "_law_integer" (SpF K cl 1 f_law_integer) []:=cal_of o28 (W.mg_of X G a28) k28 b28
 have o29:FnOk l.prog w K mg base CX0 4 f29 _ ["c","many"] (SpF K cl 2 f_law_operand):=ok_law_operand T F29 c_law_integer c_law_take
 have c_law_operand:C8.Cal l.prog w K mg base 4 "_law_operand" (SpF K cl 2 f_law_operand) []:=cal_of o29 (W.mg_of X G a29) k29 b29
 have o30:FnOk l.prog w K mg base CX0 5 f30 _ ["c","many"] (SpF K cl 2 f_law_instruction):=ok_law_instruction T F30 c_law_operand c_law_take
 have c_law_instruction:C8.Cal l.prog w K mg base 5 "_law_instruction" (SpF K cl 2 f_law_instruction) []:=cal_of o30 (W.mg_of X G a30) k30 b30
 have o31:FnOk l.prog w K mg base CX0 6 f31 _ ["c","many","most"] (SpF K cl 3 f_law_block):=ok_law_block T F31 c_law_take c_law_instruction
 have c_law_block:C8.Cal l.prog w K mg base 6 "_law_block" (SpF K cl 3 f_law_block) []:=cal_of o31 (W.mg_of X G a31) k31 b31
 have o32:FnOk l.prog w K mg base CX0 7 f32 _ ["c","many","most"] (SpF K cl 3 f_law_program):=ok_law_program T F32 c_law_take c_law_instruction c_law_block c_law_integer
 have c_law_program:C8.Cal l.prog w K mg base 7 "_law_program" (SpF K cl 3 f_law_program) []:=cal_of o32 (W.mg_of X G a32) k32 b32
 have o33:FnOk l.prog w K mg base CX0 1 f33 _ ["part"] (SpF K cl 1 f_law_shown):=ok_law_shown T F33 
 have c_law_shown:C8.Cal l.prog w K mg base 1 "_law_shown" (SpF K cl 1 f_law_shown) []:=cal_of o33 (W.mg_of X G a33) k33 b33
 have o34:FnOk l.prog w K mg base CX0 2 f34 _ ["one"] (SpF K cl 1 f_law_line):=ok_law_line T F34 c_law_shown
 have c_law_line:C8.Cal l.prog w K mg base 2 "_law_line" (SpF K cl 1 f_law_line) []:=cal_of o34 (W.mg_of X G a34) k34 b34
 have o35:FnOk l.prog w K mg base CX0 3 f35 _ ["program"] (SpF K cl 1 f_law_lines):=ok_law_lines T F35 c_law_line c_law_shown
 have c_law_lines:C8.Cal l.prog w K mg base 3 "_law_lines" (SpF K cl 1 f_law_lines) []:=cal_of o35 (W.mg_of X G a35) k35 b35
 have o36:FnOk l.prog w K mg base CX0 23 _ _ ["script"] (SpF K cl 1 f_law):=ok_law T F36 c_law_start c_law_told c_law_due c_law_take c_law_spoilt_lines c_law_lines c_law_program
 exact o36.imp (law_sp hF)
end Gen
end
section
namespace V2
open Rf L2 PySem
theorem tne:¬("add":Str)="and"∧¬("add":Str)="less"∧¬("add":Str)="load"∧¬("add":Str)="mul"∧¬("add":Str)="out"∧¬("add":Str)="store"∧¬("add":Str)="sub"∧¬("add":Str)="reg"∧¬("add":Str)="int"∧¬("add":Str)="operand"∧¬("add":Str)="target"∧¬("add":Str)="memory"∧¬("and":Str)="add"∧¬("and":Str)="less"∧¬("and":Str)="load"∧¬("and":Str)="mul"∧¬("and":Str)="out"∧¬("and":Str)="store"∧¬("and":Str)="sub"∧¬("and":Str)="reg"∧¬("and":Str)="int"∧¬("and":Str)="operand"∧¬("and":Str)="target"∧¬("and":Str)="memory"∧¬("less":Str)="add"∧¬("less":Str)="and"∧¬("less":Str)="load"∧¬("less":Str)="mul"∧¬("less":Str)="out"∧¬("less":Str)="store"∧¬("less":Str)="sub"∧¬("less":Str)="reg"∧¬("less":Str)="int"∧¬("less":Str)="operand"∧¬("less":Str)="target"∧¬("less":Str)="memory"∧¬("load":Str)="add"∧¬("load":Str)="and"∧¬("load":Str)="less"∧¬("load":Str)="mul"∧¬("load":Str)="out"∧¬("load":Str)="store"∧¬("load":Str)="sub"∧¬("load":Str)="reg"∧¬("load":Str)="int"∧¬("load":Str)="operand"∧¬("load":Str)="target"∧¬("load":Str)="memory"∧¬("mul":Str)="add"∧¬("mul":Str)="and"∧¬("mul":Str)="less"∧¬("mul":Str)="load"∧¬("mul":Str)="out"∧¬("mul":Str)="store"∧¬("mul":Str)="sub"∧¬("mul":Str)="reg"∧¬("mul":Str)="int"∧¬("mul":Str)="operand"∧¬("mul":Str)="target"∧¬("mul":Str)="memory"∧¬("out":Str)="add"∧¬("out":Str)="and"∧¬("out":Str)="less"∧¬("out":Str)="load"∧¬("out":Str)="mul"∧¬("out":Str)="store"∧¬("out":Str)="sub"∧¬("out":Str)="reg"∧¬("out":Str)="int"∧¬("out":Str)="operand"∧¬("out":Str)="target"∧¬("out":Str)="memory"∧¬("store":Str)="add"∧¬("store":Str)="and"∧¬("store":Str)="less"∧¬("store":Str)="load"∧¬("store":Str)="mul"∧¬("store":Str)="out"∧¬("store":Str)="sub"∧¬("store":Str)="reg"∧¬("store":Str)="int"∧¬("store":Str)="operand"∧¬("store":Str)="target"∧¬("store":Str)="memory"∧¬("sub":Str)="add"∧¬("sub":Str)="and"∧¬("sub":Str)="less"∧¬("sub":Str)="load"∧¬("sub":Str)="mul"∧¬("sub":Str)="out"∧¬("sub":Str)="store"∧¬("sub":Str)="reg"∧¬("sub":Str)="int"∧¬("sub":Str)="operand"∧¬("sub":Str)="target"∧¬("sub":Str)="memory"∧¬("reg":Str)="add"∧¬("reg":Str)="and"∧¬("reg":Str)="less"∧¬("reg":Str)="load"∧¬("reg":Str)="mul"∧¬("reg":Str)="out"∧¬("reg":Str)="store"∧¬("reg":Str)="sub"∧¬("reg":Str)="int"∧¬("reg":Str)="operand"∧¬("reg":Str)="target"∧¬("reg":Str)="memory"∧¬("int":Str)="add"∧¬("int":Str)="and"∧¬("int":Str)="less"∧¬("int":Str)="load"∧¬("int":Str)="mul"∧¬("int":Str)="out"∧¬("int":Str)="store"∧¬("int":Str)="sub"∧¬("int":Str)="reg"∧¬("int":Str)="operand"∧¬("int":Str)="target"∧¬("int":Str)="memory"∧¬("operand":Str)="add"∧¬("operand":Str)="and"∧¬("operand":Str)="less"∧¬("operand":Str)="load"∧¬("operand":Str)="mul"∧¬("operand":Str)="out"∧¬("operand":Str)="store"∧¬("operand":Str)="sub"∧¬("operand":Str)="reg"∧¬("operand":Str)="int"∧¬("operand":Str)="target"∧¬("operand":Str)="memory"∧¬("target":Str)="add"∧¬("target":Str)="and"∧¬("target":Str)="less"∧¬("target":Str)="load"∧¬("target":Str)="mul"∧¬("target":Str)="out"∧¬("target":Str)="store"∧¬("target":Str)="sub"∧¬("target":Str)="reg"∧¬("target":Str)="int"∧¬("target":Str)="operand"∧¬("target":Str)="memory"∧¬("memory":Str)="add"∧¬("memory":Str)="and"∧¬("memory":Str)="less"∧¬("memory":Str)="load"∧¬("memory":Str)="mul"∧¬("memory":Str)="out"∧¬("memory":Str)="store"∧¬("memory":Str)="sub"∧¬("memory":Str)="reg"∧¬("memory":Str)="int"∧¬("memory":Str)="operand"∧¬("memory":Str)="target":=by
 (repeat' apply And.intro)<;>decide +kernel
section
variable {v:Env2}{c:Cs}{a b d:E2}{t u:T2}{r s:S2}{i n:Nat}{as:A2}{F:F2}
theorem q_var:Yv i v c=match v[i]? with
 | some (some (.v d))=>some (d,c)
 | _=>none:=rfl
theorem q_pk:yPk i v c=match v[i]? with
 | some (some (.v d))=>some (d,c)
 | some (some (.o ds))=>some (.lst ds,c)
 | _=>none:=rfl
theorem q_c {x:DV}:yC x v c=some (x,c):=rfl
theorem q_1 {g:DV→Option DV}:y1 g a v c=(a v c).bind fun r=>(g r.1).map fun d=>(d,r.2):=rfl
theorem q_2 {g:DV→DV→Option DV}:y2 g a b v c=(a v c).bind fun r=>(b v r.2).bind fun s=>(g r.1 s.1).map fun d=>(d,s.2):=rfl
theorem q_nil:Zn v c=some ([],c):=rfl
theorem q_cons:zCons a as v c=(a v c).bind fun x=>(as v x.2).bind fun xs=>some (x.1::xs.1,xs.2):=rfl
theorem q_call:Yc n F as v c=(as v c).bind fun r=>if r.1.length=n then F r.1 r.2 else none:=rfl
theorem q_tup:yTup as v c=(as v c).bind fun r=>if r.1.length≤sizeLine then some (.tup r.1,r.2) else none:=rfl
theorem q_lst:yLst as v c=(as v c).bind fun r=>if r.1.length≤sizeLine then some (.lst r.1,r.2) else none:=rfl
theorem q_if:yIf t a b v c=(t v c).bind fun r=>if r.1=true then a v r.2 else b v r.2:=rfl
theorem q_nt:yNt a v c=(a v c).bind fun r=>match r.1 with
 | .bl b=>some (.bl (!b),r.2)
 | _=>none:=rfl
theorem q_an:yAn a b v c=(a v c).bind fun r=>match r.1 with
 | .bl k=>if k=true then b v r.2 else some (.bl false,r.2)
 | _=>none:=rfl
theorem q_or:yOr a b v c=(a v c).bind fun r=>match r.1 with
 | .bl k=>if k=true then some (.bl true,r.2) else b v r.2
 | _=>none:=rfl
theorem q_ubl:uBl a v c=(a v c).bind fun r=>match r.1 with
 | .bl b=>some (b,r.2)
 | _=>none:=rfl
theorem q_unt:uNt t v c=(t v c).map fun r=>(!r.1,r.2):=rfl
theorem q_uan:uAn t u v c=(t v c).bind fun r=>if r.1=true then u v r.2 else some (false,r.2):=rfl
theorem q_uor:uOr t u v c=(t v c).bind fun r=>if r.1=true then some (true,r.2) else u v r.2:=rfl
theorem q_uys:uYs v c=some (true,c):=rfl
theorem q_utru:uTru a v c=(a v c).bind fun r=>(truV r.1).map fun k=>(k,r.2):=rfl
theorem q_nx:rNx v c=some (.nx,v,c):=rfl
theorem q_ct:rCt v c=some (.ct,v,c):=rfl
theorem q_bk:rBk v c=some (.bk,v,c):=rfl
theorem q_sq:rSq r s v c=(r v c).bind fun x=>match x.1 with
 | .nx=>s x.2.1 x.2.2
 | _=>some x:=rfl
theorem q_ex:rEx a v c=(a v c).bind fun r=>some (.nx,v,r.2):=rfl
theorem q_rt:rRt a v c=(a v c).bind fun r=>some (.rt r.1,v,r.2):=rfl
theorem q_rn:rRn v c=some (.rt .non,v,c):=rfl
theorem q_ro:rRo i v c=match v[i]? with
 | some (some (.o ds))=>some (.rt (.lst ds),v,c)
 | _=>none:=rfl
theorem q_rif:rIf t r s v c=(t v c).bind fun x=>if x.1=true then r v x.2 else s v x.2:=rfl
theorem q_as:rAs i a v c=(a v c).bind fun r=>some (.nx,v.set i (some (.v r.1)),r.2):=rfl
theorem q_ao:rAo i a v c=(a v c).bind fun r=>match r.1 with
 | .lst ds=>some (.nx,v.set i (some (.o ds)),r.2)
 | _=>none:=rfl
theorem q_ap {g:P2}:rAp g a v c=(a v c).bind fun r=>(g r.1 v).map fun v'=>(.nx,v',r.2):=rfl
theorem q_fz:rFz i v c=match v[i]? with
 | some (some (.o ds))=>some (.nx,v.set i (some (.v (.lst ds))),c)
 | _=>some (.nx,v,c):=rfl
theorem q_si:rSi i b a v c=(a v c).bind fun r=>(b v r.2).bind fun s=>match v[i]?,s.1 with
 | some (some (.o ds)),.int z=>(ixN ds.length z).map fun j=>(.nx,v.set i (some (.o (ds.set j r.1))),s.2)
 | _,_=>none:=rfl
theorem q_ae:rAe i a v c=(a v c).bind fun r=>match v[i]? with
 | some (some (.o ds))=>if ds.length<sizeLine then some (.nx,v.set i (some (.o (ds++[r.1]))),r.2) else none
 | _=>none:=rfl
theorem q_for {it:I2}{g:P2}:rFor it g r v c=(it v c).bind fun x=>forW g r x.1 v x.2:=rfl
theorem q_jany:jAny a v c=(a v c).bind fun r=>(itV r.1).map fun ds=>(ds,r.2):=rfl
theorem q_jrg1:jRg1 a v c=(a v c).bind fun r=>match r.1 with
 | .int j=>if -(2 ^ 62)≤j∧j<2 ^ 62 then some (rangeD 0 j.toNat,r.2) else none
 | _=>none:=rfl
theorem q_jrg2:jRg2 a b v c=(a v c).bind fun r=>(b v r.2).bind fun s=>match r.1,s.1 with
 | .int i,.int j=>if -(2 ^ 62)≤i∧i<2 ^ 62 ∧ -(2 ^ 62)≤j∧j<2 ^ 62 then some (rangeD i (j-i).toNat,s.2) else none
 | _,_=>none:=rfl
theorem q_jen:jEn a v c=(a v c).bind fun r=>(itS r.1).map fun ds=>(enD 0 ds,r.2):=rfl
theorem q_jzp:jZp a b v c=(a v c).bind fun r=>(b v r.2).bind fun s=>(itS r.1).bind fun ds=>(itS s.1).map fun es=>(zipD ds es,s.2):=rfl
theorem q_qnm {x:DV}:qNm i x v=some (v.set i (some (.v x))):=rfl
theorem q_qtp {g:Ps2}{ds:List DV}:qTp n g (.tup ds) v=if ds.length=n then g ds v else none:=rfl
theorem q_qnil:qNil [] v=some v:=rfl
theorem q_qcons {g:P2}{h:Ps2}{x:DV}{xs:List DV}:qCons g h (x::xs) v=(g x v).bind fun e=>h xs e:=rfl
theorem q_lc {vs:List Nat}{it:I2}{g:P2}:yLc vs it g t a v c=(it v c).bind fun r=>if r.1.length≤sizeLine then(lcW g t a (wipe2 v vs) r.1 r.2).map fun o=>(.lst o.1,o.2) else none:=rfl
theorem q_lc0 {g:P2}:lcW g t a v [] c=some ([],c):=rfl
theorem q_lc1 {g:P2}{x:DV}{xs:List DV}:lcW g t a v (x::xs) c=(g x v).bind fun v'=>(t v' c).bind fun r=>if r.1=true then(a v' r.2).bind fun s=>(lcW g t a v xs s.2).map fun o=>(s.1::o.1,o.2) else lcW g t a v xs r.2:=rfl
theorem q_for0 {g:P2}:forW g r [] v c=some (.nx,v,c):=rfl
theorem q_for1 {g:P2}{x:DV}{xs:List DV}:forW g r (x::xs) v c=(g x v).bind fun v'=>(r v' c).bind fun s=>match s.1 with
  | .nx=>forW g r xs s.2.1 s.2.2
  | .ct=>forW g r xs s.2.1 s.2.2
  | .bk=>some (.nx,s.2)
  | .rt _=>some s:=rfl
theorem q_fn {b:S2}{ds:List DV}:fn2 n b ds c=(b (start2 n ds) c).bind fun r=>match r.1 with
 | .nx=>some (.non,r.2.2)
 | .rt d=>some (d,r.2.2)
 | _=>none:=rfl
theorem q_fnf {b:S2}{ds:List DV}:fn2f n b ds c=(b (start2 n ds) c).bind fun r=>match r.1 with
 | .rt d=>some (d,r.2.2)
 | _=>none:=rfl
theorem q_start {ds:List DV}:start2 n ds=ds.map (fun d=>some (.v d))++List.replicate (n-ds.length) none:=rfl
theorem q_on:oN2 v c=some (none,c):=rfl
theorem q_os:oS2 a v c=(a v c).bind fun r=>match r.1 with
 | .int i=>some (some i,r.2)
 | _=>none:=rfl
theorem q_sl {lo hi:O2}:ySl a lo hi v c=(a v c).bind fun r=>(lo v r.2).bind fun s=>(hi v s.2).bind fun t=>match r.1 with
 | .tup ds=>some (.tup (cutD ds s.1 t.1),t.2)
 | .str z=>if z.length≤sizeLine then some (.str (cutS z s.1 t.1),t.2) else none
 | _=>none:=rfl
theorem q_mxD:yMxD a b v c=(a v c).bind fun r=>(b v r.2).bind fun s=>match r.1 with
 | .lst ds=>(intsD ds).map fun is=>((is.max?.map .int).getD s.1,s.2)
 | _=>none:=rfl
theorem q_wipe1:wipe2 v [i]=v.set i none:=rfl
theorem q_wipe2 {j:Nat}:wipe2 v [i,j]=(v.set j none).set i none:=rfl
theorem q_wipe3 {j k:Nat}:wipe2 v [i,j,k]=((v.set k none).set j none).set i none:=rfl
end
theorem sh_int (i:Int):SeqAt.shaped (.int i)=true:=rfl
theorem eqVB_int (i j:Int):eqVB (.int i) (.int j)=some (decide (i=j)):=by
 show eqVBg _ _=_
 unfold eqVBg;simp only [toDVm,toDV,zob,sh_int,and_self,if_true,PyData.eqv]
 first|rfl|(congr 1;rw [Bool.eq_iff_iff];simp)
theorem eqVB_str (i j:Str):eqVB (.str i) (.str j)=some (decide (i=j)):=rfl
theorem eqV_int (i j:Int):eqV (.int i) (.int j)=some (.bl (decide (i=j))):=by unfold eqV;rw [eqVB_int];rfl
theorem eqV_str (i j:Str):eqV (.str i) (.str j)=some (.bl (decide (i=j))):=by unfold eqV;rw [eqVB_str];rfl
theorem neV_int (i j:Int):neV (.int i) (.int j)=some (.bl (!decide (i=j))):=by unfold neV;rw [eqVB_int];rfl
theorem neV_str (i j:Str):neV (.str i) (.str j)=some (.bl (!decide (i=j))):=by unfold neV;rw [eqVB_str];rfl
theorem blsD_map (bs:List Bool):blsD (bs.map .bl)=some bs:=by
 induction bs with
 | nil=>rfl
 | cons b bs ih=>rw [zmc,blsD,ih];rfl
theorem lc_map {α:Type}{g:P2}{t:T2}{a:E2}{v:Env2}{c:Cs}(e:α→DV)(f:α→Option DV):∀xs:List α,(∀x∈xs,∃v',g (e x) v=some v'∧((f x=none∧t v' c=some (false,c))∨∃d,f x=some d∧t v' c=some (true,c)∧a v' c=some (d,c)))→
  lcW g t a v (xs.map e) c=some (xs.filterMap f,c)
 | [],_=>rfl
 | x::xs,h=>by
  have ih:=lc_map e f xs fun y m=>h y (zmt _ m)
  obtain⟨v',h1,h2⟩:=h x zms
  rw [zmc,q_lc1,h1]
  simp only [zob]
  rcases h2 with⟨h2,h3⟩|⟨d,h2,h3,h4⟩
  ·rw [h3,List.filterMap_cons,h2]
   simp only [zob,Bool.false_eq_true,if_false]
   exact ih
  ·rw [h3,List.filterMap_cons,h2]
   simp only [zob,if_true]
   rw [h4]
   simp only [zob]
   rw [ih];rfl
theorem lc_all {α:Type}{g:P2}{a:E2}{v:Env2}{c:Cs}(e:α→DV)(f:α→DV)(xs:List α)(h:∀x∈xs,∃v',g (e x) v=some v'∧a v' c=some (f x,c)):lcW g uYs a v (xs.map e) c=some (xs.map f,c):=by
 rw [lc_map e (fun x=>some (f x)) xs fun x m=>let ⟨v',h1,h2⟩:=h x m;⟨v',h1,.inr ⟨_,rfl,rfl,h2⟩⟩]
 congr 2
 induction xs with
 | nil=>rfl
 | cons x xs ih=>simp [List.filterMap_cons]
end V2
end
section
namespace Gen
open Rf L2 V2
open PySem (Str)
theorem zl (n:Nat)(h:n≤1000000):(n≤PySem.sizeLine)=True:=eq_true (znt h (by decide))
theorem zlt (n:Nat)(h:n≤1000):(n<PySem.sizeLine)=True:=eq_true (Nat.lt_of_lt_of_le (show n<1000000 by omega) (by decide))
def Bd (n:Int):Prop := -2147483648≤n∧n≤2147483647
abbrev TS' (l:List Nat):Str:=SX.S l
def numI (n:Int):List Nat:=if n<0 then 45::TL.numL n.natAbs else TL.numL n.natAbs
theorem str_int (n:Int):PySem.Str.ofString (toString n)=TS' (numI n):=by
 cases n with
 | ofNat k=>
  have:numI (Int.ofNat k)=TL.numL k:=by
   unfold numI
   rw [if_neg (show ¬Int.ofNat k<0 from Int.not_lt.mpr (Int.natCast_nonneg k))]
   rfl
  rw [this]
  exact SX.num_S k
 | negSucc k=>
  have:numI (Int.negSucc k)=45::TL.numL (k+1):=by
   unfold numI
   rw [if_pos (Int.negSucc_lt_zero k)]
   rfl
  rw [this]
  apply TL.ext_tl
  rw [TL.tl_ofString]
  have e1:toString (Int.negSucc k)="-"++toString (((k+1:Nat):Int)):=rfl
  have e2:=TL.tl_num (k+1)
  rw [TL.tl_ofString] at e2
  rw [e1,String.toList_append,zmq,e2]
  rfl
theorem numI_pos {n:Int}(h:0≤n):numI n=TL.numL n.toNat:=by
 unfold numI
 rw [if_neg (by omega),show n.natAbs=n.toNat by omega]
theorem numI_neg {n:Int}(h:n<0):numI n=45::TL.numL (-n).toNat:=by
 unfold numI
 rw [if_pos h,show n.natAbs=(-n).toNat by omega]
theorem numI_len {n:Int}(h:Bd n):(numI n).length≤11:=by
 obtain⟨h1,h2⟩:=h
 rcases Int.lt_or_le n 0 with h3|h3
 ·rw [numI_neg h3,zlc]
  have:=TL.numL_len (n:=(-n).toNat) (k:=10) (by decide) (by omega)
  omega
 ·rw [numI_pos h3]
  have:=TL.numL_len (n:=n.toNat) (k:=10) (by decide) (by omega)
  omega
def okc (c:Nat):Prop:=(48≤c∧c≤57)∨(97≤c∧c≤122)∨c=45
def Wd (w:List Nat):Prop:=w≠[]∧w.length≤12∧∀c∈w,okc c
theorem numL_ok (n:Nat):∀c∈TL.numL n,okc c:=fun c hc=>.inl (TL.numL_digits n c hc)
theorem numI_ok (n:Int):∀c∈numI n,okc c:=fun c hc=>by
 rcases Int.lt_or_le n 0 with h3|h3
 ·rw [numI_neg h3] at hc
  rcases zmo hc with rfl|hc
  ·exact .inr (.inr rfl)
  ·exact numL_ok _ c hc
 ·rw [numI_pos h3] at hc
  exact numL_ok _ c hc
theorem numI_ne (n:Int):numI n≠[]:=by
 rcases Int.lt_or_le n 0 with h3|h3
 ·rw [numI_neg h3];simp
 ·rw [numI_pos h3];exact TL.numL_ne _
theorem wd_num {n:Int}(h:Bd n):Wd (numI n):=⟨numI_ne n,by have:=numI_len h;omega,numI_ok n⟩
theorem wd_reg {n:Int}(h:Bd n):Wd (114::numI n):=⟨by simp,by have:=numI_len h;simp;omega,fun c hc=>by
 rcases zmo hc with rfl|hc
 ·exact .inr (.inl (by omega))
 ·exact numI_ok n c hc⟩
theorem wd_lit {k:List Nat}(h:(decide (k≠[])&&decide (k.length≤12)&&k.all fun c=>decide (97≤c)&&decide (c≤122))=true):Wd k:=by
 rw [Bool.and_eq_true,Bool.and_eq_true,decide_eq_true_eq,decide_eq_true_eq,List.all_eq_true] at h
 refine⟨h.1.1,h.1.2,fun c hc=>?_⟩
 have:=h.2 c hc
 rw [Bool.and_eq_true,decide_eq_true_eq,decide_eq_true_eq] at this
 exact .inr (.inl this)
def nonE (w:List Nat):Bool:=decide (w≠[])
def wordsOf (t:List Nat):List (List Nat):=(TL.spl [32] 0 [] ((TL.spl [35] 0 [] t).headD [])).filter nonE
theorem spl_head {s:Nat}{p rest:List Nat}(h:s∉p):TL.spl [s] 0 [] (p++s::rest)=p::TL.spl [s] 0 [] rest:=by
 have:=TL.spl_part1 (s:=s) (S:=[]) (p:=p) (rest:=rest) (acc:=[]) h
 simpa using this
theorem spl_one {s:Nat}{p:List Nat}(h:s∉p):TL.spl [s] 0 [] p=[p]:=by
 have:=TL.spl_last1 (s:=s) (S:=[]) (p:=p) (acc:=[]) h
 simpa using this
theorem head_cut {p r:List Nat}(h:35∉p)(hr:r=[]∨∃q,r=35::q):(TL.spl [35] 0 [] (p++r)).headD []=p:=by
 rcases hr with rfl|⟨q,rfl⟩
 ·rw [List.append_nil,spl_one h];rfl
 ·rw [spl_head h];rfl
theorem join_free {g:Nat}{c:Nat}(hc:c≠32)(h0:¬okc c):∀ws:List (List Nat),(∀w∈ws,Wd w)→c∉TL.joinL (List.replicate g 32) ws
 | [],_=>by simp [TL.joinL]
 | [w],h=>fun m=>h0 ((h w zms).2.2 c m)
 | w::v::ws,h=>fun m=>by
  rcases zma (show c∈w++(List.replicate g 32++TL.joinL (List.replicate g 32) (v::ws)) from m) with m|m
  ·exact h0 ((h w zms).2.2 c m)
  ·rcases zma m with m|m
   ·exact hc (List.eq_of_mem_replicate m)
   ·exact join_free hc h0 (v::ws) (fun u hu=>h u (zmt _ hu)) m
theorem join_len {g:Nat}:∀ws:List (List Nat),(∀w∈ws,Wd w)→(TL.joinL (List.replicate g 32) ws).length≤(12+g)*ws.length
 | [],_=>by simp [TL.joinL]
 | [w],h=>by
  have:=(h w zms).2.1
  show w.length≤_
  simp
  omega
 | w::v::ws,h=>by
  have ih:=join_len (g:=g) (v::ws) fun u hu=>h u (zmt _ hu)
  have:=(h w zms).2.1
  show(w++(List.replicate g 32++TL.joinL (List.replicate g 32) (v::ws))).length≤_
  rw [zla,zla,List.length_replicate,zlc (a:=w),Nat.mul_succ]
  omega
theorem l_r:("r":Str)=TS' [114]:=by decide
theorem l_0:("0":Str)=TS' [48]:=by decide
theorem l_m:("-":Str)=TS' [45]:=by decide
theorem l_m0:("-0":Str)=TS' [45,48]:=by decide
theorem l_h:("#":Str)=TS' [35]:=by decide
theorem l_s:(" ":Str)=TS' [32]:=by decide
theorem l_n:("\n":Str)=TS' [10]:=by decide
theorem starts_S (c:Nat)(w:List Nat):PySem.Txt.startswith (TS' w) (TS' [c])=decide (w.head?=some c):=by
 unfold PySem.Txt.startswith
 rw [PySem.StrLaws.subAt_eq]
 cases w with
 | nil=>simp [PySem.Str.length]
 | cons d w=>
  simp [PySem.Str.length]
  by_cases h:d=c
  ·subst h;simp
  ·simp [h]
theorem cut1 (c:Nat)(w:List Nat):L2.cutS (TS' (c::w)) (some 1) none=TS' w:=by
 unfold L2.cutS
 have e:HT.sIx (TS' (c::w)).length 0 (some 1)=1:=by
  have:=HT.sIx_nat (TS' (c::w)).length 0 1
  rw [SX.S_len,zlc] at this ⊢
  have e2:((1:Nat):Int)=1:=rfl
  rw [e2] at this
  rw [this]
  omega
 rw [e,HT.sIx_none,SX.S_len,zlc,Nat.add_sub_cancel]
 show(⟨(List.take w.length (List.drop 1 (c::w))).toArray⟩:Str)=_
 rw [List.drop_succ_cons,List.drop_zero,List.take_of_length_le (znr _)]
theorem mod_ok (x:Int):(-18446744073709551616<x%2147483647∧x%2147483647<18446744073709551616)=True:=by
 have:=Int.emod_nonneg x (show(2147483647:Int)≠0 by decide)
 have:=Int.emod_lt_of_pos x (show(0:Int)<2147483647 by decide)
 simp only [eq_iff_iff,iff_true]
 omega
theorem nab10:(10:Int).natAbs=10:=rfl
local macro_rules | `(tactic| walk_at "ev") => `(tactic| simp only [e_var,e_c,e_1,e_2,e_A,e_aNil,e_aCons,e_call,e_bl,e_tru,e_nt,e_an,e_or,e_ys,e_xnt,e_xan,e_xor,e_xif,e_oNone,e_oSome,e_sl,e_nx,e_brk,e_cnt,e_sq,e_ex,e_rt,e_rn,e_if,e_as,e_nm,e_gix,e_gsNil,e_gsCons,e_gseqT,e_gseqR,e_fd,e_for,e_any,e_rg,e_en,e_zp,e_lc,e_m,e_get,e_meth,e_make,e_fn,ix_int,ix_t,ix_r,set_r,atI_at,ixN_0,ixN_1,ixN_2,ixN_3,mod_ok,
 startE,addG,subG,mulG,divG,modG,powG,cmpG,ltG,leG,gtG,geG,intG,lenG,lenB,eqG,eqB,neG,truG,tupG,lstG,negG,zob,Option.bind_none,Option.map_some,Option.map_none,zmc,List.map_nil,zlc,List.length_nil,zlm,List.length_set,List.replicate,List.cons_append,List.nil_append,List.getElem?_cons_zero,List.getElem?_cons_succ,List.set_cons_zero,List.set_cons_succ,List.set_set,zss,zsn,ne_eq,not_false_eq_true,Nat.reduceAdd,Nat.reduceSub,Nat.reduceEqDiff,Nat.reduceLeDiff,Nat.reduceLT,Nat.reducePow,Int.reducePow,Int.reduceNeg,Int.reduceLT,Int.reduceLE,Int.reduceToNat,nab10,and_self,or_true,true_or,true_and,and_true,↓reduceIte,Nat.add_zero,Nat.zero_add,Nat.sub_self,decide_eq_true_eq,decide_true,decide_false,Bool.false_eq_true,Bool.not_true,Bool.not_false, *])
theorem atI_neg {ns:List Int}(h:ns≠[]):∃y,atI (ns.map PV.int) (-1)=some (.int y):=by
 refine⟨ns.getLast h,?_⟩
 have:=List.dropLast_concat_getLast h
 conv=>lhs;rw [←this]
 rw [zmq]
 exact L2.atI_last _ _
theorem and_flip {p q:Prop}(h:q)(h':p):p∧q:=⟨h',h⟩
def curO (T:Tk)(a n t:Int):Ob:=.lst [.ref T.j,.int a,.int n,.int t,.int 20]
theorem fill_ex (c:Cs):∃v a' t':Int,(0≤v∧0≤a'∧0≤t')∧∀(T:Tk) (A:Nat→Prop) (m:Mem),WF T A m c→f_law_fill [.ref T.c] m=some (.int v,m.set T.c (curO T a' c.n t')):=by
 obtain⟨ns,a,n,t,ha,hn,ht⟩:=c
 unfold curO
 have e18:(10:Int) ^ (18:Int).toNat=1000000000000000000:=by decide
 have nonneg:∀x:Int,0≤x%2305843009213693951+2305843009213693951:=fun x=>by
  have:=Int.emod_nonneg x (show(2305843009213693951:Int)≠0 by decide)
  omega
 have ne_:∀(T:Tk) (A:Nat→Prop) (m:Mem),WF T A m ⟨ns,a,n,t,ha,hn,ht⟩→T.c≠T.j:=fun T A m w z=>w.nA (z▸w.jA)
 by_cases hl:a<(ns.length:Int)
 ·obtain⟨x,hx⟩:∃x,(ns.map PV.int)[a.toNat]?=some (.int x):=⟨ns[a.toNat]'(by omega),by simp⟩
  have hne:(ns.map PV.int).isEmpty=false:=by cases ns with|nil=>simp at hl;omega|cons _ _=>rfl
  obtain⟨y,hy⟩:=atI_neg (ns:=ns) (by rintro rfl;simp at hl;omega)
  by_cases hx0:x<0
  ·by_cases hb:(1000000000000000000:Int)≤0-1-x
   ·refine' ⟨_,_,_,and_flip ?_ ⟨?_,?_,?_⟩⟩
    rotate_left 3
    ·intro T A m w
     have ne:=ne_ T A m w
     have c1:=w.at_
     have c2:=w.cells
     have hi:=lt_of c1
     clear w
     unfold f_law_fill b_law_fill
     walk_at "ev"
     rfl
    all_goals omega
   ·by_cases hz:(ns.length:Int)≤a+1
    ·refine' ⟨_,_,_,and_flip ?_ ⟨?_,?_,?_⟩⟩
     rotate_left 3
     ·intro T A m w
      have ne:=ne_ T A m w
      have c1:=w.at_
      have c2:=w.cells
      have hi:=lt_of c1
      clear w
      unfold f_law_fill b_law_fill
      walk_at "ev"
      rfl
     ·exact nonneg _
     all_goals omega
    ·refine' ⟨_,_,_,and_flip ?_ ⟨?_,?_,?_⟩⟩
     rotate_left 3
     ·intro T A m w
      have ne:=ne_ T A m w
      have c1:=w.at_
      have c2:=w.cells
      have hi:=lt_of c1
      clear w
      unfold f_law_fill b_law_fill
      walk_at "ev"
      rfl
     ·exact nonneg _
     all_goals omega
  ·by_cases hb:(1000000000000000000:Int)≤x
   ·refine' ⟨_,_,_,and_flip ?_ ⟨?_,?_,?_⟩⟩
    rotate_left 3
    ·intro T A m w
     have ne:=ne_ T A m w
     have c1:=w.at_
     have c2:=w.cells
     have hi:=lt_of c1
     clear w
     unfold f_law_fill b_law_fill
     walk_at "ev"
     rfl
    all_goals omega
   ·by_cases hz:(ns.length:Int)≤a+1
    ·refine' ⟨_,_,_,and_flip ?_ ⟨?_,?_,?_⟩⟩
     rotate_left 3
     ·intro T A m w
      have ne:=ne_ T A m w
      have c1:=w.at_
      have c2:=w.cells
      have hi:=lt_of c1
      clear w
      unfold f_law_fill b_law_fill
      walk_at "ev"
      rfl
     ·exact nonneg _
     all_goals omega
    ·refine' ⟨_,_,_,and_flip ?_ ⟨?_,?_,?_⟩⟩
     rotate_left 3
     ·intro T A m w
      have ne:=ne_ T A m w
      have c1:=w.at_
      have c2:=w.cells
      have hi:=lt_of c1
      clear w
      unfold f_law_fill b_law_fill
      walk_at "ev"
      rfl
     ·exact nonneg _
     all_goals omega
 ·have hz:(ns.length:Int)≤a:=by omega
  by_cases hns:ns=[]
  ·subst hns
   have hne:(List.map PV.int ([]:List Int)).isEmpty=true:=rfl
   have hne2:([]:List PV).isEmpty=true:=rfl
   have hl0:¬a<((0:Nat):Int):=hl
   refine' ⟨_,_,_,and_flip ?_ ⟨?_,?_,?_⟩⟩
   rotate_left 3
   ·intro T A m w
    have ne:=ne_ T A m w
    have c1:=w.at_
    have c2:=w.cells
    have hi:=lt_of c1
    clear w
    unfold f_law_fill b_law_fill
    walk_at "ev"
    rfl
   ·exact nonneg _
   all_goals omega
  ·have hne:(ns.map PV.int).isEmpty=false:=by cases ns with|nil=>exact absurd rfl hns|cons _ _=>rfl
   obtain⟨y,hy⟩:=atI_neg (ns:=ns) hns
   refine' ⟨_,_,_,and_flip ?_ ⟨?_,?_,?_⟩⟩
   rotate_left 3
   ·intro T A m w
    have ne:=ne_ T A m w
    have c1:=w.at_
    have c2:=w.cells
    have hi:=lt_of c1
    clear w
    unfold f_law_fill b_law_fill
    walk_at "ev"
    rfl
   ·exact nonneg _
   all_goals omega
theorem take_ex (c:Cs)(many:Int)(h:0<many)(h2:many<18446744073709551616):∃(d:Int) (c':Cs),(0≤d∧d<many)∧c'.ns=c.ns∧∀(T:Tk) (A:Nat→Prop) (m:Mem),WF T A m c→f_law_take [.ref T.c,.int many] m=some (.int d,m.set T.c (curO T c'.a c'.n c'.t)):=by
 obtain⟨v,a',t',⟨hv,ha',ht'⟩,e⟩:=fill_ex c
 by_cases hl:c.n<many
 ·refine⟨v%many,⟨c.ns,a',v/many,t',ha',Int.ediv_nonneg hv (by omega),ht'⟩,⟨Int.emod_nonneg _ (by omega),Int.emod_lt_of_pos _ h⟩,rfl,fun T A m w=>?_⟩
  have e:=e T A m w
  have c1:=w.at_
  have hi:=lt_of c1
  clear w
  unfold curO at e ⊢
  unfold f_law_take b_law_take
  walk_at "ev"
 ·refine⟨c.n%many,⟨c.ns,c.a,c.n/many,c.t,c.ha,Int.ediv_nonneg c.hn (by omega),c.ht⟩,⟨Int.emod_nonneg _ (by omega),Int.emod_lt_of_pos _ h⟩,rfl,fun T A m w=>?_⟩
  have c1:=w.at_
  have hi:=lt_of c1
  clear w e
  unfold curO
  unfold f_law_take b_law_take
  walk_at "ev"
open Classical in
noncomputable def g_law_take:F2:=fun ds c=>match ds with
 | [.tok,.int many]=>if h:0<many∧many<18446744073709551616 then some (.int (take_ex c many h.1 h.2).choose,(take_ex c many h.1 h.2).choose_spec.choose) else none
 | _=>none
theorem m_law_take {T:Tk}:SF T g_law_take f_law_take:=fun A m c ds ps w D r c' q=>by
 unfold g_law_take at q
 split at q
 ·rename_i many
  split at q
  ·rename_i h
   obtain⟨rfl,rfl⟩:=Prod.mk.inj (zsi q)
   obtain⟨k1,k2,k3⟩:=(take_ex c many h.1 h.2).choose_spec.choose_spec
   generalize (take_ex c many h.1 h.2).choose_spec.choose=c1 at *
   generalize (take_ex c many h.1 h.2).choose=d at *
   obtain⟨p1,r1,rfl,D1,D2'⟩:=D.inv
   obtain⟨p2,r2,rfl,D3,D4⟩:=D2'.inv
   obtain rfl:=D4.inv0
   rw [d2_tok] at D1
   rw [d2_int] at D3
   subst D1 D3
   have ne:T.c≠T.j:=fun z=>w.nA (z▸w.jA)
   have hi:=lt_of w.at_
   refine⟨.int d,m.set T.c (curO T c1.a c1.n c1.t),A,k3 T A m w,⟨by simp,fun k l n=>zsn (Ne.symm n),fun _ h=>h,fun _ _ h=>h⟩,⟨by rw [zss hi];rfl,by rw [zsn ne,k2];exact w.cells,w.nA,w.jA,fun k a=>by rw [List.length_set];exact w.lt k a⟩,by rw [D2]⟩
  ·cases q
 ·cases q
theorem take2 (c:Cs){many:Int}(h:0<many)(h2:many<18446744073709551616):∃(d:Int) (c':Cs),g_law_take [.tok,.int many] c=some (.int d,c')∧0≤d∧d<many:=by
 have hk:0<many∧many<18446744073709551616:=⟨h,h2⟩
 refine⟨_,_,by unfold g_law_take;simp only;rw [dif_pos hk],(take_ex c many hk.1 hk.2).choose_spec.choose_spec.1⟩
theorem lcLP_ints {gd:List (Nat×Ob)}{D:Nat}{env:Env}(hgd:∀g∈gd,g.1<D):∀(is:List Int) (m:Mem) (acc:List PV),m[D]?=some (.lst acc)→okG gd m=true→acc.length+is.length<PySem.sizeLine→(hl:1<env.length)→
  lcLP (pNm 1) tYs (xA intG (Ac (Xv 1) An)) gd D env (is.map PV.int) m acc=some (acc++is.map PV.int,m.set D (.lst (acc++is.map PV.int)))
 | [],m,acc,h,k,l,hl=>by
  have:m.set D (.lst acc)=m:=by
   refine List.ext_getElem? fun i=>?_
   by_cases e:D=i
   ·subst e;rw [zss (lt_of h),h]
   ·rw [zsn e]
  simp only [List.map_nil,List.append_nil,lcLP,this]
 | i::is,m,acc,h,k,l,hl=>by
  rw [zlc] at l
  have e1:(xA intG (Ac (Xv 1) An)) (env.set 1 (some (.int i))) m=some (.int i,m):=by
   have:(env.set 1 (some (PV.int i)))[1]?=some (some (.int i)):=zss hl
   simp only [e_A,e_aCons,e_aNil,e_var,this,zob,intG]
  have lD:=lt_of h
  have ih:=lcLP_ints hgd is (m.set D (.lst (acc++[.int i]))) (acc++[.int i]) (by rw [zss lD]) (okG_set k hgd) (by simp;omega) hl
  rw [zmc]
  unfold lcLP
  simp only [pNm,zob,tYs,if_true,e1]
  rw [if_pos ⟨k,h,by omega⟩,ih]
  simp
def T0:Tk:=⟨3,2⟩
theorem start_ok (ns:List Int)(h:ns.length≤63):∃(A:Nat→Prop) (m':Mem),f_law_start [.ref 0] [.rol (ns.map PV.int)]=some (.ref T0.c,m')∧WF T0 A m' ⟨ns,0,0,0,Int.le_refl _,Int.le_refl _,Int.le_refl _⟩:=by
 have hc:cutP (ns.map PV.int) none (some 63)=ns.map PV.int:=by
  unfold cutP
  rw [HT.sIx_none,show((63:Int))=((63:Nat):Int) from rfl,HT.sIx_nat]
  rw [List.drop_zero,Nat.sub_zero]
  exact List.take_of_length_le (by simp;omega)
 have e:=lcLP_ints (gd:=[(1,.lst (ns.map PV.int))]) (D:=2) (env:=[some (.ref 0),none]) (by simp) ns [.rol (ns.map PV.int),.lst (ns.map PV.int),.lst []] [] (by simp) (by simp [okG]) (by simp;exact Nat.lt_of_le_of_lt h (by decide)) (by simp)
 rw [List.nil_append] at e
 have e3:([Ob.rol (ns.map PV.int),.lst (ns.map PV.int),.lst []]:Mem).set 2 (.lst (ns.map PV.int))=[Ob.rol (ns.map PV.int),.lst (ns.map PV.int),.lst (ns.map PV.int)]:=rfl
 rw [e3] at e
 refine⟨fun k=>k=2,[.rol (ns.map PV.int),.lst (ns.map PV.int),.lst (ns.map PV.int),.lst [.ref 2,.int 0,.int 0,.int 0,.int 20]],?_,rfl,rfl,by decide,rfl,fun k hk=>by rw [hk];simp⟩
 have z5:(5:Nat)≤PySem.sizeLine:=by decide
 have es:slG (.ref 0) none (some 63) [Ob.rol (ns.map PV.int)]=some (.ref 1,[Ob.rol (ns.map PV.int),.lst (ns.map PV.int)]):=by
  simp only [slG,List.getElem?_cons_zero,hc,zlc,List.length_nil];rfl
 have ea:anyQ (.ref 1) [Ob.rol (ns.map PV.int),.lst (ns.map PV.int)]=some ⟨ns.map PV.int,[(1,.lst (ns.map PV.int))]⟩:=rfl
 have el:(xLcP [1] (iAny (xSl (Xv 0) oNone (oSome (xC (.int (63)))))) (pNm 1) tYs (xA intG (Ac (Xv 1) An))) [some (.ref 0),none] [Ob.rol (ns.map PV.int)]=some (.ref 2,[.rol (ns.map PV.int),.lst (ns.map PV.int),.lst (ns.map PV.int)]):=by
  unfold xLcP
  simp only [e_any,e_sl,e_oNone,e_oSome,e_var,e_c,List.getElem?_cons_zero,zob,es,ea,Option.map_some]
  rw [if_pos ⟨by simp [okG],by simp⟩]
  have:=e
  simp only [zlc,List.length_nil,Nat.zero_add,Nat.reduceAdd,List.cons_append,List.nil_append,wipeE,List.set_cons_succ,List.set_cons_zero]
  rw [this];rfl
 unfold f_law_start b_law_start
 simp only [e_fn,startE,zmc,List.map_nil,zlc,List.length_nil,Nat.zero_add,Nat.reduceSub,List.replicate,List.cons_append,List.nil_append,e_rt,e_A,e_aCons,e_aNil,e_c]
 rw [el]
 simp only [zob,lstG,zlc,List.length_nil,Nat.zero_add,Nat.reduceAdd,z5,if_true,T0,List.cons_append,List.nil_append]
end Gen
end
section
namespace Gen
open PySem L2 Rf V2
noncomputable section
variable {T:Tk}
def l_check_sizes_0:S2W:=
 (pIf (uAn (uBl (y2 eqV (y2 ixV (yPk 1) (yC (.int (0)))) (yC (.str "loop")))) (uBl (y2 gtV (y1 lenV (y2 ixV (yPk 1) (yC (.int (2))))) (yC (.int (12)))))) (pRs 1) (pS rNx))
def gb_check_sizes:S2W:=
 (pSq (pIf (uBl (y2 gtV (y1 lenV (yPk 0)) (yC (.int (12))))) (pRs 1) (pS rNx))
  (pFor (jAny (Yv 0)) (qNm 1) l_check_sizes_0))
def g_check_sizes:F2W:=fnp 2 gb_check_sizes
theorem m_check_sizes:WFn T g_check_sizes f_check_sizes:=wf_fn
  (ws_sq (ws_if (st_bl (sx_2 o_cmp (((sx_A o_len Spv)).p) (Sxi).p)) ws_rs (ws_s ss_nx))
   (ws_for (si_any Sv) sg_nm (ws_if (st_and (st_bl (sx_2 o_eq (((sx_2 o_ix Spv (Sxi).p)).p) (sx_str).p)) (st_bl (sx_2 o_cmp (((sx_A o_len (((sx_2 o_ix Spv (Sxi).p)).p))).p) (Sxi).p))) ws_rs (ws_s ss_nx))))
def gb_read_number:S2W:=
 (pSq (pIf (uBl (y2 gtV (y1 lenV (yPk 0)) (y1 lenV (y1 strV (yC (.int (-2147483648))))))) (pRs 1) (pS rNx))
  (pSq (pS (rAs 3 (y1 intV (yPk 0))))
  (pSq (pIf (uOr (uBl (y2 ltV (yPk 3) (yPk 1))) (uBl (y2 gtV (yPk 3) (yPk 2)))) (pRs 1) (pS rNx))
  (pS (rRt (Yv 3))))))
def g_read_number:F2W:=fnp 4 gb_read_number
theorem m_read_number:WFn T g_read_number f_read_number:=wf_fn
  (ws_sq (ws_if (st_bl (sx_2 o_cmp (((sx_A o_len Spv)).p) (((sx_A o_len (((sx_A o_str (Sxi).p)).p))).p))) ws_rs (ws_s ss_nx))
   (ws_sq (ws_s (ss_as (sx_A o_int Spv)))
   (ws_sq (ws_if (st_or (st_bl (sx_2 o_cmp Spv Spv)) (st_bl (sx_2 o_cmp Spv Spv))) ws_rs (ws_s ss_nx))
   (ws_s (ss_rt Sv)))))
def gb_read_operand:S2W:=
 (pSq (pIf (uTru (y2 startsV (yPk 0) (yC (.str "r")))) (pRt (pTup (Pc (pE (yC (.str "reg"))) (Pc (pCall 3 g_read_number (zCons (ySl (yPk 0) (oS2 (yC (.int (1)))) oN2) (zCons (yC (.int (0))) (zCons (y2 subV (yC (.int (16))) (yC (.int (1)))) Zn)))) (pA Zn))))) (pS rNx))
  (pRt (pTup (Pc (pE (yC (.str "int"))) (Pc (pCall 3 g_read_number (zCons (Yv 0) (zCons (yC (.int (-2147483648))) (zCons (yC (.int (2147483647))) Zn)))) (pA Zn))))))
def g_read_operand:F2W:=fnp 1 gb_read_operand
theorem m_read_operand:WFn T g_read_operand f_read_operand:=wf_fn
  (ws_sq (ws_if (st_tru (((sx_m1 c_starts o_starts Spv (sx_str).p)).p)) (ws_rt (wx_tup (wa_cons (wx_e sx_str) (wa_cons (wx_call m_read_number (Sa (sx_sl Spv (so_some Sxi) so_none) (Sa Sxi (Sa (sx_2 o_sub (Sxi).p (Sxi).p) Sn)))) (wa_a Sn))))) (ws_s ss_nx))
   (ws_rt (wx_tup (wa_cons (wx_e sx_str) (wa_cons (wx_call m_read_number (Sa Sv (Sa Sxi (Sa Sxi Sn)))) (wa_a Sn))))))
def l_read_instruction_0:S2W:=
 (pSq (pSet 4 (pCall 1 g_read_operand (zCons (Yv 3) Zn)))
  (pS (rAe 1 (yIf (uBl (y2 eqV (yPk 2) (yC (.str "target")))) (y2 ixV (yPk 4) (yC (.int (1)))) (Yv 4)))))
def gb_read_instruction:S2W:=
 (pSq (pS (rAo 1 (yLst (zCons (y2 ixV (yPk 0) (yC (.int (0)))) Zn))))
  (pSq (pFor (jZp (y1 (kdV T_FORMS) (y2 ixV (yPk 0) (yC (.int (0))))) (ySf (yPk 0) (oS2 (yC (.int (1)))) oN2)) (qTp 2 (qCons (qNm 2) (qCons (qNm 3) qNil))) l_read_instruction_0)
  (pS (rRt (y1 tupleV (yPk 1))))))
def g_read_instruction:F2W:=fnp 5 gb_read_instruction
theorem m_read_instruction:WFn T g_read_instruction f_read_instruction:=wf_fn
  (ws_sq (ws_s (ss_ao (sf_lst (Sa (sx_2 o_ix Spv (Sxi).p) Sn))))
   (ws_sq (ws_for (si_zp (sx_1 o_kd (((sx_2 o_ix Spv (Sxi).p)).p)) ((sf_sl Spv (so_some Sxi) so_none).x)) (sg_sq (sgs_cons sg_nm (sgs_cons sg_nm sgs_nil))) (ws_sq (ws_set (wx_call m_read_operand (Sa Sv Sn)))
   (ws_s (ss_ae (sx_if (st_bl (sx_2 o_eq Spv (sx_str).p)) (sx_2 o_ix Spv (Sxi).p) Sv)))))
   (ws_s (ss_rt (sx_A o_tuple Spv)))))
def l_build_0:S2W:=
 (pIf (uBl (y2 eqV (y2 ixV (yPk 4) (yC (.int (0)))) (yC (.str "loop")))) (pSet 2 (pCall 1 g_read_operand (zCons (y2 ixV (yPk 4) (yC (.int (1)))) Zn))) (pIf (uBl (y2 eqV (y2 ixV (yPk 4) (yC (.int (0)))) (yC (.str "end")))) (pSq (pS (rAe 1 (yTup (zCons (yC (.str "loop")) (zCons (Yv 2) (zCons (y1 tupleV (yPk 3)) Zn))))))
  (pSq (pS (rAs 2 (yC .non)))
  (pS (rAo 3 (yLst Zn))))) (pIf (uBl (y2 notNV (yPk 2) (yC .non))) (pAe 3 (pCall 1 g_read_instruction (zCons (Yv 4) Zn))) (pAe 1 (pCall 1 g_read_instruction (zCons (Yv 4) Zn))))))
def gb_build:S2W:=
 (pSq (pS (rAo 1 (yLst Zn)))
  (pSq (pS (rAs 2 (yC .non)))
  (pSq (pS (rAo 3 (yLst Zn)))
  (pSq (pFor (jAny (Yv 0)) (qNm 4) l_build_0)
  (pS (rRt (y1 tupleV (yPk 1))))))))
def g_build:F2W:=fnp 5 gb_build
theorem m_build:WFn T g_build f_build:=wf_fn
  (ws_sq (ws_s (ss_ao (sf_lst Sn)))
   (ws_sq (ws_s (ss_as sx_non))
   (ws_sq (ws_s (ss_ao (sf_lst Sn)))
   (ws_sq (ws_for (si_any Sv) sg_nm (ws_if (st_bl (sx_2 o_eq (((sx_2 o_ix Spv (Sxi).p)).p) (sx_str).p)) (ws_set (wx_call m_read_operand (Sa (sx_2 o_ix Spv (Sxi).p) Sn))) (ws_if (st_bl (sx_2 o_eq (((sx_2 o_ix Spv (Sxi).p)).p) (sx_str).p)) (ws_sq (ws_s (ss_ae (sx_tup (Sa sx_str (Sa Sv (Sa (sx_A o_tuple Spv) Sn))))))
   (ws_sq (ws_s (ss_as sx_non))
   (ws_s (ss_ao (sf_lst Sn))))) (ws_if (st_bl (sx_2 o_notN Spv (sx_non).p)) (ws_ae (wx_call m_read_instruction (Sa Sv Sn))) (ws_ae (wx_call m_read_instruction (Sa Sv Sn)))))))
   (ws_s (ss_rt (sx_A o_tuple Spv)))))))
def gb_is_natural:S2:=
 (rSq (rIf (uOr (uNt (uTru (y1 isasciiV (yPk 0)))) (uNt (uTru (y1 isdigitV (yPk 0))))) (rRt (yC (.bl false))) rNx)
  (rRt (yOr (y2 eqV (yPk 0) (yC (.str "0"))) (yNt (y2 startsV (yPk 0) (yC (.str "0")))))))
def g_is_natural:F2:=fn2 1 gb_is_natural
theorem m_is_natural:SF T g_is_natural f_is_natural:=sf_fn
  ((ss_sq (ss_if (st_or (st_not (st_tru (((sx_m0 c_isascii o_isascii Spv)).p))) (st_not (st_tru (((sx_m0 c_isdigit o_isdigit Spv)).p)))) (ss_rt sx_bl) ss_nx)
   (ss_rt (sx_or (sx_2 o_eq Spv (sx_str).p) (sx_not (sx_m1 c_starts o_starts Spv (sx_str).p))))))
def gb_is_integer:S2:=
 (rSq (rIf (uTru (y2 startsV (yPk 0) (yC (.str "-")))) (rRt (yAn (y2 neV (yPk 0) (yC (.str "-0"))) (Yc 1 g_is_natural (zCons (ySl (yPk 0) (oS2 (yC (.int (1)))) oN2) Zn)))) rNx)
  (rRt (Yc 1 g_is_natural (zCons (Yv 0) Zn))))
def g_is_integer:F2:=fn2 1 gb_is_integer
theorem m_is_integer:SF T g_is_integer f_is_integer:=sf_fn
  ((ss_sq (ss_if (st_tru (((sx_m1 c_starts o_starts Spv (sx_str).p)).p)) (ss_rt (sx_and (sx_2 o_ne Spv (sx_str).p) (sx_call m_is_natural (Sa (sx_sl Spv (so_some Sxi) so_none) Sn)))) ss_nx)
   (ss_rt (sx_call m_is_natural (Sa Sv Sn)))))
def gb_is_register:S2:=
 (rRt (yAn (y2 startsV (yPk 0) (yC (.str "r"))) (Yc 1 g_is_natural (zCons (ySl (yPk 0) (oS2 (yC (.int (1)))) oN2) Zn))))
def g_is_register:F2:=fn2 1 gb_is_register
theorem m_is_register:SF T g_is_register f_is_register:=sf_fn
  ((ss_rt (sx_and (sx_m1 c_starts o_starts Spv (sx_str).p) (sx_call m_is_natural (Sa (sx_sl Spv (so_some Sxi) so_none) Sn)))))
def gb_is_written:S2:=
 (rSq (rIf (uTru (Yc 1 g_is_register (zCons (Yv 1) Zn))) (rRt (yC (.bl true))) rNx)
  (rRt (yAn (y2 eqV (yPk 0) (yC (.str "operand"))) (Yc 1 g_is_integer (zCons (Yv 1) Zn)))))
def g_is_written:F2:=fn2 2 gb_is_written
theorem m_is_written:SF T g_is_written f_is_written:=sf_fn
  ((ss_sq (ss_if (st_tru (((sx_call m_is_register (Sa Sv Sn))).p)) (ss_rt sx_bl) ss_nx)
   (ss_rt (sx_and (sx_2 o_eq Spv (sx_str).p) (sx_call m_is_integer (Sa Sv Sn))))))
def gb_form_of:S2:=
 (rSq (rIf (uBl (y2 eqV (yPk 0) (yC (.str "loop")))) (rRt (yTup (zCons (yC (.str "operand")) Zn))) rNx)
  (rSq (rIf (uBl (y2 eqV (yPk 0) (yC (.str "end")))) (rRt (yTup Zn)) rNx)
  (rRt (y1 (kgV T_FORMS) (yPk 0)))))
def g_form_of:F2:=fn2 1 gb_form_of
theorem m_form_of:SF T g_form_of f_form_of:=sf_fn
  ((ss_sq (ss_if (st_bl (sx_2 o_eq Spv (sx_str).p)) (ss_rt (sx_tup (Sa sx_str Sn))) ss_nx)
   (ss_sq (ss_if (st_bl (sx_2 o_eq Spv (sx_str).p)) (ss_rt (sx_tup Sn)) ss_nx)
   (ss_rt (sx_1 o_kg Spv)))))
def l_has_form_0:S2:=
 (rIf (uNt (uTru (Yc 2 g_is_written (zCons (Yv 2) (zCons (Yv 3) Zn))))) (rRt (yC (.bl false))) rNx)
def gb_has_form:S2:=
 (rSq (rAs 1 (Yc 1 g_form_of (zCons (y2 ixV (yPk 0) (yC (.int (0)))) Zn)))
  (rSq (rIf (uOr (uBl (y2 isNV (yPk 1) (yC .non))) (uBl (y2 neV (y1 lenV (yPk 0)) (y2 addV (y1 lenV (yPk 1)) (yC (.int (1))))))) (rRt (yC (.bl false))) rNx)
  (rSq (rFor (jZp (Yv 1) (ySf (yPk 0) (oS2 (yC (.int (1)))) oN2)) (qTp 2 (qCons (qNm 2) (qCons (qNm 3) qNil))) (l_has_form_0))
  (rRt (yC (.bl true))))))
def g_has_form:F2:=fn2 4 gb_has_form
theorem m_has_form:SF T g_has_form f_has_form:=sf_fn
  ((ss_sq (ss_as (sx_call m_form_of (Sa (sx_2 o_ix Spv (Sxi).p) Sn)))
   (ss_sq (ss_if (st_or (st_bl (sx_2 o_isN Spv (sx_non).p)) (st_bl (sx_2 o_ne (((sx_A o_len Spv)).p) (((sx_2 o_add (((sx_A o_len Spv)).p) (Sxi).p)).p)))) (ss_rt sx_bl) ss_nx)
   (ss_sq (ss_for (si_zp Sv ((sf_sl Spv (so_some Sxi) so_none).x)) (sg_sq (sgs_cons sg_nm (sgs_cons sg_nm sgs_nil))) (ss_if (st_not (st_tru (((sx_call m_is_written (Sa Sv (Sa Sv Sn)))).p))) (ss_rt sx_bl) ss_nx))
   (ss_rt sx_bl)))))
def gb_may_stand:S2:=
 (rSq (rIf (uBl (y2 eqV (yPk 0) (yC (.str "loop")))) (rRt (y2 isNV (yPk 1) (yC .non))) rNx)
  (rSq (rIf (uBl (y2 eqV (yPk 0) (yC (.str "end")))) (rRt (yAn (y2 notNV (yPk 1) (yC .non)) (y2 gtV (yPk 1) (yC (.int (0)))))) rNx)
  (rRt (yC (.bl true)))))
def g_may_stand:F2:=fn2 2 gb_may_stand
theorem m_may_stand:SF T g_may_stand f_may_stand:=sf_fn
  ((ss_sq (ss_if (st_bl (sx_2 o_eq Spv (sx_str).p)) (ss_rt (sx_2 o_isN Spv (sx_non).p)) ss_nx)
   (ss_sq (ss_if (st_bl (sx_2 o_eq Spv (sx_str).p)) (ss_rt (sx_and (sx_2 o_notN Spv (sx_non).p) (sx_2 o_cmp Spv (Sxi).p))) ss_nx)
   (ss_rt sx_bl))))
def l_check_forms_0:S2W:=
 (pSq (pS (rIf (uNt (uTru (yPk 3))) rCt rNx))
  (pSq (pIf (uOr (uNt (uTru (Yc 1 g_has_form (zCons (Yv 3) Zn)))) (uNt (uTru (Yc 2 g_may_stand (zCons (y2 ixV (yPk 3) (yC (.int (0)))) (zCons (Yv 1) Zn)))))) (pRsF 2 "line" (Yv 2)) (pS rNx))
  (pS (rIf (uBl (y2 eqV (y2 ixV (yPk 3) (yC (.int (0)))) (yC (.str "loop")))) (rAs 1 (yC (.int (0)))) (rIf (uBl (y2 eqV (y2 ixV (yPk 3) (yC (.int (0)))) (yC (.str "end")))) (rAs 1 (yC .non)) (rIf (uBl (y2 notNV (yPk 1) (yC .non))) (rAu 1 (yC (.int (1)))) rNx))))))
def gb_check_forms:S2W:=
 (pSq (pS (rAs 1 (yC .non)))
  (pSq (pFor (jEn (Yv 0)) (qTp 2 (qCons (qNm 2) (qCons (qNm 3) qNil))) l_check_forms_0)
  (pIf (uBl (y2 notNV (yPk 1) (yC .non))) (pRsF 2 "line" (y1 lenV (yPk 0))) (pS rNx))))
def g_check_forms:F2W:=fnp 4 gb_check_forms
theorem m_check_forms:WFn T g_check_forms f_check_forms:=wf_fn
  (ws_sq (ws_s (ss_as sx_non))
   (ws_sq (ws_for (si_en Sv) (sg_sq (sgs_cons sg_nm (sgs_cons sg_nm sgs_nil))) (ws_sq (ws_s (ss_if (st_not (st_tru Spv)) ss_ct ss_nx))
   (ws_sq (ws_if (st_or (st_not (st_tru (((sx_call m_has_form (Sa Sv Sn))).p))) (st_not (st_tru (((sx_call m_may_stand (Sa (sx_2 o_ix Spv (Sxi).p) (Sa Sv Sn)))).p)))) (ws_rsF Sv) (ws_s ss_nx))
   (ws_s (ss_if (st_bl (sx_2 o_eq (((sx_2 o_ix Spv (Sxi).p)).p) (sx_str).p)) (ss_as Sxi) (ss_if (st_bl (sx_2 o_eq (((sx_2 o_ix Spv (Sxi).p)).p) (sx_str).p)) (ss_as sx_non) (ss_if (st_bl (sx_2 o_notN Spv (sx_non).p)) (ss_au Sxi) ss_nx)))))))
   (ws_if (st_bl (sx_2 o_notN Spv (sx_non).p)) (ws_rsF (sx_A o_len Spv)) (ws_s ss_nx))))
def gb_words_of:S2:=
 (rRt (yLc [1] (jAny (y2 splitV (y2 ixV (y2 splitV (yPk 0) (yC (.str "#"))) (yC (.int (0)))) (yC (.str " ")))) (qNm 1) (uTru (yPk 1)) (Yv 1)))
def g_words_of:F2:=fn2f 2 gb_words_of
theorem m_words_of:SFf T g_words_of f_words_of:=sff_fn
  ((ss_rtf (sf_lc (vs:=[1]) (sip_any ((sf_m1 c_split o_split (((sx_2 o_ix ((sf_m1 c_split o_split Spv (sx_str).p).p) (Sxi).p)).p) (sx_str).p).p)) sp_nm (st_tru Spv) Sv)))
def gb_parse:S2W:=
 (pSq (pIf (uBl (y2 gtV (y1 lenV (yPk 0)) (yC (.int (4000))))) (pRs 1) (pS rNx))
  (pSq (pS (rAs 1 (yLc [3] (jAny (y2 splitV (yPk 0) (yC (.str "\n")))) (qNm 3) uYs (Yc 1 g_words_of (zCons (Yv 3) Zn)))))
  (pSq (pEx (pCall 1 g_check_forms (zCons (Yv 1) Zn)))
  (pSq (pSet 2 (pCall 1 g_build (zCons (yLc [4] (jAny (yPk 1)) (qNm 4) (uTru (yPk 4)) (Yv 4)) Zn)))
  (pSq (pEx (pCall 1 g_check_sizes (zCons (Yv 2) Zn)))
  (pS (rRt (Yv 2))))))))
def g_parse:F2W:=fnp 5 gb_parse
theorem m_parse:WFn T g_parse f_parse:=wf_fn
  (ws_sq (ws_if (st_bl (sx_2 o_cmp (((sx_A o_len Spv)).p) (Sxi).p)) ws_rs (ws_s ss_nx))
   (ws_sq (ws_s (ss_as ((sf_lc (vs:=[3]) (sip_any ((sf_m1 c_split o_split Spv (sx_str).p).p)) sp_nm st_ys ((sf_call m_words_of (Sa Sv Sn)).x)).x)))
   (ws_sq (ws_ex (wx_call m_check_forms (Sa Sv Sn)))
   (ws_sq (ws_set (wx_call m_build (Sa ((sf_lc (vs:=[4]) (sip_any Spv) sp_nm (st_tru Spv) Sv).x) Sn)))
   (ws_sq (ws_ex (wx_call m_check_sizes (Sa Sv Sn)))
   (ws_s (ss_rt Sv)))))))
def gb_law_told:S2:=
 (rTry2 (pLst (Pc (pE (yC (.str "good"))) (Pc (pCall 1 g_parse (zCons (Yv 0) Zn)) (pA Zn)))) 2 1 "parse" "limit")
def g_law_told:F2:=fn2 2 gb_law_told
theorem m_law_told:SF T g_law_told f_law_told:=sf_fn
  ((ss_try2 (wx_lst (wa_cons (wx_e sx_str) (wa_cons (wx_call m_parse (Sa Sv Sn)) (wa_a Sn))))))
def gb_law_large (self:F2):S2:=
 (rSq (rIf (uAn (uTru (y1 (isV "tuple") (yPk 0))) (uAn (uBl (y2 eqV (y1 lenV (yPk 0)) (yC (.int (2))))) (uBl (y2 eqV (y2 ixV (yPk 0) (yC (.int (0)))) (yC (.str "reg")))))) (rRt (y2 gtV (y2 ixV (yPk 0) (yC (.int (1)))) (yC (.int (15))))) rNx)
  (rSq (rIf (uAn (uTru (y1 (isV "tuple") (yPk 0))) (uAn (uBl (y2 eqV (y1 lenV (yPk 0)) (yC (.int (2))))) (uBl (y2 eqV (y2 ixV (yPk 0) (yC (.int (0)))) (yC (.str "int")))))) (rRt (yOr (y2 ltV (y2 ixV (yPk 0) (yC (.int (1)))) (y2 subV (yC (.int (0))) (yC (.int (2147483648))))) (y2 gtV (y2 ixV (yPk 0) (yC (.int (1)))) (yC (.int (2147483647)))))) rNx)
  (rSq (rIf (uTru (y1 (isV "tuple") (yPk 0))) (rSq (rAs 1 (yAn (y2 gtV (y1 lenV (yPk 0)) (yC (.int (2)))) (yAn (y1 (isV "str") (y2 ixV (yPk 0) (yC (.int (0))))) (yAn (y1 (isV "int") (y2 ixV (yPk 0) (yC (.int (1))))) (y2 gtV (y2 ixV (yPk 0) (yC (.int (1)))) (yC (.int (15))))))))
  (rRt (yOr (Yv 1) (y1 anyV (yLc [2] (jAny (yPk 0)) (qNm 2) uYs (Yc 1 self (zCons (Yv 2) Zn))))))) rNx)
  (rRt (yC (.bl false))))))
def g_law_large_:Nat→F2
 | 0=>fun _ _=>none
 | n+1=>fn2 3 (gb_law_large (g_law_large_ n))
def g_law_large:F2:=g_law_large_ 20
theorem m_law_large_:∀n:Nat,SF T (g_law_large_ n) (f_law_large_ n)
 | 0=>fun _ _ _ _ _ _ _ _ _ q=>nomatch q
 | n+1=>
  have ih:=m_law_large_ n
  sf_fn ((ss_sq (ss_if (st_and (st_tru (((sx_1 o_is Spv)).p)) (st_and (st_bl (sx_2 o_eq (((sx_A o_len Spv)).p) (Sxi).p)) (st_bl (sx_2 o_eq (((sx_2 o_ix Spv (Sxi).p)).p) (sx_str).p)))) (ss_rt (sx_2 o_cmp (((sx_2 o_ix Spv (Sxi).p)).p) (Sxi).p)) ss_nx)
   (ss_sq (ss_if (st_and (st_tru (((sx_1 o_is Spv)).p)) (st_and (st_bl (sx_2 o_eq (((sx_A o_len Spv)).p) (Sxi).p)) (st_bl (sx_2 o_eq (((sx_2 o_ix Spv (Sxi).p)).p) (sx_str).p)))) (ss_rt (sx_or (sx_2 o_cmp (((sx_2 o_ix Spv (Sxi).p)).p) (((sx_2 o_sub (Sxi).p (Sxi).p)).p)) (sx_2 o_cmp (((sx_2 o_ix Spv (Sxi).p)).p) (Sxi).p))) ss_nx)
   (ss_sq (ss_if (st_tru (((sx_1 o_is Spv)).p)) (ss_sq (ss_as (sx_and (sx_2 o_cmp (((sx_A o_len Spv)).p) (Sxi).p) (sx_and (sx_1 o_is (((sx_2 o_ix Spv (Sxi).p)).p)) (sx_and (sx_1 o_is (((sx_2 o_ix Spv (Sxi).p)).p)) (sx_2 o_cmp (((sx_2 o_ix Spv (Sxi).p)).p) (Sxi).p)))))
   (ss_rt (sx_or Sv (sx_A o_any ((sf_lc (vs:=[2]) (sip_any Spv) sp_nm st_ys (sx_call ih (Sa Sv Sn))).p))))) ss_nx)
   (ss_rt sx_bl)))))
theorem m_law_large:SF T g_law_large f_law_large:=m_law_large_ _
def gb_law_digits:S2:=
 (rRt (yAn (y2 neV (yPk 0) (yC (.str ""))) (yAn (y1 allV (yLc [1] (jAny (yPk 0)) (qNm 1) uYs (y2 inSV (yPk 1) (yC (.str "0123456789"))))) (yOr (y2 eqV (yPk 0) (yC (.str "0"))) (y2 neV (y2 ixV (yPk 0) (yC (.int (0)))) (yC (.str "0")))))))
def g_law_digits:F2:=fn2 2 gb_law_digits
theorem m_law_digits:SF T g_law_digits f_law_digits:=sf_fn
  ((ss_rt (sx_and (sx_2 o_ne Spv (sx_str).p) (sx_and (sx_A o_all ((sf_lc (vs:=[1]) (sip_any Spv) sp_nm st_ys (sx_2 o_inS Spv (sx_str).p)).p)) (sx_or (sx_2 o_eq Spv (sx_str).p) (sx_2 o_ne (((sx_2 o_ix Spv (Sxi).p)).p) (sx_str).p))))))
def gb_law_register:S2:=
 (rSq (rIf (uAn (uBl (y2 eqV (ySl (yPk 0) oN2 (oS2 (yC (.int (1))))) (yC (.str "r")))) (uTru (Yc 1 g_law_digits (zCons (ySl (yPk 0) (oS2 (yC (.int (1)))) oN2) Zn)))) (rRt (y1 intV (ySl (yPk 0) (oS2 (yC (.int (1)))) oN2))) rNx)
  (rRt (yC .non)))
def g_law_register:F2:=fn2 1 gb_law_register
theorem m_law_register:SF T g_law_register f_law_register:=sf_fn
  ((ss_sq (ss_if (st_and (st_bl (sx_2 o_eq (((sx_sl Spv so_none (so_some Sxi))).p) (sx_str).p)) (st_tru (((sx_call m_law_digits (Sa (sx_sl Spv (so_some Sxi) so_none) Sn))).p))) (ss_rt (sx_A o_int (((sx_sl Spv (so_some Sxi) so_none)).p))) ss_nx)
   (ss_rt sx_non)))
def gb_law_read_operand:S2:=
 (rSq (rIf (uBl (y2 notNV (Yc 1 g_law_register (zCons (Yv 0) Zn)) (yC .non))) (rRt (yTup (zCons (yC (.str "reg")) (zCons (Yc 1 g_law_register (zCons (Yv 0) Zn)) Zn)))) rNx)
  (rSq (rIf (uAn (uBl (y2 eqV (ySl (yPk 0) oN2 (oS2 (yC (.int (1))))) (yC (.str "-")))) (uAn (uTru (Yc 1 g_law_digits (zCons (ySl (yPk 0) (oS2 (yC (.int (1)))) oN2) Zn))) (uBl (y2 neV (yPk 0) (yC (.str "-0")))))) (rRt (yTup (zCons (yC (.str "int")) (zCons (y2 subV (yC (.int (0))) (y1 intV (ySl (yPk 0) (oS2 (yC (.int (1)))) oN2))) Zn)))) rNx)
  (rSq (rIf (uTru (Yc 1 g_law_digits (zCons (Yv 0) Zn))) (rRt (yTup (zCons (yC (.str "int")) (zCons (y1 intV (yPk 0)) Zn)))) rNx)
  (rRt (yC .non)))))
def g_law_read_operand:F2:=fn2 1 gb_law_read_operand
theorem m_law_read_operand:SF T g_law_read_operand f_law_read_operand:=sf_fn
  ((ss_sq (ss_if (st_bl (sx_2 o_notN (((sx_call m_law_register (Sa Sv Sn))).p) (sx_non).p)) (ss_rt (sx_tup (Sa sx_str (Sa (sx_call m_law_register (Sa Sv Sn)) Sn)))) ss_nx)
   (ss_sq (ss_if (st_and (st_bl (sx_2 o_eq (((sx_sl Spv so_none (so_some Sxi))).p) (sx_str).p)) (st_and (st_tru (((sx_call m_law_digits (Sa (sx_sl Spv (so_some Sxi) so_none) Sn))).p)) (st_bl (sx_2 o_ne Spv (sx_str).p)))) (ss_rt (sx_tup (Sa sx_str (Sa (sx_2 o_sub (Sxi).p (((sx_A o_int (((sx_sl Spv (so_some Sxi) so_none)).p))).p)) Sn)))) ss_nx)
   (ss_sq (ss_if (st_tru (((sx_call m_law_digits (Sa Sv Sn))).p)) (ss_rt (sx_tup (Sa sx_str (Sa (sx_A o_int Spv) Sn)))) ss_nx)
   (ss_rt sx_non)))))
def gb_law_kinds:S2:=
 (rRt (yLst (zCons (yC (.str "add")) (zCons (yC (.str "and")) (zCons (yC (.str "less")) (zCons (yC (.str "load")) (zCons (yC (.str "mul")) (zCons (yC (.str "out")) (zCons (yC (.str "store")) (zCons (yC (.str "sub")) Zn))))))))))
def g_law_kinds:F2:=fn2f 0 gb_law_kinds
theorem m_law_kinds:SFf T g_law_kinds f_law_kinds:=sff_fn
  ((ss_rtf (sf_lst (Sa sx_str (Sa sx_str (Sa sx_str (Sa sx_str (Sa sx_str (Sa sx_str (Sa sx_str (Sa sx_str Sn)))))))))))
def l_law_read_line_0:S2:=
 (rIf (uBl (y2 eqV (y2 ixV (yPk 2) (yPk 4)) (yC (.str "r")))) (rAe 3 (Yc 1 g_law_register (zCons (y2 ixV (yPk 0) (y2 addV (yPk 4) (yC (.int (1))))) Zn))) (rAe 3 (Yc 1 g_law_read_operand (zCons (y2 ixV (yPk 0) (y2 addV (yPk 4) (yC (.int (1))))) Zn))))
def gb_law_read_line:S2:=
 (rSq (rAs 1 (y2 ixV (yPk 0) (yC (.int (0)))))
  (rSq (rIf (uBl (y2 ninTV (yPk 1) (Yc 0 g_law_kinds Zn))) (rRt (yC .non)) rNx)
  (rSq (rAs 2 (yC (.str "roo")))
  (rSq (rIf (uBl (y2 inV2 (yPk 1) (yLst (zCons (yC (.str "load")) (zCons (yC (.str "store")) (zCons (yC (.str "out")) Zn)))))) (rAs 2 (y2 ixV (yLst (zCons (y2 ixV (yLst (zCons (yC (.str "ro")) (zCons (yC (.str "oo")) Zn))) (y1 intV (y2 eqV (yPk 1) (yC (.str "store"))))) (zCons (yC (.str "o")) Zn))) (y1 intV (y2 eqV (yPk 1) (yC (.str "out")))))) rNx)
  (rSq (rIf (uBl (y2 neV (y1 lenV (yPk 0)) (y2 addV (y1 lenV (yPk 2)) (yC (.int (1)))))) (rRt (yC .non)) rNx)
  (rSq (rAo 3 (yLst (zCons (Yv 1) Zn)))
  (rSq (rFor (jRg1 (y1 lenV (yPk 2))) (qNm 4) (l_law_read_line_0))
  (rSq (rIf (uBl (y2 inTV (yC .non) (yPk 3))) (rRt (yC .non)) rNx)
  (rRt (y1 tupleV (yPk 3)))))))))))
def g_law_read_line:F2:=fn2 5 gb_law_read_line
theorem m_law_read_line:SF T g_law_read_line f_law_read_line:=sf_fn
  ((ss_sq (ss_as (sx_2 o_ix Spv (Sxi).p))
   (ss_sq (ss_if (st_bl (sx_2 o_ninT Spv ((sf_call m_law_kinds Sn).p))) (ss_rt sx_non) ss_nx)
   (ss_sq (ss_as sx_str)
   (ss_sq (ss_if (st_bl (sx_2 o_in Spv ((sf_lst (Sa sx_str (Sa sx_str (Sa sx_str Sn)))).p))) (ss_as (sx_2 o_ix ((sf_lst (Sa (sx_2 o_ix ((sf_lst (Sa sx_str (Sa sx_str Sn))).p) (((sx_A o_int (((sx_2 o_eq Spv (sx_str).p)).p))).p)) (Sa sx_str Sn))).p) (((sx_A o_int (((sx_2 o_eq Spv (sx_str).p)).p))).p))) ss_nx)
   (ss_sq (ss_if (st_bl (sx_2 o_ne (((sx_A o_len Spv)).p) (((sx_2 o_add (((sx_A o_len Spv)).p) (Sxi).p)).p))) (ss_rt sx_non) ss_nx)
   (ss_sq (ss_ao (sf_lst (Sa Sv Sn)))
   (ss_sq (ss_for (si_rg1 (sx_A o_len Spv)) sg_nm (ss_if (st_bl (sx_2 o_eq (((sx_2 o_ix Spv Spv)).p) (sx_str).p)) (ss_ae (sx_call m_law_register (Sa (sx_2 o_ix Spv (((sx_2 o_add Spv (Sxi).p)).p)) Sn))) (ss_ae (sx_call m_law_read_operand (Sa (sx_2 o_ix Spv (((sx_2 o_add Spv (Sxi).p)).p)) Sn)))))
   (ss_sq (ss_if (st_bl (sx_2 o_inT (sx_non).p Spv)) (ss_rt sx_non) ss_nx)
   (ss_rt (sx_A o_tuple Spv)))))))))))
def l_law_read_0:S2:=
 (rSq (rAs 5 (yLc [6] (jAny (y2 splitV (y2 ixV (y2 splitV (y2 ixV (yPk 0) (yPk 4)) (yC (.str "#"))) (yC (.int (0)))) (yC (.str " ")))) (qNm 6) (uBl (y2 neV (yPk 6) (yC (.str "")))) (Yv 6)))
  (rSq (rIf (uNt (uTru (yPk 5))) rCt rNx)
  (rIf (uBl (y2 eqV (y2 ixV (yPk 5) (yC (.int (0)))) (yC (.str "loop")))) (rSq (rIf (uOr (uBl (y2 notNV (yPk 2) (yC .non))) (uOr (uBl (y2 neV (y1 lenV (yPk 5)) (yC (.int (2))))) (uBl (y2 isNV (Yc 1 g_law_read_operand (zCons (y2 ixV (yPk 5) (yC (.int (1)))) Zn)) (yC .non))))) (rRt (yLst (zCons (yC (.str "parse")) (zCons (Yv 4) Zn)))) rNx)
  (rSq (rAs 2 (Yc 1 g_law_read_operand (zCons (y2 ixV (yPk 5) (yC (.int (1)))) Zn)))
  (rAo 3 (yLst Zn)))) (rIf (uBl (y2 eqV (yPk 5) (yLst (zCons (yC (.str "end")) Zn)))) (rSq (rIf (uOr (uBl (y2 isNV (yPk 2) (yC .non))) (uNt (uTru (yPk 3)))) (rRt (yLst (zCons (yC (.str "parse")) (zCons (Yv 4) Zn)))) rNx)
  (rSq (rAe 1 (yTup (zCons (yC (.str "loop")) (zCons (Yv 2) (zCons (y1 tupleV (yPk 3)) Zn)))))
  (rAs 2 (yC .non)))) (rSq (rAs 7 (Yc 1 g_law_read_line (zCons (Yv 5) Zn)))
  (rSq (rIf (uBl (y2 isNV (yPk 7) (yC .non))) (rRt (yLst (zCons (yC (.str "parse")) (zCons (Yv 4) Zn)))) rNx)
  (rIf (uBl (y2 isNV (yPk 2) (yC .non))) (rAe 1 (Yv 7)) (rAe 3 (Yv 7)))))))))
def gb_law_read:S2:=
 (rSq (rAo 1 (yLst Zn))
  (rSq (rAs 2 (yC .non))
  (rSq (rAo 3 (yLst Zn))
  (rSq (rFor (jRg1 (y1 lenV (yPk 0))) (qNm 4) (l_law_read_0))
  (rSq (rIf (uBl (y2 notNV (yPk 2) (yC .non))) (rRt (yLst (zCons (yC (.str "parse")) (zCons (y1 lenV (yPk 0)) Zn)))) rNx)
  (rRt (yLst (zCons (yC (.str "good")) (zCons (y1 tupleV (yPk 1)) Zn)))))))))
def g_law_read:F2:=fn2f 8 gb_law_read
theorem m_law_read:SFf T g_law_read f_law_read:=sff_fn
  ((ss_sq (ss_ao (sf_lst Sn))
   (ss_sq (ss_as sx_non)
   (ss_sq (ss_ao (sf_lst Sn))
   (ss_sq (ss_for (si_rg1 (sx_A o_len Spv)) sg_nm (ss_sq (ss_as ((sf_lc (vs:=[6]) (sip_any ((sf_m1 c_split o_split (((sx_2 o_ix ((sf_m1 c_split o_split (((sx_2 o_ix Spv Spv)).p) (sx_str).p).p) (Sxi).p)).p) (sx_str).p).p)) sp_nm (st_bl (sx_2 o_ne Spv (sx_str).p)) Sv).x))
   (ss_sq (ss_if (st_not (st_tru Spv)) ss_ct ss_nx)
   (ss_if (st_bl (sx_2 o_eq (((sx_2 o_ix Spv (Sxi).p)).p) (sx_str).p)) (ss_sq (ss_if (st_or (st_bl (sx_2 o_notN Spv (sx_non).p)) (st_or (st_bl (sx_2 o_ne (((sx_A o_len Spv)).p) (Sxi).p)) (st_bl (sx_2 o_isN (((sx_call m_law_read_operand (Sa (sx_2 o_ix Spv (Sxi).p) Sn))).p) (sx_non).p)))) (ss_rtf (sf_lst (Sa sx_str (Sa Sv Sn)))) ss_nx)
   (ss_sq (ss_as (sx_call m_law_read_operand (Sa (sx_2 o_ix Spv (Sxi).p) Sn)))
   (ss_ao (sf_lst Sn)))) (ss_if (st_bl (sx_2 o_eq Spv ((sf_lst (Sa sx_str Sn)).p))) (ss_sq (ss_if (st_or (st_bl (sx_2 o_isN Spv (sx_non).p)) (st_not (st_tru Spv))) (ss_rtf (sf_lst (Sa sx_str (Sa Sv Sn)))) ss_nx)
   (ss_sq (ss_ae (sx_tup (Sa sx_str (Sa Sv (Sa (sx_A o_tuple Spv) Sn)))))
   (ss_as sx_non))) (ss_sq (ss_as (sx_call m_law_read_line (Sa Sv Sn)))
   (ss_sq (ss_if (st_bl (sx_2 o_isN Spv (sx_non).p)) (ss_rtf (sf_lst (Sa sx_str (Sa Sv Sn)))) ss_nx)
   (ss_if (st_bl (sx_2 o_isN Spv (sx_non).p)) (ss_ae Sv) (ss_ae Sv)))))))))
   (ss_sq (ss_if (st_bl (sx_2 o_notN Spv (sx_non).p)) (ss_rtf (sf_lst (Sa sx_str (Sa (sx_A o_len Spv) Sn)))) ss_nx)
   (ss_rtf (sf_lst (Sa sx_str (Sa (sx_A o_tuple Spv) Sn))))))))))
def gb_law_due:S2:=
 (rSq (rAs 1 (y2 splitV (yPk 0) (yC (.str "\n"))))
  (rSq (rIf (uBl (y2 gtV (y1 lenV (yPk 0)) (yC (.int (4000))))) (rRt (yLst (zCons (yC (.str "limit")) (zCons (yC (.bl true)) Zn)))) rNx)
  (rSq (rAs 2 (Yc 1 g_law_read (zCons (Yv 1) Zn)))
  (rSq (rIf (uBl (y2 eqV (y2 ixV (yPk 2) (yC (.int (0)))) (yC (.str "parse")))) (rRt (y2 catV (yPk 2) (yLst (zCons (yC (.bl true)) Zn)))) rNx)
  (rSq (rIf (uOr (uTru (Yc 1 g_law_large (zCons (y2 ixV (yPk 2) (yC (.int (1)))) Zn))) (uOr (uBl (y2 gtV (y1 lenV (y2 ixV (yPk 2) (yC (.int (1))))) (yC (.int (12))))) (uTru (y1 anyV (yLc [3] (jAny (y2 ixV (yPk 2) (yC (.int (1))))) (qNm 3) uYs (yAn (y2 eqV (y2 ixV (yPk 3) (yC (.int (0)))) (yC (.str "loop"))) (y2 gtV (y1 lenV (y2 ixV (yPk 3) (yC (.int (2))))) (yC (.int (12)))))))))) (rRt (yLst (zCons (yC (.str "limit")) (zCons (yC (.bl true)) Zn)))) rNx)
  (rRt (Yv 2)))))))
def g_law_due:F2:=fn2 4 gb_law_due
theorem m_law_due:SF T g_law_due f_law_due:=sf_fn
  ((ss_sq (ss_as ((sf_m1 c_split o_split Spv (sx_str).p).x))
   (ss_sq (ss_if (st_bl (sx_2 o_cmp (((sx_A o_len Spv)).p) (Sxi).p)) (ss_rt ((sf_lst (Sa sx_str (Sa sx_bl Sn))).x)) ss_nx)
   (ss_sq (ss_as ((sf_call m_law_read (Sa Sv Sn)).x))
   (ss_sq (ss_if (st_bl (sx_2 o_eq (((sx_2 o_ix Spv (Sxi).p)).p) (sx_str).p)) (ss_rt ((sf_2 o_cat Spv ((sf_lst (Sa sx_bl Sn)).p)).x)) ss_nx)
   (ss_sq (ss_if (st_or (st_tru (((sx_call m_law_large (Sa (sx_2 o_ix Spv (Sxi).p) Sn))).p)) (st_or (st_bl (sx_2 o_cmp (((sx_A o_len (((sx_2 o_ix Spv (Sxi).p)).p))).p) (Sxi).p)) (st_tru (((sx_A o_any ((sf_lc (vs:=[3]) (sip_any (((sx_2 o_ix Spv (Sxi).p)).p)) sp_nm st_ys (sx_and (sx_2 o_eq (((sx_2 o_ix Spv (Sxi).p)).p) (sx_str).p) (sx_2 o_cmp (((sx_A o_len (((sx_2 o_ix Spv (Sxi).p)).p))).p) (Sxi).p))).p))).p)))) (ss_rt ((sf_lst (Sa sx_str (Sa sx_bl Sn))).x)) ss_nx)
   (ss_rt Sv)))))))
def gb_law_spoilt_lines:S2:=
 (rSq (rAs 2 (Yc 2 g_law_take (zCons (Yv 0) (zCons (y2 addV (y1 lenV (yPk 1)) (yC (.int (1)))) Zn))))
  (rSq (rAs 3 (yLst (zCons (yC (.str "end")) (zCons (yC (.str "loop 3")) (zCons (yC (.str "loop r1")) (zCons (yC (.str "loop")) (zCons (yC (.str "loop 1 2")) (zCons (yC (.str "foo r1")) (zCons (yC (.str "add r1 r2")) (zCons (yC (.str "add 1 r2 r3")) (zCons (yC (.str "out 5")) (zCons (yC (.str "out")) (zCons (yC (.str "store 1")) (zCons (yC (.str "")) (zCons (yC (.str "# loop")) Zn)))))))))))))))
  (rSq (rAs 3 (y2 catV (yPk 3) (yLst (zCons (yC (.str "ADD r1 r2 5")) (zCons (yC (.str "Out 5")) (zCons (yC (.str "LOOP 3")) (zCons (yC (.str "END")) (zCons (yC (.str "adds r1 r2 5")) (zCons (yC (.str "loop3")) (zCons (yC (.str "ending")) (zCons (yC (.str "out --5")) (zCons (yC (.str "out -007")) (zCons (yC (.str "out -99999999999")) Zn)))))))))))))
  (rSq (rAs 3 (y2 catV (yPk 3) (yLst (zCons (yC (.str "load r1 2 3")) (zCons (yC (.str "end end")) (zCons (yC (.str "and r1 1 2 3")) (zCons (yC (.str "add r1 r2 5")) (zCons (yC (.str "mul r15 r16 1")) (zCons (yC (.str "out -0")) (zCons (yC (.str "out 2147483648")) (zCons (yC (.str "out -2147483649")) Zn)))))))))))
  (rSq (rAs 4 (yLst (zCons (yC (.str "r16")) (zCons (yC (.str "r015")) (zCons (yC (.str "r")) (zCons (yC (.str "R1")) (zCons (yC (.str "r-1")) (zCons (yC (.str "-0")) (zCons (yC (.str "007")) (zCons (yC (.str "-5")) (zCons (yC (.str "r00")) (zCons (yC (.str "+1")) (zCons (yC (.str "1.5")) (zCons (yC (.str "2147483647")) Zn))))))))))))))
  (rSq (rAs 4 (y2 catV (yPk 4) (yLst (zCons (yC (.str "-007")) (zCons (yC (.str "-00")) (zCons (yC (.str "-05")) (zCons (yC (.str "--5")) (zCons (yC (.str "-")) (zCons (yC (.str "5-")) (zCons (yC (.str "-r1")) (zCons (yC (.str "- 5")) (zCons (yC (.str "-99999999999")) (zCons (yC (.str "-2147483648")) (zCons (yC (.str "-2147483649")) (zCons (yC (.str "2147483648")) (zCons (yC (.str "99999999999999999999")) (zCons (yC (.str "r99999999999")) (zCons (yC (.str "x")) (zCons (yC (.str "end")) Zn)))))))))))))))))))
  (rSq (rAs 5 (Yc 2 g_law_take (zCons (Yv 0) (zCons (yC (.int (5))) Zn))))
  (rSq (rIf (uOr (uBl (y2 eqV (yPk 5) (yC (.int (0))))) (uNt (uTru (yPk 1)))) (rRt (y2 catV (y2 catV (ySf (yPk 1) oN2 (oS2 (Yv 2))) (yLst (zCons (y2 ixV (yPk 3) (Yc 2 g_law_take (zCons (Yv 0) (zCons (y1 lenV (yPk 3)) Zn)))) Zn))) (ySf (yPk 1) (oS2 (Yv 2)) oN2))) rNx)
  (rSq (rAs 2 (y2 min2 (yPk 2) (y2 subV (y1 lenV (yPk 1)) (yC (.int (1))))))
  (rSq (rIf (uBl (y2 eqV (yPk 5) (yC (.int (1))))) (rRt (y2 catV (ySf (yPk 1) oN2 (oS2 (Yv 2))) (ySf (yPk 1) (oS2 (y2 addV (yPk 2) (yC (.int (1))))) oN2))) rNx)
  (rSq (rIf (uBl (y2 eqV (yPk 5) (yC (.int (2))))) (rRt (y2 catV (y2 catV (ySf (yPk 1) oN2 (oS2 (Yv 2))) (ySf (yPk 1) (oS2 (Yv 2)) (oS2 (y2 addV (yPk 2) (yC (.int (1))))))) (ySf (yPk 1) (oS2 (Yv 2)) oN2))) rNx)
  (rSq (rAo 6 (y2 catV (yLc [8] (jAny (y2 splitV (y2 ixV (yPk 1) (yPk 2)) (yC (.str " ")))) (qNm 8) (uBl (y2 neV (yPk 8) (yC (.str "")))) (Yv 8)) (yLst (zCons (yC (.str "")) Zn))))
  (rSq (rAs 7 (Yc 2 g_law_take (zCons (Yv 0) (zCons (y1 lenV (yPk 6)) Zn))))
  (rSq (rSi 6 (Yv 7) (y2 ixV (yPk 4) (Yc 2 g_law_take (zCons (Yv 0) (zCons (y1 lenV (yPk 4)) Zn)))))
  (rSq (rIf (uBl (y2 eqV (yPk 5) (yC (.int (4))))) (rAo 6 (y2 catV (ySf (yPk 6) oN2 (oS2 (Yv 7))) (ySf (yPk 6) (oS2 (y2 addV (yPk 7) (yC (.int (1))))) oN2))) rNx)
  (rRt (y2 catV (y2 catV (ySf (yPk 1) oN2 (oS2 (Yv 2))) (yLst (zCons (y2 joinV (yC (.str " ")) (yPk 6)) Zn))) (ySf (yPk 1) (oS2 (y2 addV (yPk 2) (yC (.int (1))))) oN2))))))))))))))))))
def g_law_spoilt_lines:F2:=fn2f 9 gb_law_spoilt_lines
theorem m_law_spoilt_lines:SFf T g_law_spoilt_lines f_law_spoilt_lines:=sff_fn
  ((ss_sq (ss_as (sx_call m_law_take (Sa Sv (Sa (sx_2 o_add (((sx_A o_len Spv)).p) (Sxi).p) Sn))))
   (ss_sq (ss_as ((sf_lst (Sa sx_str (Sa sx_str (Sa sx_str (Sa sx_str (Sa sx_str (Sa sx_str (Sa sx_str (Sa sx_str (Sa sx_str (Sa sx_str (Sa sx_str (Sa sx_str (Sa sx_str Sn)))))))))))))).x))
   (ss_sq (ss_as ((sf_2 o_cat Spv ((sf_lst (Sa sx_str (Sa sx_str (Sa sx_str (Sa sx_str (Sa sx_str (Sa sx_str (Sa sx_str (Sa sx_str (Sa sx_str (Sa sx_str Sn))))))))))).p)).x))
   (ss_sq (ss_as ((sf_2 o_cat Spv ((sf_lst (Sa sx_str (Sa sx_str (Sa sx_str (Sa sx_str (Sa sx_str (Sa sx_str (Sa sx_str (Sa sx_str Sn))))))))).p)).x))
   (ss_sq (ss_as ((sf_lst (Sa sx_str (Sa sx_str (Sa sx_str (Sa sx_str (Sa sx_str (Sa sx_str (Sa sx_str (Sa sx_str (Sa sx_str (Sa sx_str (Sa sx_str (Sa sx_str Sn))))))))))))).x))
   (ss_sq (ss_as ((sf_2 o_cat Spv ((sf_lst (Sa sx_str (Sa sx_str (Sa sx_str (Sa sx_str (Sa sx_str (Sa sx_str (Sa sx_str (Sa sx_str (Sa sx_str (Sa sx_str (Sa sx_str (Sa sx_str (Sa sx_str (Sa sx_str (Sa sx_str (Sa sx_str Sn))))))))))))))))).p)).x))
   (ss_sq (ss_as (sx_call m_law_take (Sa Sv (Sa Sxi Sn))))
   (ss_sq (ss_if (st_or (st_bl (sx_2 o_eq Spv (Sxi).p)) (st_not (st_tru Spv))) (ss_rtf (sf_2 o_cat ((sf_2 o_cat ((sf_sl Spv so_none (so_some Sv)).p) ((sf_lst (Sa (sx_2 o_ix Spv (((sx_call m_law_take (Sa Sv (Sa (sx_A o_len Spv) Sn)))).p)) Sn)).p)).p) ((sf_sl Spv (so_some Sv) so_none).p))) ss_nx)
   (ss_sq (ss_as (sx_A2 o_min2 Spv (((sx_2 o_sub (((sx_A o_len Spv)).p) (Sxi).p)).p)))
   (ss_sq (ss_if (st_bl (sx_2 o_eq Spv (Sxi).p)) (ss_rtf (sf_2 o_cat ((sf_sl Spv so_none (so_some Sv)).p) ((sf_sl Spv (so_some (sx_2 o_add Spv (Sxi).p)) so_none).p))) ss_nx)
   (ss_sq (ss_if (st_bl (sx_2 o_eq Spv (Sxi).p)) (ss_rtf (sf_2 o_cat ((sf_2 o_cat ((sf_sl Spv so_none (so_some Sv)).p) ((sf_sl Spv (so_some Sv) (so_some (sx_2 o_add Spv (Sxi).p))).p)).p) ((sf_sl Spv (so_some Sv) so_none).p))) ss_nx)
   (ss_sq (ss_ao (sf_2 o_cat ((sf_lc (vs:=[8]) (sip_any ((sf_m1 c_split o_split (((sx_2 o_ix Spv Spv)).p) (sx_str).p).p)) sp_nm (st_bl (sx_2 o_ne Spv (sx_str).p)) Sv).p) ((sf_lst (Sa sx_str Sn)).p)))
   (ss_sq (ss_as (sx_call m_law_take (Sa Sv (Sa (sx_A o_len Spv) Sn))))
   (ss_sq (ss_si Sv (sx_2 o_ix Spv (((sx_call m_law_take (Sa Sv (Sa (sx_A o_len Spv) Sn)))).p)))
   (ss_sq (ss_if (st_bl (sx_2 o_eq Spv (Sxi).p)) (ss_ao (sf_2 o_cat ((sf_sl Spv so_none (so_some Sv)).p) ((sf_sl Spv (so_some (sx_2 o_add Spv (Sxi).p)) so_none).p))) ss_nx)
   (ss_rtf (sf_2 o_cat ((sf_2 o_cat ((sf_sl Spv so_none (so_some Sv)).p) ((sf_lst (Sa (sx_m1 c_join o_join (sx_str).p Spv) Sn)).p)).p) ((sf_sl Spv (so_some (sx_2 o_add Spv (Sxi).p)) so_none).p)))))))))))))))))))
def gb_law_integer:S2:=
 (rRt (y2 ixV (yLst (zCons (y2 subV (Yc 2 g_law_take (zCons (Yv 0) (zCons (yC (.int (9))) Zn))) (yC (.int (4)))) (zCons (Yc 2 g_law_take (zCons (Yv 0) (zCons (yC (.int (20))) Zn))) (zCons (y2 subV (Yc 2 g_law_take (zCons (Yv 0) (zCons (yC (.int (4294967296))) Zn))) (yC (.int (2147483648)))) (zCons (yC (.int (2147483647))) Zn))))) (y2 ixV (yLst (zCons (yC (.int (0))) (zCons (yC (.int (0))) (zCons (yC (.int (1))) (zCons (yC (.int (2))) (zCons (yC (.int (2))) (zCons (yC (.int (3))) Zn))))))) (Yc 2 g_law_take (zCons (Yv 0) (zCons (yC (.int (6))) Zn))))))
def g_law_integer:F2:=fn2 1 gb_law_integer
theorem m_law_integer:SF T g_law_integer f_law_integer:=sf_fn
  ((ss_rt (sx_2 o_ix ((sf_lst (Sa (sx_2 o_sub (((sx_call m_law_take (Sa Sv (Sa Sxi Sn)))).p) (Sxi).p) (Sa (sx_call m_law_take (Sa Sv (Sa Sxi Sn))) (Sa (sx_2 o_sub (((sx_call m_law_take (Sa Sv (Sa Sxi Sn)))).p) (Sxi).p) (Sa Sxi Sn))))).p) (((sx_2 o_ix ((sf_lst (Sa Sxi (Sa Sxi (Sa Sxi (Sa Sxi (Sa Sxi (Sa Sxi Sn))))))).p) (((sx_call m_law_take (Sa Sv (Sa Sxi Sn)))).p))).p))))
def gb_law_operand:S2:=
 (rSq (rIf (uBl (y2 neV (Yc 2 g_law_take (zCons (Yv 0) (zCons (yC (.int (3))) Zn))) (yC (.int (0))))) (rRt (yTup (zCons (yC (.str "reg")) (zCons (Yc 2 g_law_take (zCons (Yv 0) (zCons (Yv 1) Zn))) Zn)))) rNx)
  (rRt (yTup (zCons (yC (.str "int")) (zCons (Yc 1 g_law_integer (zCons (Yv 0) Zn)) Zn)))))
def g_law_operand:F2:=fn2 2 gb_law_operand
theorem m_law_operand:SF T g_law_operand f_law_operand:=sf_fn
  ((ss_sq (ss_if (st_bl (sx_2 o_ne (((sx_call m_law_take (Sa Sv (Sa Sxi Sn)))).p) (Sxi).p)) (ss_rt (sx_tup (Sa sx_str (Sa (sx_call m_law_take (Sa Sv (Sa Sv Sn))) Sn)))) ss_nx)
   (ss_rt (sx_tup (Sa sx_str (Sa (sx_call m_law_integer (Sa Sv Sn)) Sn))))))
def gb_law_instruction:S2:=
 (rSq (rAs 2 (y2 ixV (yLst (zCons (yC (.str "add")) (zCons (yC (.str "and")) (zCons (yC (.str "less")) (zCons (yC (.str "load")) (zCons (yC (.str "mul")) (zCons (yC (.str "out")) (zCons (yC (.str "store")) (zCons (yC (.str "sub")) (zCons (yC (.str "add")) (zCons (yC (.str "out")) (zCons (yC (.str "load")) (zCons (yC (.str "store")) Zn))))))))))))) (Yc 2 g_law_take (zCons (Yv 0) (zCons (yC (.int (12))) Zn)))))
  (rSq (rIf (uBl (y2 eqV (yPk 2) (yC (.str "out")))) (rRt (yTup (zCons (yC (.str "out")) (zCons (Yc 2 g_law_operand (zCons (Yv 0) (zCons (Yv 1) Zn))) Zn)))) rNx)
  (rSq (rAs 3 (yTup (zCons (yC (.str "int")) (zCons (y2 subV (Yc 2 g_law_take (zCons (Yv 0) (zCons (y2 ixV (yLst (zCons (yC (.int (3))) (zCons (yC (.int (40))) Zn))) (Yc 2 g_law_take (zCons (Yv 0) (zCons (yC (.int (2))) Zn)))) Zn))) (yC (.int (1)))) Zn))))
  (rSq (rIf (uBl (y2 eqV (yPk 2) (yC (.str "load")))) (rRt (yTup (zCons (yC (.str "load")) (zCons (Yc 2 g_law_take (zCons (Yv 0) (zCons (Yv 1) Zn))) (zCons (y2 ixV (yLst (zCons (Yv 3) (zCons (Yc 2 g_law_operand (zCons (Yv 0) (zCons (Yv 1) Zn))) Zn))) (Yc 2 g_law_take (zCons (Yv 0) (zCons (yC (.int (2))) Zn)))) Zn))))) rNx)
  (rSq (rIf (uBl (y2 eqV (yPk 2) (yC (.str "store")))) (rRt (yTup (zCons (yC (.str "store")) (zCons (y2 ixV (yLst (zCons (Yv 3) (zCons (Yc 2 g_law_operand (zCons (Yv 0) (zCons (Yv 1) Zn))) Zn))) (Yc 2 g_law_take (zCons (Yv 0) (zCons (yC (.int (2))) Zn)))) (zCons (Yc 2 g_law_operand (zCons (Yv 0) (zCons (Yv 1) Zn))) Zn))))) rNx)
  (rRt (yTup (zCons (Yv 2) (zCons (Yc 2 g_law_take (zCons (Yv 0) (zCons (Yv 1) Zn))) (zCons (Yc 2 g_law_operand (zCons (Yv 0) (zCons (Yv 1) Zn))) (zCons (Yc 2 g_law_operand (zCons (Yv 0) (zCons (Yv 1) Zn))) Zn)))))))))))
def g_law_instruction:F2:=fn2 4 gb_law_instruction
theorem m_law_instruction:SF T g_law_instruction f_law_instruction:=sf_fn
  ((ss_sq (ss_as (sx_2 o_ix ((sf_lst (Sa sx_str (Sa sx_str (Sa sx_str (Sa sx_str (Sa sx_str (Sa sx_str (Sa sx_str (Sa sx_str (Sa sx_str (Sa sx_str (Sa sx_str (Sa sx_str Sn))))))))))))).p) (((sx_call m_law_take (Sa Sv (Sa Sxi Sn)))).p)))
   (ss_sq (ss_if (st_bl (sx_2 o_eq Spv (sx_str).p)) (ss_rt (sx_tup (Sa sx_str (Sa (sx_call m_law_operand (Sa Sv (Sa Sv Sn))) Sn)))) ss_nx)
   (ss_sq (ss_as (sx_tup (Sa sx_str (Sa (sx_2 o_sub (((sx_call m_law_take (Sa Sv (Sa (sx_2 o_ix ((sf_lst (Sa Sxi (Sa Sxi Sn))).p) (((sx_call m_law_take (Sa Sv (Sa Sxi Sn)))).p)) Sn)))).p) (Sxi).p) Sn))))
   (ss_sq (ss_if (st_bl (sx_2 o_eq Spv (sx_str).p)) (ss_rt (sx_tup (Sa sx_str (Sa (sx_call m_law_take (Sa Sv (Sa Sv Sn))) (Sa (sx_2 o_ix ((sf_lst (Sa Sv (Sa (sx_call m_law_operand (Sa Sv (Sa Sv Sn))) Sn))).p) (((sx_call m_law_take (Sa Sv (Sa Sxi Sn)))).p)) Sn))))) ss_nx)
   (ss_sq (ss_if (st_bl (sx_2 o_eq Spv (sx_str).p)) (ss_rt (sx_tup (Sa sx_str (Sa (sx_2 o_ix ((sf_lst (Sa Sv (Sa (sx_call m_law_operand (Sa Sv (Sa Sv Sn))) Sn))).p) (((sx_call m_law_take (Sa Sv (Sa Sxi Sn)))).p)) (Sa (sx_call m_law_operand (Sa Sv (Sa Sv Sn))) Sn))))) ss_nx)
   (ss_rt (sx_tup (Sa Sv (Sa (sx_call m_law_take (Sa Sv (Sa Sv Sn))) (Sa (sx_call m_law_operand (Sa Sv (Sa Sv Sn))) (Sa (sx_call m_law_operand (Sa Sv (Sa Sv Sn))) Sn))))))))))))
def gb_law_block:S2:=
 (rRt (y1 tupleV (yLc [3] (jRg1 (Yc 2 g_law_take (zCons (Yv 0) (zCons (y2 addV (yPk 2) (yC (.int (1)))) Zn)))) (qNm 3) uYs (Yc 2 g_law_instruction (zCons (Yv 0) (zCons (Yv 1) Zn))))))
def g_law_block:F2:=fn2 4 gb_law_block
theorem m_law_block:SF T g_law_block f_law_block:=sf_fn
  ((ss_rt (sx_A o_tuple ((sf_lc (vs:=[3]) (((si_rg1 (sx_call m_law_take (Sa Sv (Sa (sx_2 o_add Spv (Sxi).p) Sn))))).p) sp_nm st_ys (sx_call m_law_instruction (Sa Sv (Sa Sv Sn)))).p))))
def l_law_program_0:S2:=
 (rIf (uBl (y2 eqV (Yc 2 g_law_take (zCons (Yv 0) (zCons (yC (.int (3))) Zn))) (yC (.int (0))))) (rSq (rAs 5 (y2 ixV (yLst (zCons (yTup (zCons (yC (.str "int")) (zCons (y2 subV (Yc 2 g_law_take (zCons (Yv 0) (zCons (yC (.int (7))) Zn))) (yC (.int (1)))) Zn))) (zCons (yTup (zCons (yC (.str "reg")) (zCons (Yc 2 g_law_take (zCons (Yv 0) (zCons (Yv 1) Zn))) Zn))) (zCons (yTup (zCons (yC (.str "int")) (zCons (y2 ixV (yLst (zCons (Yc 2 g_law_take (zCons (Yv 0) (zCons (yC (.int (50))) Zn))) (zCons (Yc 1 g_law_integer (zCons (Yv 0) Zn)) Zn))) (Yc 2 g_law_take (zCons (Yv 0) (zCons (yC (.int (2))) Zn)))) Zn))) Zn)))) (Yc 2 g_law_take (zCons (Yv 0) (zCons (yC (.int (3))) Zn)))))
  (rAe 3 (yTup (zCons (yC (.str "loop")) (zCons (Yv 5) (zCons (y2 addV (yTup (zCons (Yc 2 g_law_instruction (zCons (Yv 0) (zCons (Yv 1) Zn))) Zn)) (Yc 3 g_law_block (zCons (Yv 0) (zCons (Yv 1) (zCons (y2 subV (yPk 2) (yC (.int (1)))) Zn))))) Zn)))))) (rAo 3 (y2 catV (yPk 3) (y1 listV (Yc 3 g_law_block (zCons (Yv 0) (zCons (Yv 1) (zCons (yC (.int (4))) Zn))))))))
def gb_law_program:S2:=
 (rSq (rAo 3 (yLst Zn))
  (rSq (rFor (jRg1 (Yc 2 g_law_take (zCons (Yv 0) (zCons (yC (.int (5))) Zn)))) (qNm 4) (l_law_program_0))
  (rRt (y1 tupleV (ySf (yPk 3) oN2 (oS2 (yC (.int (12)))))))))
def g_law_program:F2:=fn2 6 gb_law_program
theorem m_law_program:SF T g_law_program f_law_program:=sf_fn
  ((ss_sq (ss_ao (sf_lst Sn))
   (ss_sq (ss_for (si_rg1 (sx_call m_law_take (Sa Sv (Sa Sxi Sn)))) sg_nm (ss_if (st_bl (sx_2 o_eq (((sx_call m_law_take (Sa Sv (Sa Sxi Sn)))).p) (Sxi).p)) (ss_sq (ss_as (sx_2 o_ix ((sf_lst (Sa (sx_tup (Sa sx_str (Sa (sx_2 o_sub (((sx_call m_law_take (Sa Sv (Sa Sxi Sn)))).p) (Sxi).p) Sn))) (Sa (sx_tup (Sa sx_str (Sa (sx_call m_law_take (Sa Sv (Sa Sv Sn))) Sn))) (Sa (sx_tup (Sa sx_str (Sa (sx_2 o_ix ((sf_lst (Sa (sx_call m_law_take (Sa Sv (Sa Sxi Sn))) (Sa (sx_call m_law_integer (Sa Sv Sn)) Sn))).p) (((sx_call m_law_take (Sa Sv (Sa Sxi Sn)))).p)) Sn))) Sn)))).p) (((sx_call m_law_take (Sa Sv (Sa Sxi Sn)))).p)))
   (ss_ae (sx_tup (Sa sx_str (Sa Sv (Sa (sx_2 o_add (((sx_tup (Sa (sx_call m_law_instruction (Sa Sv (Sa Sv Sn))) Sn))).p) (((sx_call m_law_block (Sa Sv (Sa Sv (Sa (sx_2 o_sub Spv (Sxi).p) Sn))))).p)) Sn)))))) (ss_ao (sf_2 o_cat Spv ((sf_A o_list (((sx_call m_law_block (Sa Sv (Sa Sv (Sa Sxi Sn))))).p)).p)))))
   (ss_rt (sx_A o_tuple ((sf_sl Spv so_none (so_some Sxi)).p))))))
def gb_law_shown:S2:=
 (rSq (rIf (uTru (y1 (isV "tuple") (yPk 0))) (rRt (y2 addV (y2 ixV (yLst (zCons (yC (.str "")) (zCons (yC (.str "r")) Zn))) (y1 intV (y2 eqV (y2 ixV (yPk 0) (yC (.int (0)))) (yC (.str "reg"))))) (y1 strV (y2 ixV (yPk 0) (yC (.int (1))))))) rNx)
  (rRt (y2 addV (yC (.str "r")) (y1 strV (yPk 0)))))
def g_law_shown:F2:=fn2 1 gb_law_shown
theorem m_law_shown:SF T g_law_shown f_law_shown:=sf_fn
  ((ss_sq (ss_if (st_tru (((sx_1 o_is Spv)).p)) (ss_rt (sx_2 o_add (((sx_2 o_ix ((sf_lst (Sa sx_str (Sa sx_str Sn))).p) (((sx_A o_int (((sx_2 o_eq (((sx_2 o_ix Spv (Sxi).p)).p) (sx_str).p)).p))).p))).p) (((sx_A o_str (((sx_2 o_ix Spv (Sxi).p)).p))).p))) ss_nx)
   (ss_rt (sx_2 o_add (sx_str).p (((sx_A o_str Spv)).p)))))
def gb_law_line:S2:=
 (rRt (y2 joinV (yC (.str " ")) (y2 catV (yLst (zCons (y2 ixV (yPk 0) (yC (.int (0)))) Zn)) (yLc [1] (jAny (ySl (yPk 0) (oS2 (yC (.int (1)))) oN2)) (qNm 1) uYs (Yc 1 g_law_shown (zCons (Yv 1) Zn))))))
def g_law_line:F2:=fn2 2 gb_law_line
theorem m_law_line:SF T g_law_line f_law_line:=sf_fn
  ((ss_rt (sx_m1 c_join o_join (sx_str).p ((sf_2 o_cat ((sf_lst (Sa (sx_2 o_ix Spv (Sxi).p) Sn)).p) ((sf_lc (vs:=[1]) (sip_any (((sx_sl Spv (so_some Sxi) so_none)).p)) sp_nm st_ys (sx_call m_law_shown (Sa Sv Sn))).p)).p))))
def l_law_lines_0:S2:=
 (rIf (uBl (y2 eqV (y2 ixV (yPk 2) (yC (.int (0)))) (yC (.str "loop")))) (rSq (rAe 1 (y2 addV (yC (.str "loop ")) (Yc 1 g_law_shown (zCons (y2 ixV (yPk 2) (yC (.int (1)))) Zn))))
  (rAo 1 (y2 catV (y2 catV (yPk 1) (yLc [3] (jAny (y2 ixV (yPk 2) (yC (.int (2))))) (qNm 3) uYs (y2 addV (yC (.str "  ")) (Yc 1 g_law_line (zCons (Yv 3) Zn))))) (yLst (zCons (yC (.str "end")) Zn))))) (rAe 1 (Yc 1 g_law_line (zCons (Yv 2) Zn))))
def gb_law_lines:S2:=
 (rSq (rAo 1 (yLst Zn))
  (rSq (rFor (jAny (Yv 0)) (qNm 2) (l_law_lines_0))
  (rRo 1)))
def g_law_lines:F2:=fn2f 4 gb_law_lines
theorem m_law_lines:SFf T g_law_lines f_law_lines:=sff_fn
  ((ss_sq (ss_ao (sf_lst Sn))
   (ss_sq (ss_for (si_any Sv) sg_nm (ss_if (st_bl (sx_2 o_eq (((sx_2 o_ix Spv (Sxi).p)).p) (sx_str).p)) (ss_sq (ss_ae (sx_2 o_add (sx_str).p (((sx_call m_law_shown (Sa (sx_2 o_ix Spv (Sxi).p) Sn))).p)))
   (ss_ao (sf_2 o_cat ((sf_2 o_cat Spv ((sf_lc (vs:=[3]) (sip_any (((sx_2 o_ix Spv (Sxi).p)).p)) sp_nm st_ys (sx_2 o_add (sx_str).p (((sx_call m_law_line (Sa Sv Sn))).p))).p)).p) ((sf_lst (Sa sx_str Sn)).p)))) (ss_ae (sx_call m_law_line (Sa Sv Sn)))))
   ss_ro)))
def l_law_0:S2:=
 (rAs 2 (Yc 2 g_law_spoilt_lines (zCons (Yv 1) (zCons (Yv 2) Zn))))
def gb_law:S2:=
 (rSq (rAs 2 (Yc 1 g_law_lines (zCons (Yc 3 g_law_program (zCons (Yv 1) (zCons (yC (.int (16))) (zCons (yC (.int (6))) Zn)))) Zn)))
  (rSq (rFor (jRg1 (y2 addV (yC (.int (1))) (Yc 2 g_law_take (zCons (Yv 1) (zCons (yC (.int (3))) Zn))))) (qNm 3) (l_law_0))
  (rSq (rAs 4 (Yc 2 g_law_take (zCons (Yv 1) (zCons (yC (.int (8))) Zn))))
  (rSq (rIf (uBl (y2 eqV (yPk 4) (yC (.int (0))))) (rAs 2 (y2 catV (yPk 2) (yLc [3] (jRg1 (y2 subV (yC (.int (13))) (Yc 2 g_law_take (zCons (Yv 1) (zCons (yC (.int (3))) Zn))))) (qNm 3) uYs (y2 addV (yC (.str "out ")) (y1 strV (yPk 3)))))) rNx)
  (rSq (rIf (uBl (y2 eqV (yPk 4) (yC (.int (1))))) (rAs 2 (y2 catV (y2 catV (y2 catV (yPk 2) (yLst (zCons (yC (.str "loop 2")) Zn))) (y2 repV (yLst (zCons (yC (.str "  out 1")) Zn)) (y2 addV (yC (.int (11))) (Yc 2 g_law_take (zCons (Yv 1) (zCons (yC (.int (3))) Zn)))))) (yLst (zCons (yC (.str "end")) Zn)))) rNx)
  (rSq (rAs 5 (y2 joinV (yC (.str "\n")) (yPk 2)))
  (rSq (rIf (uBl (y2 eqV (yPk 4) (yC (.int (2))))) (rAs 5 (y2 addV (yPk 5) (y2 smulV (yC (.str "#")) (y2 subV (y2 addV (yC (.int (3998))) (Yc 2 g_law_take (zCons (Yv 1) (zCons (yC (.int (5))) Zn)))) (y1 lenV (yPk 5)))))) rNx)
  (rRt (y2 eqV (Yc 1 g_law_told (zCons (Yv 5) Zn)) (Yc 1 g_law_due (zCons (Yv 5) Zn)))))))))))
theorem m_law:SS T false gb_law b_law_rest:=(ss_sq (ss_as ((sf_call m_law_lines (Sa (sx_call m_law_program (Sa Sv (Sa Sxi (Sa Sxi Sn)))) Sn)).x))
   (ss_sq (ss_for (si_rg1 (sx_2 o_add (Sxi).p (((sx_call m_law_take (Sa Sv (Sa Sxi Sn)))).p))) sg_nm (ss_as ((sf_call m_law_spoilt_lines (Sa Sv (Sa Sv Sn))).x)))
   (ss_sq (ss_as (sx_call m_law_take (Sa Sv (Sa Sxi Sn))))
   (ss_sq (ss_if (st_bl (sx_2 o_eq Spv (Sxi).p)) (ss_as ((sf_2 o_cat Spv ((sf_lc (vs:=[3]) (((si_rg1 (sx_2 o_sub (Sxi).p (((sx_call m_law_take (Sa Sv (Sa Sxi Sn)))).p)))).p) sp_nm st_ys (sx_2 o_add (sx_str).p (((sx_A o_str Spv)).p))).p)).x)) ss_nx)
   (ss_sq (ss_if (st_bl (sx_2 o_eq Spv (Sxi).p)) (ss_as ((sf_2 o_cat ((sf_2 o_cat ((sf_2 o_cat Spv ((sf_lst (Sa sx_str Sn)).p)).p) ((sf_2 o_rep ((sf_lst (Sa sx_str Sn)).p) (((sx_2 o_add (Sxi).p (((sx_call m_law_take (Sa Sv (Sa Sxi Sn)))).p))).p)).p)).p) ((sf_lst (Sa sx_str Sn)).p)).x)) ss_nx)
   (ss_sq (ss_as (sx_m1 c_join o_join (sx_str).p Spv))
   (ss_sq (ss_if (st_bl (sx_2 o_eq Spv (Sxi).p)) (ss_as (sx_2 o_add Spv (((sx_2 o_smul (sx_str).p (((sx_2 o_sub (((sx_2 o_add (Sxi).p (((sx_call m_law_take (Sa Sv (Sa Sxi Sn)))).p))).p) (((sx_A o_len Spv)).p))).p))).p))) ss_nx)
   (ss_rt (sx_2 o_eq (((sx_call m_law_told (Sa Sv Sn))).p) (((sx_call m_law_due (Sa Sv Sn))).p))))))))))
end
end Gen
end
section
namespace Gen
open Rf L2 V2
open PySem (Str)
theorem law_run {rest:Sx}{N C:Nat}{m0 m1 m':Mem}{v':Env}(e1:f_law_start [.ref 0] m0=some (.ref C,m1))(r1:rest (some (.ref 0)::some (.ref C)::List.replicate N none) m1=some (.rt (.bl true),v',m')):fnF (N+2) (sSq (sAs (Xc 1 f_law_start (Ac (Xv 0) An)) (gNm 1)) rest) [.ref 0] m0=some (.bl true,m'):=
 rfn_rt (E:=some (.ref 0)::none::List.replicate N none) rfl ((rsq (ras_at (Rka (Rca (Rva rfl) rN) rfl e1) rfl)).trans r1)
theorem law_of (k:∀c:Cs,∃v c',gb_law (none::some (.v .tok)::List.replicate (6-2) none) c=some (.rt (.bl true),v,c'))(ns:List Int)(h:ns.length≤63):∃m,f_law [.ref 0] [.rol (ns.map PV.int)]=some (.bl true,m):=by
 obtain⟨A,m1,e1,w⟩:=start_ok ns h
 obtain⟨v,c',e2⟩:=k ⟨ns,0,0,0,Int.le_refl _,Int.le_refl _,Int.le_refl _⟩
 have E:EnvR T0 A m1 m1.length (none::some (.v .tok)::List.replicate (6-2) none) (some (.ref 0)::some (.ref T0.c)::List.replicate (6-2) none):=by
  refine⟨by simp,fun i s q=>?_,fun i j ds es k q=>?_⟩
  ·match i with
   | 0=>cases q
   | 1=>
    cases q
    exact⟨.ref T0.c,rfl,by show D2 T0 A m1 .tok _;rw [D2]⟩
   | i+2=>
    simp only [List.getElem?_cons_succ] at q
    rw [List.getElem?_replicate] at q
    split at q<;>cases q
  ·match i with
   | 0=>cases q
   | 1=>cases q
   | i+2=>
    simp only [List.getElem?_cons_succ] at q
    rw [List.getElem?_replicate] at q
    split at q<;>cases q
 obtain⟨f,v',m',A',r1,r2,r3,r4,r5⟩:=m_law (T:=T0) A m1 _ m1.length _ _ w E (znr _) _ _ _ e2
 obtain⟨p,rfl,hp⟩:=r5
 rw [if_neg Bool.false_ne_true,d2_bl] at hp
 subst hp
 refine⟨m',?_⟩
 have eb:b_law=sSq (sAs (Xc 1 f_law_start (Ac (Xv 0) An)) (gNm 1)) b_law_rest:=rfl
 have r1':b_law_rest (some (.ref 0)::some (.ref T0.c)::List.replicate (6-2) none) m1=some (.rt (.bl true),v',m'):=r1
 have go:=law_run (N:=6-2) e1 r1'
 rw [←eb] at go
 exact go
theorem zl0:((0:Nat)≤PySem.sizeLine)=True:=zl _ (by decide)
theorem zl1:((1:Nat)≤PySem.sizeLine)=True:=zl _ (by decide)
theorem zl2:((2:Nat)≤PySem.sizeLine)=True:=zl _ (by decide)
theorem zl3:((3:Nat)≤PySem.sizeLine)=True:=zl _ (by decide)
theorem zl4:((4:Nat)≤PySem.sizeLine)=True:=zl _ (by decide)
theorem zl5:((5:Nat)≤PySem.sizeLine)=True:=zl _ (by decide)
theorem zl6:((6:Nat)≤PySem.sizeLine)=True:=zl _ (by decide)
theorem zl7:((7:Nat)≤PySem.sizeLine)=True:=zl _ (by decide)
theorem zl8:((8:Nat)≤PySem.sizeLine)=True:=zl _ (by decide)
theorem zl12:((12:Nat)≤PySem.sizeLine)=True:=zl _ (by decide)
local macro_rules | `(tactic| walk_at "q2") => `(tactic| simp only [q_var,q_pk,q_c,q_1,q_2,q_nil,q_cons,q_call,q_tup,q_lst,q_if,q_nt,q_an,q_or,q_ubl,q_unt,q_uan,q_uor,q_uys,q_utru,q_nx,q_ct,q_bk,q_sq,q_ex,q_rt,q_rn,q_ro,q_rif,q_as,q_ao,q_ap,q_fz,q_si,q_ae,q_for,q_jany,q_jrg1,q_jrg2,q_jen,q_jzp,q_qnm,q_qtp,q_qnil,q_qcons,q_lc,q_lc0,q_lc1,q_for0,q_for1,q_fn,q_fnf,q_start,q_on,q_os,q_sl,q_mxD,q_wipe1,q_wipe2,q_wipe3,
 addV,subV,mulV,modV,divV,negV,cmpV,catV,ixV,atD,lenV,intV,tupleV,listV,truV,itV,itS,isNV,notNV,nonB,eqV_int,eqV_str,neV_int,neV_str,atI_at,tne,zl0,zl1,zl2,zl3,zl4,zl5,zl6,zl7,zl8,zl12,valD,kyD,
 zob,Option.bind_none,Option.map_some,Option.map_none,zmc,List.map_nil,zlc,List.length_nil,zlm,List.length_set,List.replicate,List.cons_append,List.nil_append,List.getElem?_cons_zero,List.getElem?_cons_succ,List.set_cons_zero,List.set_cons_succ,List.isEmpty_cons,List.isEmpty_nil,ne_eq,not_false_eq_true,not_true_eq_false,Nat.reduceAdd,Nat.reduceSub,Nat.reduceEqDiff,Nat.reduceLeDiff,Nat.reduceLT,Nat.reducePow,Int.reducePow,Int.reduceNeg,Int.reduceLT,Int.reduceLE,Int.reduceToNat,Int.toNat_natCast,anyV,allV,Int.reduceAdd,Int.reduceSub,and_self,or_true,true_or,or_false,false_or,true_and,and_true,↓reduceIte,Nat.add_zero,Nat.zero_add,Nat.sub_self,decide_eq_true_eq,decide_true,decide_false,Bool.false_eq_true,Bool.not_true,Bool.not_false,id_eq, *])
inductive Op where
 | reg (k:Int)|int (n:Int)
def Op.e:Op→DV
 | .reg k=>.tup [.str "reg",.int k]
 | .int n=>.tup [.str "int",.int n]
def Op.ok (many:Int):Op→Prop
 | .reg k=>0≤k∧k<many
 | .int n => -2147483648≤n∧n≤2147483647
inductive Ak where
 | add|and|less|mul|sub
def Ak.s:Ak→Str
 | .add=>"add" | .and=>"and" | .less=>"less" | .mul=>"mul" | .sub=>"sub"
inductive In where
 | out (a:Op)|load (d:Int) (a:Op)|store (a b:Op)|ari (k:Ak) (d:Int) (a b:Op)
def In.e:In→DV
 | .out a=>.tup [.str "out",a.e]
 | .load d a=>.tup [.str "load",.int d,a.e]
 | .store a b=>.tup [.str "store",a.e,b.e]
 | .ari k d a b=>.tup [.str k.s,.int d,a.e,b.e]
def In.ok (many:Int):In→Prop
 | .out a=>a.ok many
 | .load d a=>(0≤d∧d<many)∧a.ok many
 | .store a b=>a.ok many∧b.ok many
 | .ari _ d a b=>(0≤d∧d<many)∧a.ok many∧b.ok many
theorem integer2 (c:Cs):∃(n:Int) (c':Cs),g_law_integer [.tok] c=some (.int n,c') ∧ -2147483648≤n∧n≤2147483647:=by
 obtain⟨d1,c1,e1,l1,u1⟩:=take2 c (many:=9) (by decide) (by decide)
 obtain⟨d2,c2,e2,l2,u2⟩:=take2 c1 (many:=20) (by decide) (by decide)
 obtain⟨d3,c3,e3,l3,u3⟩:=take2 c2 (many:=4294967296) (by decide) (by decide)
 obtain⟨d4,c4,e4,l4,u4⟩:=take2 c3 (many:=6) (by decide) (by decide)
 have h:d4=0∨d4=1∨d4=2∨d4=3∨d4=4∨d4=5:=by omega
 have fin:∀n:Int,(-2147483648≤n∧n≤2147483647)→g_law_integer [.tok] c=some (.int n,c4)→∃(n:Int) (c':Cs),g_law_integer [.tok] c=some (.int n,c') ∧ -2147483648≤n∧n≤2147483647:=fun n k z=>⟨n,c4,z,k⟩
 rcases h with rfl|rfl|rfl|rfl|rfl|rfl
 ·refine fin (d1-4) (by omega) ?_;clear fin l1 u1 l2 u2 l3 u3 l4 u4;unfold g_law_integer gb_law_integer;walk_at "q2"
 ·refine fin (d1-4) (by omega) ?_;clear fin l1 u1 l2 u2 l3 u3 l4 u4;unfold g_law_integer gb_law_integer;walk_at "q2"
 ·refine fin d2 (by omega) ?_;clear fin l1 u1 l2 u2 l3 u3 l4 u4;unfold g_law_integer gb_law_integer;walk_at "q2"
 ·refine fin (d3-2147483648) (by omega) ?_;clear fin l1 u1 l2 u2 l3 u3 l4 u4;unfold g_law_integer gb_law_integer;walk_at "q2"
 ·refine fin (d3-2147483648) (by omega) ?_;clear fin l1 u1 l2 u2 l3 u3 l4 u4;unfold g_law_integer gb_law_integer;walk_at "q2"
 ·refine fin 2147483647 (by omega) ?_;clear fin l1 u1 l2 u2 l3 u3 l4 u4;unfold g_law_integer gb_law_integer;walk_at "q2"
theorem operand2 (c:Cs){many:Int}(h:0<many)(h2:many≤1000):∃(x:Op) (c':Cs),g_law_operand [.tok,.int many] c=some (x.e,c')∧x.ok many:=by
 obtain⟨d1,c1,e1,l1,u1⟩:=take2 c (many:=3) (by decide) (by decide)
 by_cases h0:d1=0
 ·obtain⟨n,c2,e2,n1,n2⟩:=integer2 c1
  refine⟨.int n,c2,?_,n1,n2⟩
  subst h0
  unfold g_law_operand gb_law_operand Op.e
  walk_at "q2"
 ·obtain⟨d2,c2,e2,l2,u2⟩:=take2 c1 (many:=many) h (by omega)
  refine⟨.reg d2,c2,?_,l2,u2⟩
  unfold g_law_operand gb_law_operand Op.e
  walk_at "q2"
theorem instruction2 (c:Cs){many:Int}(h:0<many)(h2:many≤1000):∃(x:In) (c':Cs),g_law_instruction [.tok,.int many] c=some (x.e,c')∧x.ok many:=by
 obtain⟨d1,c1,e1,l1,u1⟩:=take2 c (many:=12) (by decide) (by decide)
 obtain⟨po,co,eo,ko⟩:=operand2 c1 h h2
 obtain⟨d2,c2,e2,l2,u2⟩:=take2 c1 (many:=2) (by decide) (by decide)
 obtain⟨q,hq,hq1,hq2⟩:∃q:Int,[DV.int 3,DV.int 40][d2.toNat]?=some (.int q)∧0<q∧q≤40:=by
  have:d2=0∨d2=1:=by omega
  rcases this with rfl|rfl
  ·exact⟨3,rfl,by decide,by decide⟩
  ·exact⟨40,rfl,by decide,by decide⟩
 obtain⟨d3,c3,e3,l3,u3⟩:=take2 c2 (many:=q) hq1 (by omega)
 obtain⟨d4,c4,e4,l4,u4⟩:=take2 c3 (many:=many) h (by omega)
 obtain⟨p5,c5,e5,k5⟩:=operand2 c4 h h2
 obtain⟨d6,c6,e6,l6,u6⟩:=take2 c5 (many:=2) (by decide) (by decide)
 obtain⟨p6,hp6,k6⟩:∃p6:Op,[DV.tup [.str "int",.int (d3-1)],p5.e][d6.toNat]?=some p6.e∧p6.ok many:=by
  have:d6=0∨d6=1:=by omega
  rcases this with rfl|rfl
  ·exact⟨.int (d3-1),rfl,by omega,by omega⟩
  ·exact⟨p5,rfl,k5⟩
 obtain⟨p7,c7,e7,k7⟩:=operand2 c3 h h2
 obtain⟨d8,c8,e8,l8,u8⟩:=take2 c7 (many:=2) (by decide) (by decide)
 obtain⟨p8,hp8,k8⟩:∃p8:Op,[DV.tup [.str "int",.int (d3-1)],p7.e][d8.toNat]?=some p8.e∧p8.ok many:=by
  have:d8=0∨d8=1:=by omega
  rcases this with rfl|rfl
  ·exact⟨.int (d3-1),rfl,by omega,by omega⟩
  ·exact⟨p7,rfl,k7⟩
 obtain⟨p9,c9,e9,k9⟩:=operand2 c8 h h2
 obtain⟨p10,c10,e10,k10⟩:=operand2 c5 h h2
 have ar:∀k:Ak,[DV.str "add",.str "and",.str "less",.str "load",.str "mul",.str "out",.str "store",.str "sub",.str "add",.str "out",.str "load",.str "store"][d1.toNat]?=some (.str k.s)→∃(x:In) (c':Cs),g_law_instruction [.tok,.int many] c=some (x.e,c')∧x.ok many:=fun k hg=>by
  refine⟨.ari k d4 p5 p10,c10,?_,⟨l4,by omega⟩,k5,k10⟩
  have n1:¬k.s="out":=by cases k<;>simp only [Ak.s,tne,not_false_eq_true]
  have n2:¬k.s="load":=by cases k<;>simp only [Ak.s,tne,not_false_eq_true]
  have n3:¬k.s="store":=by cases k<;>simp only [Ak.s,tne,not_false_eq_true]
  clear hp6 hp8
  unfold g_law_instruction gb_law_instruction In.e
  walk_at "q2"
 have fin:∀(x:In) (c':Cs),x.ok many→(∀(hg:True),g_law_instruction [.tok,.int many] c=some (x.e,c'))→∃(x:In) (c':Cs),g_law_instruction [.tok,.int many] c=some (x.e,c')∧x.ok many:=fun x c' k z=>⟨x,c',z trivial,k⟩
 have hout:[DV.str "add",.str "and",.str "less",.str "load",.str "mul",.str "out",.str "store",.str "sub",.str "add",.str "out",.str "load",.str "store"][d1.toNat]?=some (.str "out")→∃(x:In) (c':Cs),g_law_instruction [.tok,.int many] c=some (x.e,c')∧x.ok many:=fun hg=>by
  refine fin (.out po) co ko fun _=>?_
  clear hp6 hp8
  unfold g_law_instruction gb_law_instruction In.e
  walk_at "q2"
 have hload:[DV.str "add",.str "and",.str "less",.str "load",.str "mul",.str "out",.str "store",.str "sub",.str "add",.str "out",.str "load",.str "store"][d1.toNat]?=some (.str "load")→∃(x:In) (c':Cs),g_law_instruction [.tok,.int many] c=some (x.e,c')∧x.ok many:=fun hg=>by
  refine fin (.load d4 p6) c6 ⟨⟨l4,by omega⟩,k6⟩ fun _=>?_
  clear hp8
  unfold g_law_instruction gb_law_instruction In.e
  walk_at "q2"
 have hstore:[DV.str "add",.str "and",.str "less",.str "load",.str "mul",.str "out",.str "store",.str "sub",.str "add",.str "out",.str "load",.str "store"][d1.toNat]?=some (.str "store")→∃(x:In) (c':Cs),g_law_instruction [.tok,.int many] c=some (x.e,c')∧x.ok many:=fun hg=>by
  refine fin (.store p8 p9) c9 ⟨k8,k9⟩ fun _=>?_
  clear hp6
  unfold g_law_instruction gb_law_instruction In.e
  walk_at "q2"
 have h12:d1=0∨d1=1∨d1=2∨d1=3∨d1=4∨d1=5∨d1=6∨d1=7∨d1=8∨d1=9∨d1=10∨d1=11:=by omega
 rcases h12 with e|e|e|e|e|e|e|e|e|e|e|e
 ·exact ar .add (by rw [e];rfl)
 ·exact ar .and (by rw [e];rfl)
 ·exact ar .less (by rw [e];rfl)
 ·exact hload (by rw [e];rfl)
 ·exact ar .mul (by rw [e];rfl)
 ·exact hout (by rw [e];rfl)
 ·exact hstore (by rw [e];rfl)
 ·exact ar .sub (by rw [e];rfl)
 ·exact ar .add (by rw [e];rfl)
 ·exact hout (by rw [e];rfl)
 ·exact hload (by rw [e];rfl)
 ·exact hstore (by rw [e];rfl)
theorem lc_draw {α:Type}{i:Nat}{a:E2}{v:Env2}(e:α→DV)(P:α→Prop):∀(xs:List DV) (c:Cs),(∀(d:DV) (c:Cs),d∈xs→∃x c',a (v.set i (some (.v d))) c=some (e x,c')∧P x)→
  ∃(ys:List α) (c':Cs),lcW (qNm i) uYs a v xs c=some (ys.map e,c')∧ys.length=xs.length∧∀y∈ys,P y
 | [],c,_=>⟨[],c,rfl,rfl,nofun⟩
 | d::xs,c,h=>by
  obtain⟨x,c1,e1,p1⟩:=h d c zms
  obtain⟨ys,c2,e2,l2,p2⟩:=lc_draw e P xs c1 fun d c m=>h d c (zmt _ m)
  refine⟨x::ys,c2,?_,by rw [zlc,zlc,l2],fun y m=>(zmo m).elim (fun z=>z▸p1) (p2 y)⟩
  rw [q_lc1]
  simp only [q_qnm,zob,q_uys,if_true,e1,e2,Option.map_some,zmc]
theorem range_len (lo:Int)(n:Nat):(rangeD lo n).length=n:=by unfold rangeD;simp
theorem block2 (c:Cs){many most:Int}(h:0<many)(h2:many≤1000)(hm:0≤most)(hm2:most≤1000):∃(xs:List In) (c':Cs),g_law_block [.tok,.int many,.int most] c=some (.tup (xs.map In.e),c')∧(xs.length:Int)≤most∧∀x∈xs,x.ok many:=by
 obtain⟨d1,c1,e1,l1,u1⟩:=take2 c (many:=most+1) (by omega) (by omega)
 obtain⟨xs,c2,e2,l2,k2⟩:=lc_draw (i:=3) (a:=Yc 2 g_law_instruction (zCons (Yv 0) (zCons (Yv 1) Zn))) (v:=[some (.v .tok),some (.v (.int many)),some (.v (.int most)),none]) In.e (In.ok many) (rangeD 0 d1.toNat) c1 fun d c _=>by
  obtain⟨x,c',e,k⟩:=instruction2 c h h2
  refine⟨x,c',?_,k⟩
  walk_at "q2"
 rw [range_len] at l2
 refine⟨xs,c2,?_,by omega,k2⟩
 have b1:(-4611686018427387904≤d1):=by omega
 have b2:d1<4611686018427387904:=by omega
 have z:=zl d1.toNat (by omega)
 have hl:=range_len 0 d1.toNat
 unfold g_law_block gb_law_block
 walk_at "q2"
abbrev sW (w:List Nat):DV:=.str (TS' w)
def Ak.w:Ak→List Nat
 | .add=>[97,100,100] | .and=>[97,110,100] | .less=>[108,101,115,115] | .mul=>[109,117,108] | .sub=>[115,117,98]
theorem Ak.sw (k:Ak):k.s=TS' k.w:=by cases k<;>decide
def Op.w:Op→List Nat
 | .reg k=>114::numI k | .int n=>numI n
def cOut:List Nat:=[111,117,116]
def cLoad:List Nat:=[108,111,97,100]
def cStore:List Nat:=[115,116,111,114,101]
def cLoop:List Nat:=[108,111,111,112]
def cEnd:List Nat:=[101,110,100]
theorem l_out:("out":Str)=TS' cOut:=by decide
theorem l_load:("load":Str)=TS' cLoad:=by decide
theorem l_store:("store":Str)=TS' cStore:=by decide
theorem l_loop:("loop":Str)=TS' cLoop:=by decide
theorem l_end:("end":Str)=TS' cEnd:=by decide
def In.ws:In→List (List Nat)
 | .out a=>[cOut,a.w] | .load d a=>[cLoad,(Op.reg d).w,a.w] | .store a b=>[cStore,a.w,b.w] | .ari k d a b=>[k.w,(Op.reg d).w,a.w,b.w]
def In.ln (x:In):List Nat:=TL.joinL [32] x.ws
theorem Op.ok.bd {o:Op}(h:o.ok 16):∃n,Bd n∧((o=.reg n∧0≤n∧n<16)∨o=.int n):=by
 cases o with
 | reg k=>exact⟨k,⟨by have:=h.1;omega,by have:=h.2;omega⟩,.inl ⟨rfl,h⟩⟩
 | int n=>exact⟨n,h,.inr rfl⟩
theorem Op.wd {o:Op}(h:o.ok 16):Wd o.w:=by
 cases o with
 | reg k=>exact wd_reg ⟨by have:=h.1;omega,by have:=h.2;omega⟩
 | int n=>exact wd_num h
theorem reg_ok {d:Int}(h:0≤d∧d<16):(Op.reg d).ok 16:=h
theorem In.wd {x:In}(h:x.ok 16):(∀w∈x.ws,Wd w)∧x.ws≠[]∧x.ws.length≤4:=by
 have lo:Wd cOut∧Wd cLoad∧Wd cStore:=⟨wd_lit (by decide),wd_lit (by decide),wd_lit (by decide)⟩
 have la:∀k:Ak,Wd k.w:=fun k=>by cases k<;>exact wd_lit (by decide)
 cases x with
 | out a=>
  refine⟨fun w m=>?_,by simp [In.ws],by simp [In.ws]⟩
  simp only [In.ws,List.mem_cons,List.not_mem_nil,or_false] at m
  rcases m with rfl|rfl
  ·exact lo.1
  ·exact Op.wd h
 | load d a=>
  refine⟨fun w m=>?_,by simp [In.ws],by simp [In.ws]⟩
  simp only [In.ws,List.mem_cons,List.not_mem_nil,or_false] at m
  rcases m with rfl|rfl|rfl
  ·exact lo.2.1
  ·exact Op.wd (reg_ok h.1)
  ·exact Op.wd h.2
 | store a b=>
  refine⟨fun w m=>?_,by simp [In.ws],by simp [In.ws]⟩
  simp only [In.ws,List.mem_cons,List.not_mem_nil,or_false] at m
  rcases m with rfl|rfl|rfl
  ·exact lo.2.2
  ·exact Op.wd h.1
  ·exact Op.wd h.2
 | ari k d a b=>
  refine⟨fun w m=>?_,by simp [In.ws],by simp [In.ws]⟩
  simp only [In.ws,List.mem_cons,List.not_mem_nil,or_false] at m
  rcases m with rfl|rfl|rfl|rfl
  ·exact la k
  ·exact Op.wd (reg_ok h.1)
  ·exact Op.wd h.2.1
  ·exact Op.wd h.2.2
theorem small_S {w:List Nat}(h:w.length≤900000):((TS' w).length≤PySem.sizeLine)=True:=by rw [SX.S_len];exact zl _ (by omega)
theorem fmt_int {n:Int}(hb:Bd n):fmtV (.int n)=some (sW (numI n)):=by
 have h:n.natAbs<2 ^ 1900:=Nat.lt_of_lt_of_le (m:=2 ^ 40) (by obtain⟨h1,h2⟩:=hb;omega) (Nat.pow_le_pow_right (by decide) (by decide))
 show(if n.natAbs<2 ^ 1900 then some (DV.str (PySem.Str.ofString (toString n))) else none)=_
 rw [if_pos h,str_int]
theorem str_intV {n:Int}(hb:Bd n):strV (.int n)=some (sW (numI n)):=by
 have h:n.natAbs<2 ^ 1900:=Nat.lt_of_lt_of_le (m:=2 ^ 40) (by obtain⟨h1,h2⟩:=hb;omega) (Nat.pow_le_pow_right (by decide) (by decide))
 show(if n.natAbs<2 ^ 1900 then some (DV.str (PySem.Str.ofString (toString n))) else none)=_
 rw [if_pos h,str_int]
theorem strsD_L:∀ws:List (List Nat),strsD (ws.map sW)=some (ws.map TS')
 | []=>rfl
 | w::ws=>by
  show(strsD (ws.map sW)).map _=_
  rw [strsD_L ws]
  rfl
theorem join_V {sep:List Nat}{ws:List (List Nat)}(hl:(ws.map List.length).sum+ws.length*sep.length≤16777216):joinV (sW sep) (.lst (ws.map sW))=some (sW (TL.joinL sep ws)):=by
 show(strsD (ws.map sW)).bind _=_
 rw [strsD_L,zob]
 have e:((ws.map TS').map (·.length))=ws.map List.length:=SX.lens ws
 rw [e,zlm,SX.S_len,if_pos hl,SX.join_S]
theorem sum_len {ws:List (List Nat)}{k:Nat}(h:∀w∈ws,w.length≤k):(ws.map List.length).sum≤k*ws.length:=by
 induction ws with
 | nil=>simp
 | cons w ws ih=>
  rw [zmc,List.sum_cons,zlc,Nat.mul_succ]
  have:=h w zms
  have:=ih fun v m=>h v (zmt _ m)
  omega
theorem join_ws {ws:List (List Nat)}(h:∀w∈ws,Wd w)(hl:ws.length≤1000)(g:Nat)(hg:g≤100):joinV (sW (List.replicate g 32)) (.lst (ws.map sW))=some (sW (TL.joinL (List.replicate g 32) ws)):=by
 apply join_V
 have:=sum_len (k:=12) fun w m=>(h w m).2.1
 rw [List.length_replicate]
 have:ws.length*g≤1000*100:=Nat.mul_le_mul hl hg
 omega
theorem join_in {x:In}(h:x.ok 16):joinV (.str " ") (.lst (x.ws.map sW))=some (sW x.ln):=by
 have:=join_ws (In.wd h).1 (by have:=(In.wd h).2.2;omega) 1 (by decide)
 rw [l_s]
 exact this
theorem cut_21 {a b:DV}:cutD [a,b] (some 1) none=[b]:=rfl
theorem cut_31 {a b d:DV}:cutD [a,b,d] (some 1) none=[b,d]:=rfl
theorem cut_41 {a b d e:DV}:cutD [a,b,d,e] (some 1) none=[b,d,e]:=rfl
theorem forW_one {g:P2}{r:S2}{x:DV}{xs:List DV}{v v1 v2:Env2}{c c1:Cs}(h1:g x v=some v1)(h2:r v1 c=some (.nx,v2,c1)):forW g r (x::xs) v c=forW g r xs v2 c1:=by
 rw [q_for1,h1];simp only [zob];rw [h2];rfl
theorem jrg1_at {a:E2}{v:Env2}{c c1:Cs}{z:Int}(h0:0≤z)(h1:z≤1000000)(h:a v c=some (.int z,c1)):jRg1 a v c=some (rangeD 0 z.toNat,c1):=by
 rw [q_jrg1,h]
 simp only [zob]
 rw [if_pos (by omega)]
theorem sq_nx {r s:S2}{v v':Env2}{c c':Cs}(h:r v c=some (.nx,v',c')):rSq r s v c=s v' c':=by
 rw [q_sq,h];rfl
theorem for_at {it:I2}{g:P2}{r:S2}{v:Env2}{c c1:Cs}{ds:List DV}(h:it v c=some (ds,c1)):rFor it g r v c=forW g r ds v c1:=by
 rw [q_for,h];rfl
theorem forW_acc {α J:Type}{g:P2}{r:S2}{c:Cs}(e:α→DV)(f:α→List DV)(E:List DV→J→Env2)(k N:Nat):∀(xs:List α),(∀x∈xs,(f x).length≤k)→(∀x∈xs,∀F j,F.length+k≤N→∃v1 j',g (e x) (E F j)=some v1∧r v1 c=some (.nx,E (F++f x) j',c))→
  ∀F j,F.length+k*xs.length≤N→∃j',forW g r (xs.map e) (E F j) c=some (.nx,E (F++xs.flatMap f) j',c)
 | [],_,_,F,j,_=>⟨j,by simp [q_for0]⟩
 | x::xs,hf,st,F,j,hN=>by
  rw [zlc,Nat.mul_succ] at hN
  obtain⟨v1,j1,h1,h2⟩:=st x zms F j (by omega)
  have:=hf x zms
  obtain⟨j2,h3⟩:=forW_acc e f E k N xs (fun y m=>hf y (zmt _ m)) (fun y m=>st y (zmt _ m)) (F++f x) j1 (by rw [zla];omega)
  refine⟨j2,?_⟩
  rw [zmc,forW_one h1 h2,h3,List.flatMap_cons,List.append_assoc]
theorem Caa {n:Nat}{F:F2}{as:A2}{v:Env2}{c c1:Cs}{ds:List DV}(h:as v c=some (ds,c1))(hl:ds.length=n):Yc n F as v c=F ds c1:=by
 rw [q_call,h]
 simp only [zob]
 rw [if_pos hl]
theorem call1_at {F:F2}{i:Nat}{v:Env2}{c:Cs}{d:DV}(h1:v[i]?=some (some (.v d))):Yc 1 F (zCons (Yv i) Zn) v c=F [d] c:=by
 simp only [q_call,q_cons,q_nil,q_var,h1,zob,zlc,List.length_nil,Nat.reduceAdd,if_true]
theorem as_at {a:E2}{i:Nat}{v v':Env2}{c c1:Cs}{d:DV}(h:a v c=some (d,c1))(hs:v.set i (some (.v d))=v'):rAs i a v c=some (.nx,v',c1):=by
 rw [q_as,h,←hs];rfl
theorem ao_at {a:E2}{i:Nat}{v v':Env2}{c c1:Cs}{ds:List DV}(h:a v c=some (.lst ds,c1))(hs:v.set i (some (.o ds))=v'):rAo i a v c=some (.nx,v',c1):=by
 rw [q_ao,h,←hs];rfl
theorem rt_at {a:E2}{v:Env2}{c c1:Cs}{d:DV}(h:a v c=some (d,c1)):rRt a v c=some (.rt d,v,c1):=by
 rw [q_rt,h];rfl
theorem y2_at {g:DV→DV→Option DV}{a b:E2}{v:Env2}{c c1 c2:Cs}{d e r:DV}(h1:a v c=some (d,c1))(h2:b v c1=some (e,c2))(h3:g d e=some r):y2 g a b v c=some (r,c2):=by
 simp only [q_2,h1,h2,h3,zob,Option.map_some]
theorem y1_at {g:DV→Option DV}{a:E2}{v:Env2}{c c1:Cs}{d r:DV}(h1:a v c=some (d,c1))(h3:g d=some r):y1 g a v c=some (r,c1):=by
 simp only [q_1,h1,h3,zob,Option.map_some]
theorem pk_at {i:Nat}{v:Env2}{c:Cs}{d:DV}(h:v[i]?=some (some (.v d))):yPk i v c=some (d,c):=by
 rw [q_pk,h]
theorem ubl_at {a:E2}{v:Env2}{c c1:Cs}{b:Bool}(h:a v c=some (.bl b,c1)):uBl a v c=some (b,c1):=by
 rw [q_ubl,h];rfl
theorem utru_at {a:E2}{v:Env2}{c c1:Cs}{d:DV}{b:Bool}(h:a v c=some (d,c1))(h2:truV d=some b):uTru a v c=some (b,c1):=by
 simp only [q_utru,h,h2,zob,Option.map_some]
theorem unt_at {t:T2}{v:Env2}{c c1:Cs}{b:Bool}(h:t v c=some (b,c1)):uNt t v c=some (!b,c1):=by
 rw [q_unt,h];rfl
theorem rif_f {t:T2}{r s:S2}{v:Env2}{c c1:Cs}(h:t v c=some (false,c1)):rIf t r s v c=s v c1:=by
 rw [q_rif,h];rfl
theorem ixV_tup {ds:List DV}{i:Int}:ixV (.tup ds) (.int i)=atI ds i:=rfl
theorem ixV_lst {ds:List DV}{i:Int}:ixV (.lst ds) (.int i)=atI ds i:=rfl
theorem rif_t {t:T2}{r s:S2}{v:Env2}{c c1:Cs}(h:t v c=some (true,c1)):rIf t r s v c=r v c1:=by
 rw [q_rif,h];rfl
theorem ae_at {a:E2}{i:Nat}{v v':Env2}{c c1:Cs}{d:DV}{ds:List DV}(h:a v c=some (d,c1))(hv:v[i]?=some (some (.o ds)))(hl:ds.length≤1000)(hs:v.set i (some (.o (ds++[d])))=v'):rAe i a v c=some (.nx,v',c1):=by
 rw [q_ae,h]
 simp only [zob]
 rw [hv]
 simp only
 rw [if_pos (of_eq_true (zlt _ hl)),←hs]
theorem Vaa {i:Nat}{v:Env2}{c:Cs}{d:DV}(h:v[i]?=some (some (.v d))):Yv i v c=some (d,c):=by
 rw [q_var,h]
theorem pko_at {i:Nat}{v:Env2}{c:Cs}{ds:List DV}(h:v[i]?=some (some (.o ds))):yPk i v c=some (.lst ds,c):=by
 rw [q_pk,h]
theorem ro_at {i:Nat}{v:Env2}{c:Cs}{ds:List DV}(h:v[i]?=some (some (.o ds))):rRo i v c=some (.rt (.lst ds),v,c):=by
 rw [q_ro,h]
theorem fn_at {n:Nat}{b:S2}{ds:List DV}{V V':Env2}{c c1:Cs}{d:DV}(h:start2 n ds=V)(hb:b V c=some (.rt d,V',c1)):fn2 n b ds c=some (d,c1):=by
 rw [q_fn,h,hb];rfl
theorem fnf_at {n:Nat}{b:S2}{ds:List DV}{V V':Env2}{c c1:Cs}{d:DV}(h:start2 n ds=V)(hb:b V c=some (.rt d,V',c1)):fn2f n b ds c=some (d,c1):=by
 rw [q_fnf,h,hb];rfl
theorem jany_at {a:E2}{v:Env2}{c c1:Cs}{d:DV}{ds:List DV}(h:a v c=some (d,c1))(h2:itV d=some ds):jAny a v c=some (ds,c1):=by
 rw [q_jany,h];simp only [zob];rw [h2];rfl
theorem lc_at {vs:List Nat}{it:I2}{g:P2}{t:T2}{a:E2}{v v':Env2}{c c1 c2:Cs}{ds es:List DV}(h:it v c=some (ds,c1))(hl:ds.length≤100000)(hw:wipe2 v vs=v')(hc:lcW g t a v' ds c1=some (es,c2)):yLc vs it g t a v c=some (.lst es,c2):=by
 rw [q_lc,h]
 simp only [zob]
 rw [if_pos (of_eq_true (zl _ (by omega))),hw,hc]
 rfl
theorem lst1_at {a:E2}{v:Env2}{c c1:Cs}{d:DV}(h:a v c=some (d,c1)):yLst (zCons a Zn) v c=some (.lst [d],c1):=by
 rw [q_lst,q_cons,h]
 simp only [zob,q_nil]
 rw [if_pos (of_eq_true (zl _ (by simp)))]
inductive St where
 | ins (x:In)|loop (n:Op) (b:List In)
def St.e:St→DV
 | .ins x=>x.e | .loop n b=>.tup [.str "loop",n.e,.tup (b.map In.e)]
def St.isL:St→Bool
 | .ins _=>false | .loop _ _=>true
def St.ok:St→Prop
 | .ins x=>x.ok 16 | .loop n b=>n.ok 16∧(∀x∈b,x.ok 16)∧1≤b.length∧b.length≤6
def In.ln2 (x:In):List Nat:=32::32::x.ln
def St.lns:St→List (List Nat)
 | .ins x=>[x.ln] | .loop n b=>((cLoop++32::n.w)::b.map In.ln2)++[cEnd]
theorem addW {a b:List Nat}(h:a.length+b.length≤900000):addV (sW a) (sW b)=some (sW (a++b)):=by
 show(if(TS' a).length+(TS' b).length≤PySem.sizeLine then some (DV.str (TS' a++TS' b)) else none)=_
 rw [SX.S_len,SX.S_len,if_pos (of_eq_true (zl _ (by omega))),SX.S_cat]
theorem In.ln_len {x:In}(h:x.ok 16):x.ln.length≤52:=by
 have:=join_len (g:=1) x.ws (In.wd h).1
 have h2:=(In.wd h).2.2
 have:(12+1)*x.ws.length≤13*4:=Nat.mul_le_mul (znr _) h2
 show(TL.joinL (List.replicate 1 32) x.ws).length≤_
 omega
theorem Op.w_len {o:Op}(h:o.ok 16):o.w.length≤12:=(Op.wd h).2.1
theorem l_2s:("  ":Str)=TS' [32,32]:=by decide
theorem l_loops:("loop ":Str)=TS' (cLoop++[32]):=by decide
theorem St.lns_len {s:St}(h:s.ok):s.lns.length≤8∧∀l∈s.lns,l.length≤54:=by
 cases s with
 | ins x=>exact⟨by simp [St.lns],fun l m=>by rw [zsg m];have:=In.ln_len h;omega⟩
 | loop n b=>
  refine⟨?_,fun l m=>?_⟩
  ·have:=h.2.2.2
   simp only [St.lns,zla,zlc,zlm,List.length_nil]
   omega
  ·simp only [St.lns,List.cons_append,List.mem_cons,List.mem_append,List.mem_map,List.not_mem_nil,or_false] at m
   rcases m with rfl|⟨x,mx,rfl⟩|rfl
   ·have:=Op.w_len h.1
    simp only [zla,zlc,cLoop]
    simp
    omega
   ·have:=In.ln_len (h.2.1 x mx)
    simp only [In.ln2,zlc]
    omega
   ·decide
theorem in_k (x:In):∃(k:Str) (r:List DV),x.e=.tup (.str k::r)∧¬k="loop"∧¬k="end":=by
 cases x with
 | out a=>exact⟨"out",_,rfl,by decide,by decide⟩
 | load d a=>exact⟨"load",_,rfl,by decide,by decide⟩
 | store a b=>exact⟨"store",_,rfl,by decide,by decide⟩
 | ari k d a b=>exact⟨k.s,_,rfl,by cases k<;>decide,by cases k<;>decide⟩
theorem st_test (s:St)(i:Nat)(v:Env2)(c:Cs)(hv:v[i]?=some (some (.v s.e))):uBl (y2 eqV (y2 ixV (yPk i) (yC (.int (0)))) (yC (.str "loop"))) v c=some (s.isL,c):=by
 cases s with
 | ins x=>
  obtain⟨k,r,e,n1,_⟩:=in_k x
  rw [show(St.ins x).isL=false from rfl]
  refine ubl_at (y2_at (y2_at (pk_at hv) q_c (r:=.str k) ?_) q_c ?_)
  ·show ixV x.e _=_
   rw [e,ixV_tup,atI_at (by decide)]
   rfl
  ·rw [eqV_str,zdf n1]
 | loop n b=>
  rw [show(St.loop n b).isL=true from rfl]
  refine ubl_at (y2_at (y2_at (pk_at hv) q_c (r:=.str "loop") rfl) q_c ?_)
  rw [eqV_str]
  rfl
abbrev lnsOf (ps:List St):List (List Nat):=ps.flatMap St.lns
theorem lns_mem {ps:List St}(h:∀s∈ps,s.ok){l:List Nat}(m:l∈lnsOf ps):l.length≤54:=by
 obtain⟨s,ms,ml⟩:=List.mem_flatMap.mp m
 exact(St.lns_len (h s ms)).2 l ml
theorem l_e:("":Str)=TS' []:=by decide
theorem isT_tup (ds:List DV):isV "tuple" (.tup ds)=some (.bl true):=by unfold isV;simp only [tyD,zob];rfl
theorem isT_int (i:Int):isV "tuple" (.int i)=some (.bl false):=by unfold isV;simp only [tyD,zob];rfl
theorem cat_len {a b:List Nat}(h:a.length+b.length≤900000):((TS' a).length+(TS' b).length≤PySem.sizeLine)=True:=by rw [SX.S_len,SX.S_len];exact zl _ (by omega)
theorem cat_r (b:List Nat):TS' [114]++TS' b=TS' (114::b):=by rw [SX.S_cat];rfl
theorem cat_e (b:List Nat):TS' []++TS' b=TS' b:=by rw [SX.S_cat];rfl
theorem shown_opd2 {o:Op}(h:o.ok 16)(c:Cs):g_law_shown [o.e] c=some (sW o.w,c):=by
 have ht:=isT_tup
 cases o with
 | reg k=>
  have hb:Bd k:=⟨by have:=h.1;omega,by have:=h.2;omega⟩
  have q:=str_intV hb
  have cr:=cat_r;have ha:=cat_len (a:=[114]) (b:=numI k) (by have:=numI_len hb;simp;omega)
  unfold g_law_shown gb_law_shown Op.e Op.w
  rw [l_r]
  unfold sW at *
  clear hb h
  walk_at "q2"
 | int n=>
  have q:=str_intV h
  have cr:=cat_e;have ha:=cat_len (a:=[]) (b:=numI n) (by have:=numI_len h;simp;omega)
  unfold g_law_shown gb_law_shown Op.e Op.w
  rw [l_e]
  unfold sW at *
  clear h
  walk_at "q2"
theorem shown_int2 {d:Int}(h:0≤d∧d<16)(c:Cs):g_law_shown [.int d] c=some (sW (Op.reg d).w,c):=by
 have ht:=isT_int
 have hb:Bd d:=⟨by have:=h.1;omega,by have:=h.2;omega⟩
 have q:=str_intV hb
 have cr:=cat_r;have ha:=cat_len (a:=[114]) (b:=numI d) (by have:=numI_len hb;simp;omega)
 unfold g_law_shown gb_law_shown Op.w
 rw [l_r]
 unfold sW at *
 clear hb h
 walk_at "q2"
theorem line2 {x:In}(h:x.ok 16)(c:Cs):g_law_line [x.e] c=some (sW x.ln,c):=by
 have h1 := @cut_21;have h2 := @cut_31;have h3 := @cut_41
 have hj:=join_in h
 cases x with
 | out a=>
  have p1:=shown_opd2 (o:=a) h c
  unfold In.ws at hj
  rw [zmc,zmc,List.map_nil] at hj
  unfold sW at hj p1
  rw [←l_out] at hj
  generalize (In.out a).ln=L at *
  unfold g_law_line gb_law_line In.e
  generalize a.w=W at *
  generalize Op.e=z at *
  clear h
  walk_at "q2"
 | load d a=>
  have p1:=shown_opd2 (o:=a) h.2 c
  have p2:=shown_int2 h.1 c
  unfold In.ws at hj
  rw [zmc,zmc,zmc,List.map_nil] at hj
  unfold sW at hj p1 p2
  rw [←l_load] at hj
  generalize (In.load d a).ln=L at *
  unfold g_law_line gb_law_line In.e
  generalize a.w=W at *
  generalize (Op.reg d).w=W2 at *
  generalize Op.e=z at *
  clear h
  walk_at "q2"
 | store a b=>
  have p1:=shown_opd2 (o:=a) h.1 c
  have p2:=shown_opd2 (o:=b) h.2 c
  unfold In.ws at hj
  rw [zmc,zmc,zmc,List.map_nil] at hj
  unfold sW at hj p1 p2
  rw [←l_store] at hj
  generalize (In.store a b).ln=L at *
  unfold g_law_line gb_law_line In.e
  generalize a.w=W at *
  generalize b.w=W2 at *
  generalize Op.e=z at *
  clear h
  walk_at "q2"
 | ari k d a b=>
  have p1:=shown_opd2 (o:=a) h.2.1 c
  have p2:=shown_opd2 (o:=b) h.2.2 c
  have p3:=shown_int2 h.1 c
  unfold In.ws at hj
  rw [zmc,zmc,zmc,zmc,List.map_nil] at hj
  unfold sW at hj p1 p2 p3
  rw [←k.sw] at hj
  generalize (In.ari k d a b).ln=L at *
  unfold g_law_line gb_law_line In.e
  generalize a.w=W at *
  generalize b.w=W2 at *
  generalize (Op.reg d).w=W3 at *
  generalize Op.e=z at *
  clear h
  walk_at "q2"
theorem catL {a b:List DV}(h:a.length+b.length≤100000):catV (.lst a) (.lst b)=some (.lst (a++b)):=by
 show(if _ then _ else _)=_
 rw [if_pos (of_eq_true (zl _ (by omega)))]
theorem lines2 {ps:List St}(h:∀s∈ps,s.ok)(hl:ps.length≤12)(c:Cs):g_law_lines [.tup (ps.map St.e)] c=some (.lst ((lnsOf ps).map sW),c):=by
 obtain⟨⟨a2,a3⟩,hk⟩:=forW_acc (c:=c) (g:=qNm 2) (r:=l_law_lines_0) St.e (fun s=>s.lns.map sW) (fun F (J:Option Sl×Option Sl)=>[some (.v (.tup (ps.map St.e))),some (.o F),J.1,J.2]) 8 900 ps (fun s m=>by rw [zlm];exact(St.lns_len (h s m)).1) (fun s m F J hF=>by
  refine⟨_,(some (.v s.e),J.2),q_qnm,?_⟩
  have ht:=st_test s 2 [some (.v (.tup (ps.map St.e))),some (.o F),some (.v s.e),J.2] c rfl
  have hs:=h s m
  unfold l_law_lines_0
  cases s with
  | ins x=>exact(rif_f ht).trans (ae_at ((call1_at rfl).trans (line2 hs c)) rfl (by omega) rfl)
  | loop n b=>
   refine(rif_t ht).trans ?_
   have hb:=hs.2.2.2
   have s1:rAe 1 (y2 addV (yC (.str "loop ")) (Yc 1 g_law_shown (zCons (y2 ixV (yPk 2) (yC (.int (1)))) Zn))) [some (.v (.tup (ps.map St.e))),some (.o F),some (.v (St.loop n b).e),J.2] c=some (.nx,[some (.v (.tup (ps.map St.e))),some (.o (F++[sW (cLoop++32::n.w)])),some (.v (St.loop n b).e),J.2],c):=by
    rw [l_loops]
    refine ae_at (y2_at q_c ((Caa (ds:=[n.e]) (c1:=c) ?_ rfl).trans (shown_opd2 hs.1 c)) ((addW (by have:=Op.w_len hs.1;simp [cLoop];omega)).trans (by rw [List.append_assoc];rfl))) rfl (by omega) rfl
    rw [q_cons,y2_at (pk_at rfl) q_c (r:=n.e) rfl]
    rfl
   have hc:=lc_all (g:=qNm 3) (a:=y2 addV (yC (.str "  ")) (Yc 1 g_law_line (zCons (Yv 3) Zn))) (v:=[some (.v (.tup (ps.map St.e))),some (.o (F++[sW (cLoop++32::n.w)])),some (.v (St.loop n b).e),none]) (c:=c) In.e (fun x=>sW x.ln2) b (fun x m=>⟨_,q_qnm,by
    rw [l_2s]
    exact y2_at q_c ((call1_at rfl).trans (line2 (hs.2.1 x m) c)) (addW (by have:=In.ln_len (hs.2.1 x m);simp;omega))⟩)
   refine(sq_nx s1).trans (ao_at (ds:=F++(St.loop n b).lns.map sW) (y2_at (y2_at (pko_at rfl) (lc_at (jany_at (y2_at (pk_at rfl) q_c (r:=.tup (b.map In.e)) rfl) rfl) (by rw [zlm];omega) rfl hc) (catL (by rw [zla,zlm];simp;omega))) (lst1_at q_c) ?_) rfl)
   rw [l_end,catL (by rw [zla,zla,zlm];simp;omega)]
   unfold St.lns
   rw [zmq,zmc,List.map_map]
   simp only [List.append_assoc,List.cons_append,List.nil_append,zmc,List.map_nil]
   rfl) [] (none,none) (by rw [List.length_nil];omega)
 have e:(ps.flatMap fun s=>s.lns.map sW)=(lnsOf ps).map sW:=by rw [List.map_flatMap]
 rw [e,List.nil_append] at hk
 have s1:rAo 1 (yLst Zn) [some (.v (.tup (ps.map St.e))),none,none,none] c=some (.nx,[some (.v (.tup (ps.map St.e))),some (.o []),none,none],c):=rfl
 have s2:=(for_at (g:=qNm 2) (r:=l_law_lines_0) (v:=[some (.v (.tup (ps.map St.e))),some (.o []),none,none]) (it:=jAny (Yv 0)) (jany_at (Vaa rfl) rfl)).trans hk
 unfold g_law_lines gb_law_lines
 exact fnf_at rfl ((sq_nx s1).trans ((sq_nx s2).trans (ro_at rfl)))
theorem q_sf {a:E2}{lo hi:O2}{v:Env2}{c:Cs}:ySf a lo hi v c=(a v c).bind fun r=>(lo v r.2).bind fun s=>(hi v s.2).bind fun t=>match r.1 with
 | .lst ds=>some (.lst (cutD ds s.1 t.1),t.2)
 | _=>none:=rfl
theorem starts_V (d:Nat)(w:List Nat):startsV (.str (TS' w)) (.str (TS' [d]))=some (.bl (decide (w.head?=some d))):=by
 show some (DV.bl (PySem.Txt.startswith (TS' w) (TS' [d])))=_
 rw [starts_S]
theorem split_V {s:Nat}(hs:s<256){t:List Nat}(h:t.length≤100000):splitV (sW t) (sW [s])=some (.lst ((TL.spl [s] 0 [] t).map sW)):=by
 show(if _ then _ else _)=_
 rw [if_pos ⟨by rw [SX.S_len];rfl,by rw [SX.S_len];exact of_eq_true (zl _ (by omega))⟩,SX.split_S (by simp) (by simp [hs]),List.map_map]
 rfl
theorem spl_ne (s:Nat):∀(t acc:List Nat),∃a r,TL.spl [s] 0 acc t=a::r
 | [],acc=>⟨acc,[],TL.spl_nil _ _ _⟩
 | c::t,acc=>by
  cases hp:TL.pre [s] (c::t) with
  | true=>exact⟨acc,_,TL.spl_hit hp⟩
  | false=>
   rw [TL.spl_miss hp]
   exact spl_ne s t _
theorem spl_len (s:Nat):∀(t acc:List Nat),(TL.spl [s] 0 acc t).length≤t.length+1∧∀w∈TL.spl [s] 0 acc t,w.length≤acc.length+t.length
 | [],acc=>by rw [TL.spl_nil];exact⟨by simp,fun w m=>by rw [zsg m];simp⟩
 | c::t,acc=>by
  cases hp:TL.pre [s] (c::t) with
  | true=>
   rw [TL.spl_hit hp]
   obtain⟨h1,h2⟩:=spl_len s t []
   refine⟨by rw [zlc,zlc];simpa using h1,fun w m=>?_⟩
   rcases zmo m with rfl|m
   ·omega
   ·have:=h2 w (by simpa using m)
    simp at this ⊢
    omega
  | false=>
   rw [TL.spl_miss hp]
   obtain⟨h1,h2⟩:=spl_len s t (acc++[c])
   refine⟨by rw [zlc];omega,fun w m=>?_⟩
   have:=h2 w m
   rw [zla] at this
   simp at this ⊢
   omega
local macro_rules | `(tactic| walk_at "q3") => `(tactic| simp only [q_var,q_pk,q_c,q_1,q_2,q_nil,q_cons,q_call,q_tup,q_lst,q_if,q_nt,q_an,q_or,q_ubl,q_unt,q_uan,q_uor,q_uys,q_utru,q_nx,q_ct,q_bk,q_sq,q_ex,q_rt,q_rn,q_ro,q_rif,q_as,q_ao,q_ap,q_fz,q_si,q_ae,q_for,q_jany,q_jrg1,q_jrg2,q_jen,q_jzp,q_qnm,q_qtp,q_qnil,q_qcons,q_lc,q_lc0,q_lc1,q_for0,q_for1,q_fn,q_fnf,q_start,q_on,q_os,q_sl,q_mxD,q_wipe1,q_wipe2,q_wipe3,
 addV,subV,mulV,modV,divV,negV,cmpV,catV,ixV_tup,ixV_lst,lenV,intV,tupleV,listV,truV,itV,itS,isNV,notNV,nonB,eqV_int,eqV_str,neV_int,neV_str,atI_at,tne,zl0,zl1,zl2,zl3,zl4,zl5,zl6,zl7,zl8,zl12,valD,kyD,
 zob,Option.bind_none,Option.map_some,Option.map_none,zmc,List.map_nil,zlc,List.length_nil,zlm,List.length_set,List.replicate,List.cons_append,List.nil_append,List.getElem?_cons_zero,List.getElem?_cons_succ,List.set_cons_zero,List.set_cons_succ,List.isEmpty_cons,List.isEmpty_nil,ne_eq,not_false_eq_true,not_true_eq_false,Nat.reduceAdd,Nat.reduceSub,Nat.reduceEqDiff,Nat.reduceLeDiff,Nat.reduceLT,Nat.reducePow,Int.reducePow,Int.reduceNeg,Int.reduceLT,Int.reduceLE,Int.reduceToNat,Int.toNat_natCast,anyV,allV,Int.reduceAdd,Int.reduceSub,and_self,or_true,true_or,or_false,false_or,true_and,and_true,↓reduceIte,Nat.add_zero,Nat.zero_add,Nat.sub_self,decide_eq_true_eq,decide_true,decide_false,Bool.false_eq_true,Bool.not_true,Bool.not_false,id_eq, *])
abbrev Row:=List (List Nat)
abbrev rwE (r:Row):DV:=.lst (r.map sW)
inductive Ok:Option Nat→List Row→Prop where
 | nil:Ok none []
 | ins {x:In} {rs:List Row} (h:x.ok 16) (r:Ok none rs):Ok none (x.ws::rs)
 | loop {n:Op} {rs:List Row} (h:n.ok 16) (r:Ok (some 0) rs):Ok none ([cLoop,n.w]::rs)
 | body {k:Nat} {x:In} {rs:List Row} (h:x.ok 16) (r:Ok (some (k+1)) rs):Ok (some k) (x.ws::rs)
 | end_ {k:Nat} {rs:List Row} (h:0<k) (r:Ok none rs):Ok (some k) ([cEnd]::rs)
def insE:Option Nat→DV
 | none=>.non|some k=>.int (k:Int)
theorem forW_ct {g:P2}{r:S2}{x:DV}{xs:List DV}{v v1 v2:Env2}{c c1:Cs}(h1:g x v=some v1)(h2:r v1 c=some (.ct,v2,c1)):forW g r (x::xs) v c=forW g r xs v2 c1:=by
 rw [q_for1,h1];simp only [zob];rw [h2];rfl
theorem ix_head {d:DV}{ds:List DV}:ixV (.lst (d::ds)) (.int 0)=some d:=by rw [ixV_lst,atI_at (by decide)];rfl
def neR (r:Row):Bool:=decide (r≠[])
theorem zcons_at {a:E2}{r:A2}{v:Env2}{c c1 c2:Cs}{d:DV}{ds:List DV}(h:a v c=some (d,c1))(h2:r v c1=some (ds,c2)):zCons a r v c=some (d::ds,c2):=by
 simp only [q_cons,h,h2,zob]
theorem Tua {as:A2}{v:Env2}{c c1:Cs}{ds:List DV}(h:as v c=some (ds,c1))(hl:ds.length≤1000):yTup as v c=some (.tup ds,c1):=by
 rw [q_tup,h]
 simp only [zob]
 rw [if_pos (of_eq_true (zl _ (by omega)))]
theorem lst_at {as:A2}{v:Env2}{c c1:Cs}{ds:List DV}(h:as v c=some (ds,c1))(hl:ds.length≤1000):yLst as v c=some (.lst ds,c1):=by
 rw [q_lst,h]
 simp only [zob]
 rw [if_pos (of_eq_true (zl _ (by omega)))]
theorem lns_app (a b:List St):(lnsOf (a++b)).length=(lnsOf a).length+(lnsOf b).length:=by
 unfold lnsOf;rw [List.flatMap_append,zla]
theorem lns_take (n:Nat)(a:List St):(lnsOf (a.take n)).length≤(lnsOf a).length:=by
 have:=lns_app (a.take n) (a.drop n)
 rw [List.take_append_drop] at this
 omega
theorem ins_map (xs:List In):(xs.map St.ins).map St.e=xs.map In.e:=by rw [List.map_map];rfl
theorem ins_lns (xs:List In):(lnsOf (xs.map St.ins)).length=xs.length:=by
 induction xs with
 | nil=>rfl
 | cons x xs ih=>
  show([x.ln]++lnsOf (xs.map St.ins)).length=_
  rw [zla,ih,zlc]
  simp
  omega
theorem prog_step (ps:List St)(hp:ps.length≤100)(d:DV)(v5:Option Sl)(c:Cs):∃(qs:List St) (c':Cs) (w5:Option Sl),l_law_program_0 [some (.v .tok),some (.v (.int 16)),some (.v (.int 6)),some (.o (ps.map St.e)),some (.v d),v5] c=some (.nx,[some (.v .tok),some (.v (.int 16)),some (.v (.int 6)),some (.o ((ps++qs).map St.e)),some (.v d),w5],c')∧(∀s∈qs,s.ok)∧qs.length≤4∧(lnsOf qs).length≤8:=by
 obtain⟨d1,c1,e1,l1,u1⟩:=take2 c (many:=3) (by decide) (by decide)
 by_cases h0:d1=0
 ·subst h0
  obtain⟨d2,c2,e2,l2,u2⟩:=take2 c1 (many:=7) (by decide) (by decide)
  obtain⟨d3,c3,e3,l3,u3⟩:=take2 c2 (many:=16) (by decide) (by decide)
  obtain⟨d4,c4,e4,l4,u4⟩:=take2 c3 (many:=50) (by decide) (by decide)
  obtain⟨n5,c5,e5,b5,b5'⟩:=integer2 c4
  obtain⟨d6,c6,e6,l6,u6⟩:=take2 c5 (many:=2) (by decide) (by decide)
  obtain⟨n6,h6,b6,b6'⟩:∃n6,[DV.int d4,DV.int n5][d6.toNat]?=some (.int n6) ∧ -2147483648≤n6∧n6≤2147483647:=by
   have:d6=0∨d6=1:=by omega
   rcases this with rfl|rfl
   ·exact⟨d4,rfl,by omega,by omega⟩
   ·exact⟨n5,rfl,b5,b5'⟩
  obtain⟨d7,c7,e7,l7,u7⟩:=take2 c6 (many:=3) (by decide) (by decide)
  obtain⟨o,ho,ok⟩:∃o:Op,[DV.tup [.str "int",.int (d2-1)],.tup [.str "reg",.int d3],.tup [.str "int",.int n6]][d7.toNat]?=some o.e∧o.ok 16:=by
   have:d7=0∨d7=1∨d7=2:=by omega
   rcases this with rfl|rfl|rfl
   ·exact⟨.int (d2-1),rfl,by omega,by omega⟩
   ·exact⟨.reg d3,rfl,l3,u3⟩
   ·exact⟨.int n6,rfl,b6,b6'⟩
  obtain⟨x,c8,e8,k8⟩:=instruction2 c7 (many:=16) (by decide) (by decide)
  obtain⟨xs,c9,e9,k9,k9'⟩:=block2 c8 (many:=16) (most:=5) (by decide) (by decide) (by decide) (by decide)
  have hs:(St.loop o (x::xs)).ok:=⟨ok,fun y m=>(zmo m).elim (fun z=>z▸k8) (k9' y),by simp,by simp;omega⟩
  refine⟨[.loop o (x::xs)],c9,some (.v o.e),?_,fun s m=>by rw [zsg m];exact hs,by simp,by
   have:=(St.lns_len hs).1
   show(St.lns _++[]).length≤8
   rw [List.append_nil];exact this⟩
  have ht:uBl (y2 eqV (Yc 2 g_law_take (zCons (Yv 0) (zCons (yC (.int (3))) Zn))) (yC (.int (0)))) [some (.v .tok),some (.v (.int 16)),some (.v (.int 6)),some (.o (ps.map St.e)),some (.v d),v5] c=some (true,c1):=by
   clear e2 e3 e4 e5 e6 h6 e7 ho e8 e9 hs
   generalize ps.map St.e=F at *
   walk_at "q2"
  have s1:rAs 5 (y2 ixV (yLst (zCons (yTup (zCons (yC (.str "int")) (zCons (y2 subV (Yc 2 g_law_take (zCons (Yv 0) (zCons (yC (.int (7))) Zn))) (yC (.int (1)))) Zn))) (zCons (yTup (zCons (yC (.str "reg")) (zCons (Yc 2 g_law_take (zCons (Yv 0) (zCons (Yv 1) Zn))) Zn))) (zCons (yTup (zCons (yC (.str "int")) (zCons (y2 ixV (yLst (zCons (Yc 2 g_law_take (zCons (Yv 0) (zCons (yC (.int (50))) Zn))) (zCons (Yc 1 g_law_integer (zCons (Yv 0) Zn)) Zn))) (Yc 2 g_law_take (zCons (Yv 0) (zCons (yC (.int (2))) Zn)))) Zn))) Zn)))) (Yc 2 g_law_take (zCons (Yv 0) (zCons (yC (.int (3))) Zn)))) [some (.v .tok),some (.v (.int 16)),some (.v (.int 6)),some (.o (ps.map St.e)),some (.v d),v5] c1=some (.nx,[some (.v .tok),some (.v (.int 16)),some (.v (.int 6)),some (.o (ps.map St.e)),some (.v d),some (.v o.e)],c7):=by
   clear e1 e8 e9 hs ht k9' k8
   generalize ps.map St.e=F at *
   generalize o.e=oe at *
   walk_at "q2"
  have s2:rAe 3 (yTup (zCons (yC (.str "loop")) (zCons (Yv 5) (zCons (y2 addV (yTup (zCons (Yc 2 g_law_instruction (zCons (Yv 0) (zCons (Yv 1) Zn))) Zn)) (Yc 3 g_law_block (zCons (Yv 0) (zCons (Yv 1) (zCons (y2 subV (yPk 2) (yC (.int (1)))) Zn))))) Zn)))) [some (.v .tok),some (.v (.int 16)),some (.v (.int 6)),some (.o (ps.map St.e)),some (.v d),some (.v o.e)] c7=some (.nx,[some (.v .tok),some (.v (.int 16)),some (.v (.int 6)),some (.o ((ps++[St.loop o (x::xs)]).map St.e)),some (.v d),some (.v o.e)],c9):=by
   have ha:addV (.tup [x.e]) (.tup (xs.map In.e))=some (.tup ((x::xs).map In.e)):=by
    show(if _ then _ else _)=_
    rw [if_pos (of_eq_true (zl _ (by rw [zlm];simp;omega)))]
    rfl
   refine ae_at (Tua (zcons_at q_c (zcons_at (Vaa rfl) (zcons_at (y2_at (Tua (zcons_at ((Caa (ds:=[.tok,.int 16]) (c1:=c7) rfl rfl).trans e8) q_nil) (by simp)) ((Caa (ds:=[.tok,.int 16,.int 5]) (c1:=c8) rfl rfl).trans e9) ha) q_nil))) (by simp)) rfl (by rw [zlm];omega) ?_
   rw [zmq]
   rfl
  unfold l_law_program_0
  exact(rif_t ht).trans ((sq_nx s1).trans s2)
 ·obtain⟨xs,c9,e9,k9,k9'⟩:=block2 c1 (many:=16) (most:=4) (by decide) (by decide) (by decide) (by decide)
  refine⟨xs.map St.ins,c9,v5,?_,fun s m=>by obtain⟨x,mx,rfl⟩:=List.mem_map.mp m;exact k9' x mx,by rw [zlm];omega,by rw [ins_lns];omega⟩
  have ht:uBl (y2 eqV (Yc 2 g_law_take (zCons (Yv 0) (zCons (yC (.int (3))) Zn))) (yC (.int (0)))) [some (.v .tok),some (.v (.int 16)),some (.v (.int 6)),some (.o (ps.map St.e)),some (.v d),v5] c=some (false,c1):=by
   clear e9 k9'
   generalize ps.map St.e=F at *
   walk_at "q2"
  unfold l_law_program_0
  refine(rif_f ht).trans ?_
  refine ao_at (ds:=(ps++xs.map St.ins).map St.e) (y2_at (pko_at rfl) (y1_at ((Caa (ds:=[.tok,.int 16,.int 4]) (c1:=c1) rfl rfl).trans e9) (r:=.lst (xs.map In.e)) rfl) ?_) rfl
  rw [catL (by rw [zlm,zlm];omega),zmq,ins_map]
theorem prog_loop:∀(ds:List DV) (ps:List St) (v4 v5:Option Sl) (c:Cs),ps.length+4*ds.length≤100→(∀s∈ps,s.ok)→∃(qs:List St) (c':Cs) (w4 w5:Option Sl),forW (qNm 4) l_law_program_0 ds [some (.v .tok),some (.v (.int 16)),some (.v (.int 6)),some (.o (ps.map St.e)),v4,v5] c=some (.nx,[some (.v .tok),some (.v (.int 16)),some (.v (.int 6)),some (.o (qs.map St.e)),w4,w5],c')∧(∀s∈qs,s.ok)∧(lnsOf qs).length≤(lnsOf ps).length+8*ds.length
 | [],ps,v4,v5,c,_,h=>⟨ps,c,v4,v5,rfl,h,by simp⟩
 | d::ds,ps,v4,v5,c,hl,h=>by
  rw [zlc] at hl
  obtain⟨qs,c1,w5,e1,h1,l1,m1⟩:=prog_step ps (by omega) d v5 c
  obtain⟨rs,c2,x4,x5,e2,h2,m2⟩:=prog_loop ds (ps++qs) (some (.v d)) w5 c1 (by rw [zla];omega) (fun s m=>(zma m).elim (h s) (h1 s))
  refine⟨rs,c2,x4,x5,(forW_one (v1:=[some (.v .tok),some (.v (.int 16)),some (.v (.int 6)),some (.o (ps.map St.e)),some (.v d),v5]) rfl e1).trans e2,h2,?_⟩
  rw [lns_app] at m2
  rw [zlc]
  omega
theorem cut12 (ds:List DV):cutD ds none (some 12)=ds.take 12:=by
 unfold cutD
 rw [HT.sIx_none,show(some (12:Int))=some ((12:Nat):Int) from rfl,HT.sIx_nat,List.drop_zero,Nat.sub_zero]
 rcases Nat.le_total 12 ds.length with h|h
 ·rw [Nat.min_eq_left h]
 ·rw [Nat.min_eq_right h,List.take_of_length_le (znr _),List.take_of_length_le h]
theorem sf_at {a:E2}{lo hi:O2}{v:Env2}{c c1:Cs}{ds:List DV}{i j:Option Int}(h:a v c=some (.lst ds,c1))(hl:lo v c1=some (i,c1))(hh:hi v c1=some (j,c1)):ySf a lo hi v c=some (.lst (cutD ds i j),c1):=by
 rw [q_sf,h]
 simp only [zob]
 rw [hl]
 simp only [zob]
 rw [hh]
 rfl
theorem program2 (c:Cs):∃(ps:List St) (c':Cs),g_law_program [.tok,.int 16,.int 6] c=some (.tup (ps.map St.e),c')∧(∀s∈ps,s.ok)∧ps.length≤12∧(lnsOf ps).length≤32:=by
 obtain⟨d,c1,e1,l1,u1⟩:=take2 c (many:=5) (by decide) (by decide)
 obtain⟨qs,c2,w4,w5,e2,h2,m2⟩:=prog_loop (rangeD 0 d.toNat) [] none none c1 (by rw [range_len];simp;omega) nofun
 rw [range_len] at m2
 refine⟨qs.take 12,c2,?_,fun s m=>h2 s (List.mem_of_mem_take m),by rw [List.length_take];omega,?_⟩
 ·have s1:rAo 3 (yLst Zn) [some (.v .tok),some (.v (.int 16)),some (.v (.int 6)),none,none,none] c=some (.nx,[some (.v .tok),some (.v (.int 16)),some (.v (.int 6)),some (.o (([]:List St).map St.e)),none,none],c):=rfl
  have s2:=(for_at (g:=qNm 4) (r:=l_law_program_0) (jrg1_at (a:=Yc 2 g_law_take (zCons (Yv 0) (zCons (yC (.int (5))) Zn))) (v:=[some (.v .tok),some (.v (.int 16)),some (.v (.int 6)),some (.o (([]:List St).map St.e)),none,none]) (c:=c) (c1:=c1) l1 (by omega) ((Caa (ds:=[.tok,.int 5]) (c1:=c) rfl rfl).trans e1))).trans e2
  have s3:rRt (y1 tupleV (ySf (yPk 3) oN2 (oS2 (yC (.int (12)))))) [some (.v .tok),some (.v (.int 16)),some (.v (.int 6)),some (.o (qs.map St.e)),w4,w5] c2=some (.rt (.tup ((qs.take 12).map St.e)),[some (.v .tok),some (.v (.int 16)),some (.v (.int 6)),some (.o (qs.map St.e)),w4,w5],c2):=by
   refine rt_at (y1_at (sf_at (i:=none) (j:=some 12) (pko_at rfl) rfl rfl) ?_)
   rw [cut12,List.map_take]
   rfl
  unfold g_law_program gb_law_program
  exact fn_at rfl ((sq_nx s1).trans ((sq_nx s2).trans s3))
 ·have:=lns_take 12 qs
  have e:(lnsOf ([]:List St)).length=0:=rfl
  omega
def LnW (l:List Nat)(ws:Row):Prop:=(∃a,l=List.replicate a 32++TL.joinL (List.replicate 1 32) ws)∧ws≠[]∧(∀w∈ws,Wd w)∧ws.length≤4
def St.prs:St→List (List Nat×Row)
 | .ins x=>[(x.ln,x.ws)] | .loop n b=>((cLoop++32::n.w,[cLoop,n.w])::b.map fun x=>(x.ln2,x.ws))++[(cEnd,[cEnd])]
theorem St.prs_fst (s:St):s.prs.map Prod.fst=s.lns:=by
 cases s with
 | ins x=>rfl
 | loop n b=>simp [St.prs,St.lns,List.map_map,Function.comp_def]
theorem St.prs_ok {s:St}(h:s.ok):∀p∈s.prs,LnW p.1 p.2:=by
 have hin:∀x:In,x.ok 16→∀a:Nat,LnW (List.replicate a 32++x.ln) x.ws:=fun x hx a=>⟨⟨a,rfl⟩,(In.wd hx).2.1,(In.wd hx).1,(In.wd hx).2.2⟩
 cases s with
 | ins x=>intro p m;rw [zsg m];exact hin x h 0
 | loop n b=>
  intro p m
  simp only [St.prs,List.cons_append,List.mem_cons,List.mem_append,List.mem_map,List.not_mem_nil,or_false] at m
  rcases m with rfl|⟨x,mx,rfl⟩|rfl
  ·refine⟨⟨0,rfl⟩,by simp,fun w m=>?_,by simp⟩
   simp only [List.mem_cons,List.not_mem_nil,or_false] at m
   rcases m with rfl|rfl
   ·exact wd_lit (by decide)
   ·exact Op.wd h.1
  ·exact hin x (h.2.1 x mx) 2
  ·refine⟨⟨0,rfl⟩,by simp,fun w m=>?_,by simp⟩
   rw [zsg m]
   exact wd_lit (by decide)
abbrev prsOf (ps:List St):List (List Nat×Row):=ps.flatMap St.prs
theorem prs_lns (ps:List St):(prsOf ps).map Prod.fst=lnsOf ps:=by
 rw [List.map_flatMap];exact congrArg (fun f=>ps.flatMap f) (funext St.prs_fst)
theorem prs_ok {ps:List St}(h:∀s∈ps,s.ok):∀p∈prsOf ps,LnW p.1 p.2:=fun p m=>by
 obtain⟨s,ms,mp⟩:=List.mem_flatMap.mp m
 exact St.prs_ok (h s ms) p mp
theorem nl_join:∀ls:List (List Nat),TL.joinL [] (ls.map (· ++ [10]))=TL.joinL [10] (ls++[[]])
 | []=>rfl
 | [l]=>by
  show l++[10]=l++([10]++[])
  simp
 | l::m::ls=>by
  have ih:=nl_join (m::ls)
  show(l++[10])++([]++TL.joinL [] ((m::ls).map (· ++ [10])))=l++([10]++TL.joinL [10] ((m::ls)++[[]]))
  rw [ih]
  simp
theorem joinL_len (sep:List Nat):∀ls:List (List Nat),(TL.joinL sep ls).length≤(ls.map List.length).sum+sep.length*ls.length
 | []=>by simp [TL.joinL]
 | [l]=>by show l.length≤_;simp
 | l::m::ls=>by
  have ih:=joinL_len sep (m::ls)
  show(l++(sep++TL.joinL sep (m::ls))).length≤_
  rw [zla,zla,zmc,List.sum_cons,zlc (a:=l),Nat.mul_succ]
  omega
def sg:List Nat:=[97,98,99,120,121,122,32,48,49,56,57,32,35,40,41,43,45,42,47,46,44,59,58,33,63,95,61,60,62,126]
theorem an_b {a b:E2}{v:Env2}{c:Cs}{x y:Bool}(h1:a v c=some (.bl x,c))(h2:x=true→b v c=some (.bl y,c)):yAn a b v c=some (.bl (x&&y),c):=by
 rw [q_an,h1]
 cases x with
 | true=>exact h2 rfl
 | false=>rfl
theorem or_b {a b:E2}{v:Env2}{c:Cs}{x y:Bool}(h1:a v c=some (.bl x,c))(h2:x=false→b v c=some (.bl y,c)):yOr a b v c=some (.bl (x||y),c):=by
 rw [q_or,h1]
 cases x with
 | false=>exact h2 rfl
 | true=>rfl
theorem uan_b {a b:T2}{v:Env2}{c:Cs}{x y:Bool}(h1:a v c=some (x,c))(h2:x=true→b v c=some (y,c)):uAn a b v c=some (x&&y,c):=by
 rw [q_uan,h1]
 cases x with
 | true=>exact h2 rfl
 | false=>rfl
theorem uor_b {a b:T2}{v:Env2}{c:Cs}{x y:Bool}(h1:a v c=some (x,c))(h2:x=false→b v c=some (y,c)):uOr a b v c=some (x||y,c):=by
 rw [q_uor,h1]
 cases x with
 | false=>exact h2 rfl
 | true=>rfl
theorem bl_eq {a:Option (DV×Cs)}{c:Cs}{x y:Bool}(h:a=some (.bl x,c))(e:x=y):a=some (.bl y,c):=by rw [h,e]
abbrev dv (w:List Nat):Nat:=PySem.NumText.digitsVal w
def isN (w:List Nat):Bool := !w.isEmpty&&(w.all (fun c=>decide (48≤c)&&decide (c≤57))&&(decide (w=[48]) || !decide (w.head?=some 48)))
def Asc (w:List Nat):Prop:=∀c∈w,c<128
theorem dig128:∀c,c<128→PySem.Unicode.isDigit c=(decide (48≤c)&&decide (c≤57)):=by decide +kernel
theorem asc_ascii {w:List Nat}(h:Asc w):PySem.Txt.isascii (TS' w)=true:=by
 unfold PySem.Txt.isascii
 rw [←Array.all_toList,List.all_eq_true]
 intro c hc
 have:=h c hc
 simp;omega
theorem asc_digit {w:List Nat}(h:Asc w):PySem.Txt.isdigit (TS' w)=(!w.isEmpty&&w.all (fun c=>decide (48≤c)&&decide (c≤57))):=by
 unfold PySem.Txt.isdigit
 rw [SX.S_len,←Array.all_toList]
 congr 1
 ·cases w<;>simp
 ·rw [Bool.eq_iff_iff,List.all_eq_true,List.all_eq_true]
  refine forall_congr' fun c=>forall_congr' fun hc=>?_
  rw [dig128 c (h c hc)]
theorem t0_iff (w:List Nat)(k:List Nat):(TS' w=TS' k)=(w=k):=by
 refine propext ⟨fun z=>?_,fun z=>by rw [z]⟩
 have:=congrArg (fun s:Str=>s.cps.toList) z
 simpa using this
theorem eqS (w k:List Nat):V2.eqV (sW w) (sW k)=some (.bl (decide (w=k))):=by
 show V2.eqV (.str (TS' w)) (.str (TS' k))=_
 rw [eqV_str]
 congr 2
 rw [decide_eq_decide,t0_iff]
theorem neS (w k:List Nat):V2.neV (sW w) (sW k)=some (.bl (!decide (w=k))):=by
 show V2.neV (.str (TS' w)) (.str (TS' k))=_
 rw [neV_str]
 congr 3
 rw [decide_eq_decide,t0_iff]
theorem lenS {w:List Nat}(h:w.length≤900000):lenV (sW w)=some (.int w.length):=by
 show(if(TS' w).length≤PySem.sizeLine then some (DV.int (TS' w).length) else none)=_
 rw [if_pos (of_eq_true (small_S h)),SX.S_len]
theorem natural_g {w:List Nat}(h:Asc w)(c:Cs):g_is_natural [sW w] c=some (.bl (isN w),c):=by
 have h1:isasciiV (.str (TS' w))=some (.bl true):=congrArg (fun b=>some (DV.bl b)) (asc_ascii h)
 have h2:isdigitV (.str (TS' w))=some (.bl (!w.isEmpty&&w.all (fun c=>decide (48≤c)&&decide (c≤57)))):=congrArg (fun b=>some (DV.bl b)) (asc_digit h)
 have h3:=starts_V 48 w
 have h4:=eqS w [48]
 unfold g_is_natural gb_is_natural isN
 rw [l_0]
 unfold sW at *
 cases hd:(!w.isEmpty&&w.all (fun c=>decide (48≤c)&&decide (c≤57))) with
 | false=>
  rw [hd] at h2
  rw [←Bool.and_assoc,hd]
  clear hd h
  walk_at "q2"
  rfl
 | true=>
  rw [hd] at h2
  rw [←Bool.and_assoc,hd]
  clear hd h
  by_cases hz:w=[48]
  ·subst hz
   clear h3
   walk_at "q2"
   rfl
  ·rw [zdf hz] at h4 ⊢
   rw [eqV_str] at h4
   clear hz
   walk_at "q2"
   simp
theorem in128:∀c,c<128→(!(PySem.Builtin.Str.occurrences (TS' [48,49,50,51,52,53,54,55,56,57]) ⟨#[c]⟩ 0 10 1).isEmpty)=(decide (48≤c)&&decide (c≤57)):=by decide +kernel
theorem l_09:("0123456789":Str)=TS' [48,49,50,51,52,53,54,55,56,57]:=by decide
theorem in_09 {c:Nat}(h:c<128):inSV (.str ⟨#[c]⟩) (.str (TS' [48,49,50,51,52,53,54,55,56,57]))=some (.bl (decide (48≤c)&&decide (c≤57))):=
 congrArg (fun b=>some (DV.bl b)) (in128 c h)
theorem blsD_map {α:Type}(f:α→Bool):∀xs:List α,blsD (xs.map fun x=>DV.bl (f x))=some (xs.map f)
 | []=>rfl
 | x::xs=>by
  show(blsD (xs.map fun x=>DV.bl (f x))).map _=_
  rw [blsD_map f xs]
  rfl
theorem digits_lc {w:List Nat}(h:Asc w)(hl:w.length≤100000)(c:Cs):y1 allV (yLc [1] (jAny (yPk 0)) (qNm 1) uYs (y2 inSV (yPk 1) (yC (.str "0123456789")))) [some (.v (sW w)),none] c=some (.bl (w.all fun c=>decide (48≤c)&&decide (c≤57)),c):=by
 refine y1_at (lc_at (ds:=w.map fun c=>DV.str ⟨#[c]⟩) (jany_at (pk_at rfl) rfl) (by rw [zlm];exact hl) rfl (lc_all (fun c=>DV.str ⟨#[c]⟩) (fun c=>DV.bl (decide (48≤c)&&decide (c≤57))) w fun x m=>⟨_,rfl,y2_at (pk_at rfl) q_c (by rw [l_09];exact in_09 (h x m))⟩)) ?_
 show(blsD (w.map fun x=>DV.bl (decide (48≤x)&&decide (x≤57)))).map _=_
 rw [blsD_map]
 show some (DV.bl ((w.map _).all id))=_
 rw [List.all_map]
 rfl
theorem hd_ix {w:List Nat}{d:Nat}{r:List Nat}(e:w=d::r)(hl:w.length≤900000):ixV (sW w) (.int 0)=some (sW [d]):=by
 subst e
 show(if(TS' (d::r)).length≤PySem.sizeLine then _ else none)=_
 rw [if_pos (of_eq_true (small_S hl))]
 show Option.map _ (L2.atI (d::r) 0)=_
 rw [atI_at (by decide)]
 rfl
theorem digits_g {w:List Nat}(h:Asc w)(hl:w.length≤100000)(c:Cs):g_law_digits [sW w] c=some (.bl (isN w),c):=by
 have e0:("":Str)=TS' []:=by decide
 have h1:y2 neV (yPk 0) (yC (.str "")) [some (.v (sW w)),none] c=some (.bl (!decide (w=[])),c):=y2_at (pk_at rfl) q_c (by rw [e0];exact neS w [])
 have h2:=digits_lc h hl c
 have h3:y2 eqV (yPk 0) (yC (.str "0")) [some (.v (sW w)),none] c=some (.bl (decide (w=[48])),c):=y2_at (pk_at rfl) q_c (by rw [l_0];exact eqS w [48])
 have h4:w≠[]→y2 neV (y2 ixV (yPk 0) (yC (.int 0))) (yC (.str "0")) [some (.v (sW w)),none] c=some (.bl (!decide (w.head?=some 48)),c):=fun hn=>by
  cases w with
  | nil=>exact absurd rfl hn
  | cons d r=>
   refine y2_at (y2_at (pk_at rfl) q_c (hd_ix rfl (by omega))) q_c ?_
   rw [l_0,neS]
   congr 3
   rw [decide_eq_decide]
   simp
 refine fn_at rfl (rt_at (bl_eq (an_b h1 fun z=>an_b h2 fun _=>or_b h3 fun _=>h4 (by simpa using z)) ?_))
 unfold isN
 congr 1
 cases w<;>simp
def regN:List Nat→Option (List Nat)
 | 114::r=>if isN r=true then some r else none
 | _=>none
def intN:List Nat→Option Int
 | 45::r=>if r≠[48]∧isN r=true then some (-(dv r:Int)) else none
 | w=>if isN w=true then some (dv w:Int) else none
def cls (w:List Nat):Option Op:=match regN w with
 | some r=>some (.reg (dv r))
 | none=>(intN w).map Op.int
theorem isN_digits {w:List Nat}(h:isN w=true):w.all (fun c=>decide (48≤c)&&decide (c≤57))=true∧w≠[]:=by
 unfold isN at h
 rw [Bool.and_eq_true,Bool.and_eq_true] at h
 exact⟨h.2.1,by rintro rfl;simp at h⟩
theorem int_g {w:List Nat}(h:isN w=true)(hl:w.length≤640):intV (sW w)=some (.int (dv w:Int)):=by
 obtain⟨h1,h2⟩:=isN_digits h
 show(PySem.intText? (TS' w)).bind _=_
 rw [SX.int_S h1 h2 (by omega)]
 show(if(TS' w).length≤640 then some (DV.int _) else none)=_
 rw [if_pos (by rw [SX.S_len];exact hl)]
theorem int_n {w:List Nat}(h:isN w=true)(hl:w.length+1≤640):intV (sW (45::w))=some (.int (-(dv w:Int))):=by
 obtain⟨h1,h2⟩:=isN_digits h
 show(PySem.intText? (TS' (45::w))).bind _=_
 rw [PySem.intText_neg (x:=TS' (45::w)) rfl (fun c hc=>by
  have z:(decide (48≤c)&&decide (c≤57))=true:=List.all_eq_true.mp h1 c hc
  rw [Bool.and_eq_true,decide_eq_true_eq,decide_eq_true_eq] at z
  exact z) h2 (by rw [SX.S_len];simp;omega)]
 show(if(TS' (45::w)).length≤640 then some (DV.int _) else none)=_
 rw [if_pos (by rw [SX.S_len];simpa using hl)]
theorem cut_1 (w:List Nat):L2.cutS (TS' w) none (some 1)=TS' (w.take 1):=by
 cases w with
 | nil=>decide
 | cons d r=>
  unfold L2.cutS
  have e:HT.sIx (TS' (d::r)).length (TS' (d::r)).length (some 1)=1:=by
   have:=HT.sIx_nat (TS' (d::r)).length (TS' (d::r)).length 1
   rw [SX.S_len,zlc] at this ⊢
   have e2:((1:Nat):Int)=1:=rfl
   rw [e2] at this
   rw [this]
   omega
  rw [e,HT.sIx_none]
  rfl
theorem cut_t (w:List Nat):L2.cutS (TS' w) (some 1) none=TS' w.tail:=by
 cases w with
 | nil=>decide
 | cons d r=>exact cut1 d r
theorem pif_t {t:T2}{a b:S2W}{v:Env2}{c c1:Cs}(h:t v c=some (true,c1)):pIf t a b v c=a v c1:=by
 unfold pIf;rw [h];rfl
theorem pif_f {t:T2}{a b:S2W}{v:Env2}{c c1:Cs}(h:t v c=some (false,c1)):pIf t a b v c=b v c1:=by
 unfold pIf;rw [h];rfl
theorem psq_nx {a b:S2W}{v v1:Env2}{c c1:Cs}(h:a v c=some (.ok (.nx,v1),c1)):pSq a b v c=b v1 c1:=by
 unfold pSq;rw [h];rfl
theorem psq_rt {a b:S2W}{v v1:Env2}{c c1:Cs}{d:DV}(h:a v c=some (.ok (.rt d,v1),c1)):pSq a b v c=some (.ok (.rt d,v1),c1):=by
 unfold pSq;rw [h];rfl
theorem psq_ex {a b:S2W}{v:Env2}{c c1:Cs}{x:X2}(h:a v c=some (.ex x,c1)):pSq a b v c=some (.ex x,c1):=by
 unfold pSq;rw [h];rfl
theorem ps_at {a:S2}{v v1:Env2}{c c1:Cs}{f:Fl2}(h:a v c=some (f,v1,c1)):pS a v c=some (.ok (f,v1),c1):=by
 unfold pS;rw [h];rfl
theorem fnp_rt {n:Nat}{b:S2W}{ds:List DV}{V V1:Env2}{c c1:Cs}{d:DV}(h:start2 n ds=V)(hb:b V c=some (.ok (.rt d,V1),c1)):fnp n b ds c=some (.ok d,c1):=by
 unfold fnp;rw [h,hb];rfl
theorem fnp_nx {n:Nat}{b:S2W}{ds:List DV}{V V1:Env2}{c c1:Cs}(h:start2 n ds=V)(hb:b V c=some (.ok (.nx,V1),c1)):fnp n b ds c=some (.ok .non,c1):=by
 unfold fnp;rw [h,hb];rfl
theorem fnp_ex {n:Nat}{b:S2W}{ds:List DV}{V:Env2}{c c1:Cs}{x:X2}(h:start2 n ds=V)(hb:b V c=some (.ex x,c1)):fnp n b ds c=some (.ex x,c1):=by
 unfold fnp;rw [h,hb];rfl
theorem pcall_at {n:Nat}{F:F2W}{a:A2}{v:Env2}{c c1:Cs}{ds:List DV}(h:a v c=some (ds,c1))(hl:ds.length=n):pCall n F a v c=F ds c1:=by
 unfold pCall;rw [h];simp only [zob];rw [if_pos hl]
theorem sq_rt {a b:S2}{v v1:Env2}{c c1:Cs}{d:DV}(h:a v c=some (.rt d,v1,c1)):rSq a b v c=some (.rt d,v1,c1):=by rw [q_sq,h];rfl
theorem hdS_at {w:List Nat}{v:Env2}{c:Cs}(hv:v[0]?=some (some (.v (sW w))))(hl:w.length≤900000):ySl (yPk 0) oN2 (oS2 (yC (.int (1)))) v c=some (sW (w.take 1),c):=by
 rw [q_sl,pk_at hv]
 show(if(TS' w).length≤PySem.sizeLine then some (DV.str (L2.cutS (TS' w) none (some 1)),c) else none)=_
 rw [if_pos (of_eq_true (small_S hl)),cut_1]
theorem tlS_at {w:List Nat}{v:Env2}{c:Cs}(hv:v[0]?=some (some (.v (sW w))))(hl:w.length≤900000):ySl (yPk 0) (oS2 (yC (.int (1)))) oN2 v c=some (sW w.tail,c):=by
 rw [q_sl,pk_at hv]
 show(if(TS' w).length≤PySem.sizeLine then some (DV.str (L2.cutS (TS' w) (some 1) none),c) else none)=_
 rw [if_pos (of_eq_true (small_S hl)),cut_t]
theorem truB (b:Bool):truV (.bl b)=some b:=rfl
theorem asc_tail {w:List Nat}(h:Asc w):Asc w.tail:=fun c m=>h c (List.mem_of_mem_tail m)
theorem take1 (w:List Nat)(k:Nat):(w.take 1=[k])=(w.head?=some k):=by cases w<;>simp
theorem starts1 (k:Nat)(w:List Nat):startsV (sW w) (.str (TS' [k]))=some (.bl (decide (w.take 1=[k]))):=by
 show startsV (.str (TS' w)) _=_
 rw [starts_V]
 congr 2
 rw [decide_eq_decide,take1]
theorem regN_b (w:List Nat):(regN w).isSome=(decide (w.take 1=[114])&&isN w.tail)∧∀r,regN w=some r→r=w.tail∧isN r=true:=by
 cases w with
 | nil=>exact⟨rfl,fun r z=>nomatch z⟩
 | cons d r=>
  by_cases hd:d=114
  ·subst hd
   show(if isN r=true then some r else none).isSome=_∧∀r',(if isN r=true then some r else none)=some r'→_
   cases hr:isN r with
   | true=>exact⟨by simp [hr],fun r' z=>by simp at z;subst z;exact⟨rfl,hr⟩⟩
   | false=>exact⟨by simp [hr],fun r' z=>by simp at z⟩
  ·have e:regN (d::r)=none:=by
    unfold regN
    split
    ·rename_i h
     exact absurd (List.cons.inj h).1 hd
    ·rfl
   rw [e]
   exact⟨by simp [hd],fun r z=>nomatch z⟩
theorem intN_b (w:List Nat):intN w=if w.take 1=[45] then(if w≠[45,48]∧isN w.tail=true then some (-(dv w.tail:Int)) else none) else if isN w=true then some (dv w:Int) else none:=by
 cases w with
 | nil=>rfl
 | cons d r=>
  by_cases hd:d=45
  ·subst hd
   show(if r≠[48]∧isN r=true then some (-(dv r:Int)) else none)=_
   rw [if_pos (show List.take 1 (45::r)=[45] from rfl)]
   simp
  ·rw [if_neg (by simp [hd])]
   unfold intN
   split
   ·rename_i h
    exact absurd (List.cons.inj h).1 hd
   ·rfl
def nonI:Option Int→DV
 | some i=>.int i
 | none=>.non
theorem lregister {w:List Nat}(h:Asc w)(hl:w.length≤640)(c:Cs):g_law_register [sW w] c=some (nonI ((regN w).map fun r=>(dv r:Int)),c):=by
 obtain⟨hb,hs⟩:=regN_b w
 have t1:uBl (y2 eqV (ySl (yPk 0) oN2 (oS2 (yC (.int (1))))) (yC (.str "r"))) [some (.v (sW w))] c=some (decide (w.take 1=[114]),c):=ubl_at (y2_at (hdS_at rfl (by omega)) q_c (by rw [l_r];exact eqS _ _))
 have t2:uTru (Yc 1 g_law_digits (zCons (ySl (yPk 0) (oS2 (yC (.int (1)))) oN2) Zn)) [some (.v (sW w))] c=some (isN w.tail,c):=utru_at ((Caa (zcons_at (tlS_at rfl (by omega)) q_nil) rfl).trans (digits_g (asc_tail h) (by rw [List.length_tail];omega) c)) (truB _)
 have t:=uan_b t1 fun _=>t2
 rw [←hb] at t
 cases e:regN w with
 | some r=>
  obtain⟨rfl,hr⟩:=hs r e
  rw [e] at t
  exact fn_at rfl ((sq_rt ((rif_t t).trans (rt_at (y1_at (tlS_at rfl (by omega)) (int_g hr (by rw [List.length_tail];omega)))))))
 | none=>
  rw [e] at t
  exact fn_at rfl ((sq_nx ((rif_f t).trans rfl)).trans (rt_at q_c))
def nonO:Option Op→DV
 | some o=>o.e
 | none=>.non
theorem loperand {w:List Nat}(h:Asc w)(hl:w.length≤640)(c:Cs):g_law_read_operand [sW w] c=some (nonO (cls w),c):=by
 have L:=lregister h hl c
 have k1:Yc 1 g_law_register (zCons (Yv 0) Zn) [some (.v (sW w))] c=some (nonI ((regN w).map fun r=>(dv r:Int)),c):=(call1_at rfl).trans L
 unfold cls
 cases e:regN w with
 | some r=>
  rw [e] at k1
  have t:uBl (y2 notNV (Yc 1 g_law_register (zCons (Yv 0) Zn)) (yC .non)) [some (.v (sW w))] c=some (true,c):=ubl_at (y2_at k1 q_c rfl)
  exact fn_at rfl (sq_rt ((rif_t t).trans (rt_at (Tua (zcons_at q_c (zcons_at k1 q_nil)) (by simp)))))
 | none=>
  rw [e] at k1
  have t:uBl (y2 notNV (Yc 1 g_law_register (zCons (Yv 0) Zn)) (yC .non)) [some (.v (sW w))] c=some (false,c):=ubl_at (y2_at k1 q_c rfl)
  refine fn_at (V:=[some (.v (sW w))]) (V':=[some (.v (sW w))]) (c1:=c) rfl ((sq_nx ((rif_f t).trans rfl)).trans ?_)
  have t1:uBl (y2 eqV (ySl (yPk 0) oN2 (oS2 (yC (.int (1))))) (yC (.str "-"))) [some (.v (sW w))] c=some (decide (w.take 1=[45]),c):=ubl_at (y2_at (hdS_at rfl (by omega)) q_c (by rw [l_m];exact eqS _ _))
  have t2:uTru (Yc 1 g_law_digits (zCons (ySl (yPk 0) (oS2 (yC (.int (1)))) oN2) Zn)) [some (.v (sW w))] c=some (isN w.tail,c):=utru_at ((Caa (zcons_at (tlS_at rfl (by omega)) q_nil) rfl).trans (digits_g (asc_tail h) (by rw [List.length_tail];omega) c)) (truB _)
  have t3:uBl (y2 neV (yPk 0) (yC (.str "-0"))) [some (.v (sW w))] c=some (!decide (w=[45,48]),c):=ubl_at (y2_at (pk_at rfl) q_c (by rw [l_m0];exact neS _ _))
  have t4:=uan_b t1 fun _=>uan_b t2 fun _=>t3
  have t5:uTru (Yc 1 g_law_digits (zCons (Yv 0) Zn)) [some (.v (sW w))] c=some (isN w,c):=utru_at ((call1_at rfl).trans (digits_g h (by omega) c)) (truB _)
  rw [intN_b]
  by_cases h1:w.take 1=[45]
  ·rw [if_pos h1]
   rw [zdt h1,Bool.true_and] at t4
   by_cases h2:w≠[45,48]∧isN w.tail=true
   ·rw [if_pos h2]
    rw [h2.2,zdf h2.1] at t4
    have ew:w=45::w.tail:=by
     cases w with
     | nil=>cases h1
     | cons d r=>cases h1;rfl
    refine sq_rt ((rif_t t4).trans (rt_at (Tua (zcons_at q_c (zcons_at (y2_at q_c (y1_at (tlS_at rfl (by omega)) (int_g h2.2 (by rw [List.length_tail];omega))) (r:=.int (-(dv w.tail:Int))) ?_) q_nil)) (by simp))))
    show some (DV.int (0-(dv w.tail:Int)))=_
    rw [Int.zero_sub]
   ·rw [if_neg h2]
    have f:(isN w.tail && !decide (w=[45,48]))=false:=by
     cases hx:isN w.tail with
     | false=>rfl
     | true=>
      by_cases hz:w=[45,48]
      ·simp [hz]
      ·exact absurd ⟨hz,hx⟩ h2
    rw [f] at t4
    refine(sq_nx ((rif_f t4).trans rfl)).trans ?_
    have n5:isN w=false:=by
     cases w with
     | nil=>cases h1
     | cons d r=>
      cases h1
      unfold isN
      simp
    rw [n5] at t5
    exact(sq_nx ((rif_f t5).trans rfl)).trans (rt_at q_c)
  ·rw [if_neg h1]
   rw [zdf h1,Bool.false_and] at t4
   refine(sq_nx ((rif_f t4).trans rfl)).trans ?_
   cases h2:isN w with
   | true=>
    rw [h2] at t5
    rw [if_pos rfl]
    exact sq_rt ((rif_t t5).trans (rt_at (Tua (zcons_at q_c (zcons_at (y1_at (pk_at rfl) (int_g h2 hl)) q_nil)) (by simp))))
   | false=>
    rw [h2] at t5
    rw [if_neg (by decide)]
    exact(sq_nx ((rif_f t5).trans rfl)).trans (rt_at q_c)
theorem isregister {w:List Nat}(h:Asc w)(hl:w.length≤900000)(c:Cs):g_is_register [sW w] c=some (.bl (regN w).isSome,c):=by
 obtain⟨hb,_⟩:=regN_b w
 rw [hb]
 refine fn_at rfl (rt_at (an_b (x:=decide (w.take 1=[114])) (y2_at (pk_at rfl) q_c (by rw [l_r];exact starts1 _ _)) fun _=>(Caa (zcons_at (tlS_at rfl hl) q_nil) rfl).trans (natural_g (asc_tail h) c)))
theorem isinteger {w:List Nat}(h:Asc w)(hl:w.length≤900000)(c:Cs):g_is_integer [sW w] c=some (.bl (intN w).isSome,c):=by
 have t1:uTru (y2 startsV (yPk 0) (yC (.str "-"))) [some (.v (sW w))] c=some (decide (w.take 1=[45]),c):=utru_at (y2_at (pk_at rfl) q_c (by rw [l_m];exact starts1 _ _)) (truB _)
 rw [intN_b]
 by_cases h1:w.take 1=[45]
 ·rw [if_pos h1]
  rw [zdt h1] at t1
  refine fn_at rfl (sq_rt ((rif_t t1).trans (rt_at (bl_eq (an_b (y2_at (pk_at rfl) q_c (by rw [l_m0];exact neS _ _)) fun _=>(Caa (zcons_at (tlS_at rfl hl) q_nil) rfl).trans (natural_g (asc_tail h) c)) ?_))))
  cases hx:isN w.tail<;>by_cases hz:w=[45,48] <;> simp [hz]
 ·rw [if_neg h1]
  rw [zdf h1] at t1
  refine fn_at rfl ((sq_nx ((rif_f t1).trans rfl)).trans (rt_at (bl_eq ((call1_at rfl).trans (natural_g h c)) ?_)))
  cases isN w<;>rfl
theorem cls_some (w:List Nat):(cls w).isSome=((regN w).isSome||(intN w).isSome):=by
 unfold cls
 cases regN w<;>simp
theorem iswritten {w:List Nat}(h:Asc w)(hl:w.length≤900000)(part:Str)(c:Cs):g_is_written [.str part,sW w] c=some (.bl ((regN w).isSome||(decide (part="operand")&&(intN w).isSome)),c):=by
 have t:uTru (Yc 1 g_is_register (zCons (Yv 1) Zn)) [some (.v (.str part)),some (.v (sW w))] c=some ((regN w).isSome,c):=utru_at ((call1_at rfl).trans (isregister h hl c)) (truB _)
 cases e:(regN w).isSome with
 | true=>
  rw [e] at t
  exact fn_at rfl (sq_rt ((rif_t t).trans (rt_at q_c)))
 | false=>
  rw [e] at t
  exact fn_at rfl ((sq_nx ((rif_f t).trans rfl)).trans (rt_at (an_b (y2_at (pk_at rfl) q_c (eqV_str ..)) fun _=>(call1_at rfl).trans (isinteger h hl c))))
theorem dv_acc:∀(t:List Nat) (a:Nat),a*10 ^ t.length≤t.foldl (fun acc c=>acc*10+(c-48)) a
 | [],a=>by simp
 | c::t,a=>by
  rw [List.foldl_cons,zlc]
  refine znt ?_ (dv_acc t (a*10+(c-48)))
  rw [Nat.pow_succ,Nat.mul_comm (10 ^ t.length) 10,←Nat.mul_assoc]
  exact Nat.mul_le_mul_right _ (by omega)
theorem dv_ge {w:List Nat}(h:isN w=true)(h1:1<w.length):10 ^ (w.length-1)≤dv w:=by
 obtain⟨h2,h3⟩:=isN_digits h
 cases w with
 | nil=>exact absurd rfl h3
 | cons d r=>
  have hd:(decide (48≤d)&&decide (d≤57))=true:=List.all_eq_true.mp h2 d zms
  rw [Bool.and_eq_true,decide_eq_true_eq,decide_eq_true_eq] at hd
  have h48:d≠48:=by
   rintro rfl
   unfold isN at h
   simp at h
   simp [h.2] at h1
  show 10 ^ r.length≤(d::r).foldl (fun acc c=>acc*10+(c-48)) 0
  rw [List.foldl_cons]
  have:=dv_acc r (0*10+(d-48))
  refine znt ?_ this
  exact znt (Nat.le_of_eq (Nat.one_mul _).symm) (Nat.mul_le_mul_right (10 ^ r.length) (show 1≤0*10+(d-48) by omega))
theorem dv_11 {w:List Nat}(h:isN w=true)(h1:11≤w.length):10000000000≤dv w:=
 znt (Nat.pow_le_pow_right (n:=10) (by decide) (show 10≤w.length-1 by omega)) (dv_ge h (by omega))
theorem low_str:strV (.int (-2147483648))=some (.str "-2147483648"):=by
 rw [str_intV ⟨by decide,by decide⟩]
 exact congrArg (fun s=>some (DV.str s)) (show TS' (numI (-2147483648))="-2147483648" by decide +kernel)
def resN (n lo hi:Int):R2 DV:=if lo≤n∧n≤hi then .ok (.int n) else .ex (1,[])
theorem number_g {w:List Nat}{n lo hi:Int}(hl:w.length≤640)(hi0:intV (sW w)=some (.int n))(hb:11<w.length→¬(lo≤n∧n≤hi))(c:Cs):g_read_number [sW w,.int lo,.int hi] c=some (resN n lo hi,c):=by
 have t1:uBl (y2 gtV (y1 lenV (yPk 0)) (y1 lenV (y1 strV (yC (.int (-2147483648)))))) [some (.v (sW w)),some (.v (.int lo)),some (.v (.int hi)),none] c=some (decide ((w.length:Int)>11),c):=ubl_at (y2_at (y1_at (pk_at rfl) (lenS (by omega))) (y1_at (y1_at q_c low_str) rfl) rfl)
 unfold resN
 by_cases h1:(w.length:Int)>11
 ·rw [zdt h1] at t1
  rw [if_neg (hb (by omega))]
  exact fnp_ex rfl (psq_ex ((pif_t t1).trans rfl))
 ·rw [zdf h1] at t1
  have t2:uOr (uBl (y2 ltV (yPk 3) (yPk 1))) (uBl (y2 gtV (yPk 3) (yPk 2))) [some (.v (sW w)),some (.v (.int lo)),some (.v (.int hi)),some (.v (.int n))] c=some (decide (n<lo)||decide (n>hi),c):=uor_b (ubl_at (y2_at (pk_at rfl) (pk_at rfl) rfl)) fun _=>ubl_at (y2_at (pk_at rfl) (pk_at rfl) rfl)
  have s2:pS (rAs 3 (y1 intV (yPk 0))) [some (.v (sW w)),some (.v (.int lo)),some (.v (.int hi)),none] c=some (.ok (.nx,[some (.v (sW w)),some (.v (.int lo)),some (.v (.int hi)),some (.v (.int n))]),c):=ps_at (as_at (y1_at (pk_at rfl) hi0) rfl)
  by_cases h2:lo≤n∧n≤hi
  ·rw [if_pos h2]
   rw [zdf (by omega),zdf (by omega)] at t2
   exact fnp_rt rfl ((psq_nx ((pif_f t1).trans rfl)).trans ((psq_nx s2).trans ((psq_nx ((pif_f t2).trans rfl)).trans (ps_at (rt_at (Vaa rfl))))))
  ·rw [if_neg h2]
   have e:(decide (n<lo)||decide (n>hi))=true:=by
    rw [Bool.or_eq_true,decide_eq_true_eq,decide_eq_true_eq]
    omega
   rw [e] at t2
   exact fnp_ex rfl ((psq_nx ((pif_f t1).trans rfl)).trans ((psq_nx s2).trans (psq_ex ((pif_t t2).trans rfl))))
def mapR {α β:Type}(f:α→β):R2 α→R2 β
 | .ok a=>.ok (f a)
 | .ex x=>.ex x
theorem prt2 {k:DV}{X:E2W}{v:Env2}{c:Cs}{r:R2 DV}(h:X v c=some (r,c)):pRt (pTup (V2.Pc (pE (yC k)) (V2.Pc X (pA Zn)))) v c=some (mapR (fun d=>(Fl2.rt (.tup [k,d]),v)) r,c):=by
 have e:V2.Pc X (pA Zn) v c=some (mapR (fun d=>[d]) r,c):=by
  unfold V2.Pc
  rw [h]
  cases r<;>rfl
 unfold pRt pTup
 show(((((yC k v c).map fun r=>(R2.ok r.1,r.2)).bind (bp fun d c1=>(V2.Pc X (pA Zn) v c1).bind (bp fun ds c2=>some (.ok (d::ds),c2)))).bind _).bind _)=_
 rw [q_c]
 simp only [Option.map_some,zob,bp]
 rw [e]
 cases r with
 | ok d=>
  simp only [mapR,zob,bp]
  rw [if_pos (by simp [PySem.sizeLine])]
  rfl
 | ex x=>rfl
def okO:Op→Bool
 | .reg k=>decide (0≤k∧k≤15)
 | .int n=>decide (-2147483648≤n∧n≤2147483647)
theorem operandW {w:List Nat}{o:Op}(hl:w.length≤640)(h:cls w=some o)(c:Cs):g_read_operand [sW w] c=some (if okO o=true then .ok o.e else .ex (1,[]),c):=by
 obtain⟨hb,hs⟩:=regN_b w
 have t1:uTru (y2 startsV (yPk 0) (yC (.str "r"))) [some (.v (sW w))] c=some (decide (w.take 1=[114]),c):=utru_at (y2_at (pk_at rfl) q_c (by rw [l_r];exact starts1 _ _)) (truB _)
 unfold cls at h
 cases e:regN w with
 | some r=>
  rw [e] at h hb
  obtain⟨rfl,hr⟩:=hs r e
  cases h
  have h1:w.take 1=[114]:=by
   have:=hb.symm
   rw [Option.isSome_some,Bool.and_eq_true,decide_eq_true_eq] at this
   exact this.1
  rw [zdt h1] at t1
  have tl:w.tail.length≤640:=by rw [List.length_tail];omega
  have n:=number_g (lo:=0) (hi:=15) tl (int_g hr tl) (fun z=>by have:=dv_11 hr (by omega);omega) c
  have n1:pCall 3 g_read_number (zCons (ySl (yPk 0) (oS2 (yC (.int (1)))) oN2) (zCons (yC (.int (0))) (zCons (y2 subV (yC (.int (16))) (yC (.int (1)))) Zn))) [some (.v (sW w))] c=some (resN (dv w.tail) 0 15,c):=
   (pcall_at (ds:=[sW w.tail,.int 0,.int 15]) (zcons_at (tlS_at rfl (by omega)) (zcons_at q_c (zcons_at (y2_at q_c q_c (show subV (.int 16) (.int 1)=some (.int 15) from rfl)) q_nil))) rfl).trans n
  have p:=prt2 (k:=.str "reg") (v:=[some (.v (sW w))]) n1
  unfold okO
  unfold resN at p
  by_cases z:0≤(dv w.tail:Int)∧(dv w.tail:Int)≤15
  ·rw [if_pos z] at p
   rw [if_pos (zdt z)]
   exact fnp_rt rfl (psq_rt ((pif_t t1).trans p))
  ·rw [if_neg z] at p
   rw [if_neg (fun q=>z (of_decide_eq_true q))]
   exact fnp_ex rfl (psq_ex ((pif_t t1).trans p))
 | none=>
  rw [e] at h
  obtain⟨n,hn,rfl⟩:=zmm h
  rw [intN_b] at hn
  have main:w.take 1≠[114]∧intV (sW w)=some (.int n)∧(11<w.length→¬(-2147483648≤n∧n≤2147483647)):=by
   by_cases h1:w.take 1=[45]
   ·rw [if_pos h1] at hn
    by_cases h2:w≠[45,48]∧isN w.tail=true
    ·rw [if_pos h2] at hn
     cases hn
     have ew:w=45::w.tail:=by
      cases w with
      | nil=>cases h1
      | cons d r=>cases h1;rfl
     refine⟨by rw [h1];decide,?_,fun z=>?_⟩
     ·have:=int_n h2.2 (by rw [List.length_tail];omega)
      rw [←ew] at this
      exact this
     ·have:=dv_11 h2.2 (by rw [List.length_tail];omega)
      omega
    ·rw [if_neg h2] at hn
     cases hn
   ·rw [if_neg h1] at hn
    by_cases h2:isN w=true
    ·rw [if_pos h2] at hn
     cases hn
     refine⟨fun z=>?_,int_g h2 hl,fun z=>?_⟩
     ·cases w with
      | nil=>cases z
      | cons d r=>
       cases z
       have:=List.all_eq_true.mp (isN_digits h2).1 114 zms
       cases this
     ·have:=dv_11 h2 (by omega)
      omega
    ·rw [if_neg h2] at hn
     cases hn
  obtain⟨m1,m2,m3⟩:=main
  rw [zdf m1] at t1
  have nn:=number_g (lo := -2147483648) (hi:=2147483647) hl m2 m3 c
  have n1:pCall 3 g_read_number (zCons (Yv 0) (zCons (yC (.int (-2147483648))) (zCons (yC (.int (2147483647))) Zn))) [some (.v (sW w))] c=some (resN n (-2147483648) 2147483647,c):=
   (pcall_at (ds:=[sW w,.int (-2147483648),.int 2147483647]) (zcons_at (Vaa rfl) (zcons_at q_c (zcons_at q_c q_nil))) rfl).trans nn
  have p:=prt2 (k:=.str "int") (v:=[some (.v (sW w))]) n1
  unfold okO
  unfold resN at p
  by_cases z : -2147483648≤n∧n≤2147483647
  ·rw [if_pos z] at p
   rw [if_pos (zdt z)]
   exact fnp_rt rfl ((psq_nx ((pif_f t1).trans rfl)).trans p)
  ·rw [if_neg z] at p
   rw [if_neg (fun q=>z (of_decide_eq_true q))]
   exact fnp_ex rfl ((psq_nx ((pif_f t1).trans rfl)).trans p)
theorem ae_big {a:E2}{i:Nat}{v v':Env2}{c c1:Cs}{d:DV}{ds:List DV}(h:a v c=some (d,c1))(hv:v[i]?=some (some (.o ds)))(hl:ds.length≤100000)(hs:v.set i (some (.o (ds++[d])))=v'):rAe i a v c=some (.nx,v',c1):=by
 unfold rAe
 rw [h]
 simp only [zob,hv]
 rw [if_pos (Nat.lt_of_le_of_lt hl (by decide)),hs]
def tgB (s:Str):Bool:=decide (s="target")
def prt (b:Bool):Str:=if b=true then "target" else "operand"
def lkW (w0:List Nat):Option (List Bool):=(T_FORMS.lookup (TS' w0)).map (·.map tgB)
def fmW (w0:List Nat):Option (List Bool):=if w0=cLoop then some [false] else if w0=cEnd then some [] else lkW w0
def fmE:Option (List Bool)→DV
 | some bs=>.tup (bs.map fun b=>.str (prt b))
 | none=>.non
theorem tab_vals:∀p∈T_FORMS,(p.2.map tgB).map prt=p.2:=by decide
theorem form_g (w0:List Nat)(c:Cs):g_form_of [sW w0] c=some (fmE (fmW w0),c):=by
 have t1:uBl (y2 V2.eqV (yPk 0) (yC (.str "loop"))) [some (.v (sW w0))] c=some (decide (w0=cLoop),c):=ubl_at (y2_at (pk_at rfl) q_c (by rw [l_loop];exact eqS _ _))
 have t2:uBl (y2 V2.eqV (yPk 0) (yC (.str "end"))) [some (.v (sW w0))] c=some (decide (w0=cEnd),c):=ubl_at (y2_at (pk_at rfl) q_c (by rw [l_end];exact eqS _ _))
 unfold fmW
 by_cases h1:w0=cLoop
 ·rw [zdt h1] at t1
  rw [if_pos h1]
  exact fn_at rfl (sq_rt ((rif_t t1).trans (rt_at (Tua (zcons_at q_c q_nil) (by simp)))))
 ·rw [zdf h1] at t1
  rw [if_neg h1]
  by_cases h2:w0=cEnd
  ·rw [zdt h2] at t2
   rw [if_pos h2]
   exact fn_at rfl ((sq_nx ((rif_f t1).trans rfl)).trans (sq_rt ((rif_t t2).trans (rt_at (Tua q_nil (by simp))))))
  ·rw [zdf h2] at t2
   rw [if_neg h2]
   refine fn_at rfl ((sq_nx ((rif_f t1).trans rfl)).trans ((sq_nx ((rif_f t2).trans rfl)).trans (rt_at (y1_at (pk_at rfl) ?_))))
   show some (match T_FORMS.lookup (TS' w0) with|some ws=>DV.tup (ws.map .str)|none=>.non)=_
   unfold lkW
   cases e:T_FORMS.lookup (TS' w0) with
   | none=>rfl
   | some ws=>
    show some (DV.tup (ws.map .str))=some (DV.tup ((ws.map tgB).map fun b=>DV.str (prt b)))
    have this:(ws.map tgB).map prt=ws:=tab_vals _ (tab_mem e)
    conv=>lhs;rw [←this]
    rw [List.map_map]
    rfl
def AscR (r:Row):Prop:=∀w∈r,Asc w∧w.length≤640
def wrt (b:Bool)(w:List Nat):Bool:=(regN w).isSome||(!b&&(intN w).isSome)
theorem written_b {w:List Nat}(h:Asc w)(hl:w.length≤640)(b:Bool)(c:Cs):g_is_written [.str (prt b),sW w] c=some (.bl (wrt b w),c):=by
 have:=iswritten h (by omega) (prt b) c
 rw [this]
 unfold wrt
 cases b with
 | true=>rw [show decide (prt true="operand")=false by decide];rfl
 | false=>rw [show decide (prt false="operand")=true by decide];rfl
theorem zip_rw:∀(bs:List Bool) (ws:Row),zipD (bs.map fun b=>DV.str (prt b)) (ws.map sW)=(bs.zip ws).map fun p=>.tup [.str (prt p.1),sW p.2]
 | [],_=>by simp [zipD]
 | _::_,[]=>by simp [zipD]
 | b::bs,w::ws=>by
  rw [zmc,zmc,zipD,zip_rw bs ws]
  rfl
theorem form_loop {R F:Option Sl}(c:Cs):∀(ps:List (Bool×List Nat)) (a2 a3:Option Sl),(∀p∈ps,Asc p.2∧p.2.length≤640)→∃f V,forW (qTp 2 (qCons (qNm 2) (qCons (qNm 3) qNil))) l_has_form_0 (ps.map fun p=>.tup [.str (prt p.1),sW p.2]) [R,F,a2,a3] c=some (f,V,c)∧if ps.all (fun p=>wrt p.1 p.2)=true then f=.nx else f=.rt (.bl false)
 | [],a2,a3,_=>⟨.nx,_,rfl,rfl⟩
 | (b,w)::ps,a2,a3,h=>by
  have hw:=h _ zms
  have t:uNt (uTru (Yc 2 g_is_written (zCons (Yv 2) (zCons (Yv 3) Zn)))) [R,F,some (.v (.str (prt b))),some (.v (sW w))] c=some (!wrt b w,c):=
   unt_at (utru_at ((Caa (zcons_at (Vaa rfl) (zcons_at (Vaa rfl) q_nil)) rfl).trans (written_b hw.1 hw.2 b c)) (truB _))
  rw [zmc]
  cases e:wrt b w with
  | false=>
   rw [e] at t
   refine⟨.rt (.bl false),[R,F,some (.v (.str (prt b))),some (.v (sW w))],?_,by simp [e]⟩
   rw [q_for1]
   show((l_has_form_0 [R,F,some (.v (.str (prt b))),some (.v (sW w))] c).bind _)=_
   rw [show l_has_form_0 [R,F,some (.v (.str (prt b))),some (.v (sW w))] c=some (.rt (.bl false),[R,F,some (.v (.str (prt b))),some (.v (sW w))],c) from(rif_t t).trans (rt_at q_c)]
   rfl
  | true=>
   rw [e] at t
   obtain⟨f,V,e1,e2⟩:=form_loop c ps (some (.v (.str (prt b)))) (some (.v (sW w))) fun p m=>h p (.tail _ m)
   refine⟨f,V,(forW_one (v1:=[R,F,some (.v (.str (prt b))),some (.v (sW w))]) rfl ((rif_f t).trans rfl)).trans e1,?_⟩
   rw [List.all_cons]
   show if(wrt b w&&_)=true then _ else _
   rw [e,Bool.true_and]
   exact e2
def lnB (w0:List Nat)(ws:Row):Bool:=match fmW w0 with
 | none=>false
 | some bs=>decide (ws.length=bs.length)&&(bs.zip ws).all fun p=>wrt p.1 p.2
theorem len_rw {w0:List Nat}{ws:Row}(h:ws.length≤100000):lenV (rwE (w0::ws))=some (.int ((ws.length:Int)+1)):=by
 show some (DV.int (((w0::ws).map sW).length:Nat))=_
 rw [zlm,zlc,Int.natCast_add]
 rfl
theorem tl_rw {w0:List Nat}{ws:Row}:cutD ((w0::ws).map sW) (some 1) none=ws.map sW:=by
 unfold cutD
 have e:HT.sIx ((w0::ws).map sW).length 0 (some 1)=1:=by
  have:=HT.sIx_nat ((w0::ws).map sW).length 0 1
  rw [zmc,zlc] at this ⊢
  have e2:((1:Nat):Int)=1:=rfl
  rw [e2] at this
  rw [this]
  omega
 rw [e,HT.sIx_none]
 show List.take _ (ws.map sW)=_
 rw [List.take_of_length_le]
 simp
theorem jzp_at {a b:E2}{v:Env2}{c c1 c2:Cs}{d e:DV}{ds es:List DV}(h1:a v c=some (d,c1))(h2:b v c1=some (e,c2))(h3:itS d=some ds)(h4:itS e=some es):jZp a b v c=some (zipD ds es,c2):=by
 unfold jZp
 rw [h1]
 simp only [zob]
 rw [h2]
 simp only [zob,h3,h4,Option.map_some]
theorem hasform_g {w0:List Nat}{ws:Row}(h:AscR ws)(hl:ws.length≤100000)(c:Cs):g_has_form [rwE (w0::ws)] c=some (.bl (lnB w0 ws),c):=by
 have s1:rAs 1 (Yc 1 g_form_of (zCons (y2 ixV (yPk 0) (yC (.int (0)))) Zn)) [some (.v (rwE (w0::ws))),none,none,none] c=some (.nx,[some (.v (rwE (w0::ws))),some (.v (fmE (fmW w0))),none,none],c):=
  as_at ((Caa (zcons_at (y2_at (pk_at rfl) q_c ix_head) q_nil) rfl).trans (form_g w0 c)) rfl
 unfold lnB
 cases e:fmW w0 with
 | none=>
  rw [e] at s1
  have t:uOr (uBl (y2 isNV (yPk 1) (yC .non))) (uBl (y2 neV (y1 lenV (yPk 0)) (y2 addV (y1 lenV (yPk 1)) (yC (.int (1)))))) [some (.v (rwE (w0::ws))),some (.v (fmE none)),none,none] c=some (true,c):=uor_b (x:=true) (y:=true) (ubl_at (y2_at (pk_at rfl) q_c rfl)) nofun
  exact fn_at rfl ((sq_nx s1).trans (sq_rt ((rif_t t).trans (rt_at q_c))))
 | some bs=>
  rw [e] at s1
  have t:uOr (uBl (y2 isNV (yPk 1) (yC .non))) (uBl (y2 neV (y1 lenV (yPk 0)) (y2 addV (y1 lenV (yPk 1)) (yC (.int (1)))))) [some (.v (rwE (w0::ws))),some (.v (fmE (some bs))),none,none] c=some (false || !decide (ws.length=bs.length),c):=
   uor_b (ubl_at (y2_at (pk_at rfl) q_c rfl)) fun _=>ubl_at (y2_at (y1_at (pk_at rfl) (len_rw hl)) (y2_at (y1_at (pk_at rfl) (show lenV (fmE (some bs))=some (.int bs.length) by show some (DV.int ((bs.map fun b=>DV.str (prt b)).length:Nat))=_;rw [zlm])) q_c rfl) (by
    show neV (.int _) (.int _)=_
    rw [neV_int]
    congr 3
    rw [decide_eq_decide]
    omega))
  show g_has_form _ c=some (.bl (decide (ws.length=bs.length)&&(bs.zip ws).all fun p=>wrt p.1 p.2),c)
  by_cases hz:ws.length=bs.length
  ·rw [zdt hz] at t ⊢
   rw [Bool.true_and]
   have hp:∀p∈bs.zip ws,Asc p.2∧p.2.length≤640:=fun p m=>h p.2 (List.of_mem_zip m).2
   obtain⟨f,V,e1,e2⟩:=form_loop (R:=some (.v (rwE (w0::ws)))) (F:=some (.v (fmE (some bs)))) c (bs.zip ws) none none hp
   have s3:rFor (jZp (Yv 1) (ySf (yPk 0) (oS2 (yC (.int (1)))) oN2)) (qTp 2 (qCons (qNm 2) (qCons (qNm 3) qNil))) l_has_form_0 [some (.v (rwE (w0::ws))),some (.v (fmE (some bs))),none,none] c=some (f,V,c):=by
    refine(for_at (c1:=c) (ds:=(bs.zip ws).map fun p=>.tup [.str (prt p.1),sW p.2]) ?_).trans e1
    rw [←zip_rw]
    exact jzp_at (Vaa rfl) (by rw [sf_at (pk_at rfl) rfl rfl,tl_rw]) rfl rfl
   cases ha:(bs.zip ws).all (fun p=>wrt p.1 p.2) with
   | true=>
    rw [ha,if_pos rfl] at e2
    subst e2
    exact fn_at rfl ((sq_nx s1).trans ((sq_nx ((rif_f t).trans rfl)).trans ((sq_nx s3).trans (rt_at q_c))))
   | false=>
    rw [ha,if_neg (by decide)] at e2
    subst e2
    exact fn_at rfl ((sq_nx s1).trans ((sq_nx ((rif_f t).trans rfl)).trans (sq_rt s3)))
  ·rw [zdf hz] at t ⊢
   exact fn_at rfl ((sq_nx s1).trans (sq_rt ((rif_t t).trans (rt_at q_c))))
open PySem PyData in
def Good (n:Nat)(d:DV):Prop:=∃x,toDV d=some x∧x.canLay0=true∧x.depth≤n
open PySem PyData in
theorem good_int (i:Int):Good 0 (.int i):=⟨_,rfl,rfl,by simp [depth]⟩
open PySem PyData in
theorem good_str {s:Str}(h:strOk s=true):Good 0 (.str s):=⟨_,rfl,by simp [canLay0,h],by simp [depth]⟩
open PySem PyData in
theorem good_all (n:Nat):∀ds:List DV,(∀d∈ds,Good n d)→∃xs,toDVs ds=some xs∧canLayAll0 xs=true∧depthAll xs≤n
 | [],_=>⟨[],rfl,by simp [canLayAll0],by simp [depthAll]⟩
 | d::ds,h=>by
  obtain⟨x,h1,h2,h3⟩:=h d zms
  obtain⟨xs,g1,g2,g3⟩:=good_all n ds fun e m=>h e (zmt _ m)
  refine⟨x::xs,by rw [toDVs,h1,g1];rfl,by simp [canLayAll0,h2,g2],?_⟩
  simp only [depthAll]
  omega
open PySem PyData in
theorem good_tup {n:Nat}{ds:List DV}(h:∀d∈ds,Good n d):Good (n+1) (.tup ds):=by
 obtain⟨xs,g1,g2,g3⟩:=good_all n ds h
 refine⟨.tuple xs,by rw [toDV,g1];rfl,by simpa [canLay0] using g2,?_⟩
 simp only [depth]
 omega
theorem Good.up {n m:Nat}{d:DV}(h:Good n d)(hm:n≤m):Good m d:=let ⟨x,a,b,c⟩:=h;⟨x,a,b,znt c hm⟩
theorem Op.good (o:Op):Good 1 o.e:=by
 cases o with
 | reg k=>
  exact good_tup fun d m=>by
   simp only [List.mem_cons,List.not_mem_nil,or_false] at m
   rcases m with rfl|rfl
   ·exact good_str (by decide +kernel)
   ·exact good_int k
 | int k=>
  exact good_tup fun d m=>by
   simp only [List.mem_cons,List.not_mem_nil,or_false] at m
   rcases m with rfl|rfl
   ·exact good_str (by decide +kernel)
   ·exact good_int k
open PySem PyData in
theorem good_non:Good 0 .non:=⟨_,rfl,by simp [canLay0],by simp [depth]⟩
theorem asc_str {w:List Nat}(h:Asc w):Good 0 (sW w):=good_str (by
 unfold PySem.PyData.strOk
 rw [←Array.all_toList,List.all_eq_true]
 intro c hc
 have:=h c hc
 simp;omega)
def rv (b:Bool)(w:List Nat):DV:=if b=true then nonI ((regN w).map fun r=>(dv r:Int)) else nonO (cls w)
def isNon:DV→Bool
 | .non=>true
 | _=>false
theorem rv_good (b:Bool)(w:List Nat):Good 1 (rv b w):=by
 unfold rv
 split
 ·cases(regN w).map fun r=>(dv r:Int) with
  | none=>exact good_non.up (by decide)
  | some i=>exact(good_int i).up (by decide)
 ·cases cls w with
  | none=>exact good_non.up (by decide)
  | some o=>exact o.good
theorem rv_non (b:Bool)(w:List Nat):isNon (rv b w) = !wrt b w:=by
 unfold rv wrt cls
 cases b with
 | true=>cases regN w<;>rfl
 | false=>
  cases regN w with
  | some r=>rfl
  | none=>
   cases intN w with
   | some i=>rfl
   | none=>rfl
open PySem PyData in
theorem eqv_non {n:Nat}{d:DV}(h:Good n d):∃x,toDV d=some x∧x.canLay0=true∧x.depth≤n∧PyData.eqv x .none=isNon d:=by
 obtain⟨x,h1,h2,h3⟩:=h
 refine⟨x,h1,h2,h3,?_⟩
 cases d with
 | non=>cases h1;rfl
 | bl b=>cases h1;rfl
 | int i=>cases h1;rfl
 | str s=>cases h1;rfl
 | tup ds=>
  obtain⟨xs,e,rfl⟩:=zmm (show(toDVs ds).map PyData.tuple=some x from h1)
  rfl
 | _=>cases h1
open PySem PyData in
theorem eqv_nons (n:Nat):∀ds:List DV,(∀d∈ds,Good n d)→∃xs,toDVs ds=some xs∧canLayAll0 xs=true∧depthAll xs≤n∧(xs.any fun z=>PyData.eqv z .none)=ds.any isNon
 | [],_=>⟨[],rfl,by simp [canLayAll0],by simp [depthAll],rfl⟩
 | d::ds,h=>by
  obtain⟨x,h1,h2,h3,h4⟩:=eqv_non (h d zms)
  obtain⟨xs,g1,g2,g3,g4⟩:=eqv_nons n ds fun e m=>h e (zmt _ m)
  refine⟨x::xs,by rw [toDVs,h1,g1];rfl,by simp [canLayAll0,h2,g2],?_,by rw [List.any_cons,List.any_cons,h4,g4]⟩
  simp only [depthAll]
  omega
open PySem PyData in
theorem in_non {n:Nat}{ds:List DV}(h:∀d∈ds,Good n d)(hn:n≤60):inTV .non (.lst ds)=some (.bl (ds.any isNon)):=by
 obtain⟨xs,g1,g2,g3,g4⟩:=eqv_nons n ds h
 have hs:SeqAt.shaped (.list xs)=true:=by
  unfold SeqAt.shaped
  rw [Bool.and_eq_true]
  exact⟨by simpa [canLay0] using g2,zdt (by simp only [depth];omega)⟩
 have h0:SeqAt.shaped .none=true:=by decide
 have:inTVB .non (.lst ds)=some (ds.any isNon):=by
  show((toDVs ds).bind fun ys=>if SeqAt.shaped .none=true∧SeqAt.shaped (.list ys)=true then some (ys.any fun z=>PyData.eqv z .none) else none)=_
  rw [g1]
  simp only [zob]
  rw [if_pos ⟨h0,hs⟩,g4]
 unfold inTV
 rw [this]
 rfl
def kindsD:List DV:=[.str "add",.str "and",.str "less",.str "load",.str "mul",.str "out",.str "store",.str "sub"]
open PySem PyData in
theorem in_kinds (w0:List Nat)(h:Asc w0):ninTV (sW w0) (.lst kindsD)=some (.bl (!(lkW w0).isSome)):=by
 obtain⟨x,h1,h2,h3⟩:=asc_str h
 cases h1
 have hs:SeqAt.shaped (.str (TS' w0))=true:=by
  unfold SeqAt.shaped
  rw [Bool.and_eq_true]
  exact⟨h2,zdt (by omega)⟩
 have hk:SeqAt.shaped (.list [.str "add",.str "and",.str "less",.str "load",.str "mul",.str "out",.str "store",.str "sub"])=true:=by decide +kernel
 have:inTVB (sW w0) (.lst kindsD)=some (lkW w0).isSome:=by
  show(if SeqAt.shaped (.str (TS' w0))=true∧SeqAt.shaped (.list [.str "add",.str "and",.str "less",.str "load",.str "mul",.str "out",.str "store",.str "sub"])=true then some ([PyData.str "add",.str "and",.str "less",.str "load",.str "mul",.str "out",.str "store",.str "sub"].any fun z=>PyData.eqv z (.str (TS' w0))) else none)=_
  rw [if_pos ⟨hs,hk⟩]
  congr 1
  unfold lkW T_FORMS
  rw [Option.isSome_map]
  generalize TS' w0=s
  have e:∀a:Str,PyData.eqv (.str a) (.str s)=(s == a):=fun a=>by
   simp only [PyData.eqv]
   first|exact BEq.comm|(rw [Bool.eq_iff_iff];simp [eq_comm])
  simp only [List.any_cons,List.any_nil,e,List.lookup_cons,List.lookup_nil]
  cases(s == "add")<;>cases(s == "sub")<;>cases(s == "mul")<;>cases(s == "and")<;>cases(s == "less")<;>cases(s == "load")<;>cases(s == "store")<;>cases(s == "out")<;>rfl
 unfold ninTV
 rw [this]
 rfl
theorem law_kinds (v:Env2)(c:Cs):Yc 0 g_law_kinds Zn v c=some (.lst kindsD,c):=by
 refine(Caa (ds:=[]) q_nil rfl).trans ?_
 exact fnf_at rfl (rt_at (lst_at (zcons_at q_c (zcons_at q_c (zcons_at q_c (zcons_at q_c (zcons_at q_c (zcons_at q_c (zcons_at q_c (zcons_at q_c q_nil)))))))) (by decide)))
def shp (b:Bool):Nat:=if b=true then 114 else 111
def shpS (bs:List Bool):Str:=TS' (bs.map shp)
abbrev shapeT:S2:=rIf (uBl (y2 inV2 (yPk 1) (yLst (zCons (yC (.str "load")) (zCons (yC (.str "store")) (zCons (yC (.str "out")) Zn)))))) (rAs 2 (y2 ixV (yLst (zCons (y2 ixV (yLst (zCons (yC (.str "ro")) (zCons (yC (.str "oo")) Zn))) (y1 intV (y2 V2.eqV (yPk 1) (yC (.str "store"))))) (zCons (yC (.str "o")) Zn))) (y1 intV (y2 V2.eqV (yPk 1) (yC (.str "out")))))) rNx
theorem shape8 {R:Option Sl}(c:Cs):∀p∈T_FORMS,shapeT [R,some (.v (.str p.1)),some (.v (.str "roo")),none,none] c=some (.nx,[R,some (.v (.str p.1)),some (.v (.str (shpS (p.2.map tgB)))),none,none],c):=by
 intro p hp
 simp only [T_FORMS,List.mem_cons,List.not_mem_nil,or_false] at hp
 rcases hp with rfl|rfl|rfl|rfl|rfl|rfl|rfl|rfl<;>first|rfl|kernel_rfl
theorem sh_ix {l:List Nat}{k x:Nat}(h:l[k]?=some x)(hl:l.length≤900000):ixV (.str (TS' l)) (.int ((0:Int)+(k:Nat)))=some (sW [x]):=by
 show(if(TS' l).length≤PySem.sizeLine then _ else none)=_
 rw [if_pos (of_eq_true (small_S hl))]
 show Option.map _ (L2.atI l ((0:Int)+(k:Nat)))=_
 rw [atI_at (by omega),show((0:Int)+(k:Nat)).toNat=k by omega,h]
 rfl
theorem row_ix {w0:List Nat}{ws:Row}{k:Nat}{w:List Nat}(h:ws[k]?=some w):ixV (rwE (w0::ws)) (.int ((0:Int)+(k:Nat)+1))=some (sW w):=by
 show L2.atI ((w0::ws).map sW) ((0:Int)+(k:Nat)+1)=_
 rw [atI_at (by omega),show((0:Int)+(k:Nat)+1).toNat=k+1 by omega,zmc,List.getElem?_cons_succ,List.getElem?_map,h]
 rfl
theorem line_loop {w0:List Nat}{ws:Row}{bs:List Bool}{K:Option Sl}(hb:bs.length≤900)(c:Cs):∀(bs':List Bool) (ws':Row) (k:Nat) (F:List DV) (a4:Option Sl),bs'.length=ws'.length→AscR ws'→(∀i,i<bs'.length→bs[k+i]?=bs'[i]?)→(∀i,i<ws'.length→ws[k+i]?=ws'[i]?)→F.length+bs'.length≤1000→∃b4,
  forW (qNm 4) l_law_read_line_0 ((List.range' k bs'.length).map fun(i:Nat)=>DV.int ((0:Int)+i)) [some (.v (rwE (w0::ws))),K,some (.v (.str (shpS bs))),some (.o F),a4] c=some (.nx,[some (.v (rwE (w0::ws))),K,some (.v (.str (shpS bs))),some (.o (F++List.zipWith rv bs' ws')),b4],c)
 | [],[],k,F,a4,_,_,_,_,_=>⟨a4,by simp;rfl⟩
 | b::bs',w::ws',k,F,a4,hl,ha,h1,h2,hF=>by
  have e1:bs[k]?=some b:=by simpa using h1 0 (by simp)
  have e2:ws[k]?=some w:=by simpa using h2 0 (by simp)
  have hw:=ha w zms
  obtain⟨b4,e⟩:=line_loop hb c bs' ws' (k+1) (F++[rv b w]) (some (.v (.int ((0:Int)+(k:Nat))))) (by simpa using hl) (fun x m=>ha x (.tail _ m)) (fun i hi=>by have:=h1 (i+1) (by simpa using hi);rw [show k+1+i=k+(i+1) by omega,this];simp) (fun i hi=>by have:=h2 (i+1) (by simpa using hi);rw [show k+1+i=k+(i+1) by omega,this];simp) (by simp at hF ⊢;omega)
  refine⟨b4,?_⟩
  rw [zlc,List.range'_succ,zmc]
  refine(forW_one (v1:=[some (.v (rwE (w0::ws))),K,some (.v (.str (shpS bs))),some (.o F),some (.v (.int ((0:Int)+(k:Nat))))]) (v2:=[some (.v (rwE (w0::ws))),K,some (.v (.str (shpS bs))),some (.o (F++[rv b w])),some (.v (.int ((0:Int)+(k:Nat))))]) (c1:=c) rfl ?_).trans (e.trans (by simp))
  have t:uBl (y2 V2.eqV (y2 ixV (yPk 2) (yPk 4)) (yC (.str "r"))) [some (.v (rwE (w0::ws))),K,some (.v (.str (shpS bs))),some (.o F),some (.v (.int ((0:Int)+(k:Nat))))] c=some (b,c):=by
   refine ubl_at (y2_at (y2_at (pk_at rfl) (pk_at rfl) (sh_ix (x:=shp b) (by rw [List.getElem?_map,e1];rfl) (by rw [zlm];omega))) q_c ?_)
   rw [l_r,eqS]
   cases b<;>rfl
  have a:y2 ixV (yPk 0) (y2 addV (yPk 4) (yC (.int (1)))) [some (.v (rwE (w0::ws))),K,some (.v (.str (shpS bs))),some (.o F),some (.v (.int ((0:Int)+(k:Nat))))] c=some (sW w,c):=y2_at (pk_at rfl) (y2_at (pk_at rfl) q_c rfl) (row_ix e2)
  cases b with
  | true=>exact(rif_t t).trans (ae_big ((Caa (zcons_at a q_nil) rfl).trans (lregister hw.1 hw.2 c)) rfl (by simp at hF;omega) rfl)
  | false=>exact(rif_f t).trans (ae_big ((Caa (zcons_at a q_nil) rfl).trans (loperand hw.1 hw.2 c)) rfl (by simp at hF;omega) rfl)
 | [],_::_,_,_,_,h,_,_,_,_=>by cases h
 | _::_,[],_,_,_,h,_,_,_,_=>by cases h
theorem zw (bs:List Bool)(ws:Row):List.zipWith rv bs ws=(bs.zip ws).map fun p=>rv p.1 p.2:=by
 induction bs generalizing ws with
 | nil=>simp
 | cons b bs ih=>cases ws with
  | nil=>simp
  | cons w ws=>simp [ih]
def insD (w0:List Nat)(bs:List Bool)(ws:Row):DV:=.tup (sW w0::(bs.zip ws).map fun p=>rv p.1 p.2)
def lnL (w0:List Nat)(ws:Row):Option (List Bool):=match lkW w0 with
 | some bs=>if ws.length=bs.length∧(bs.zip ws).all (fun p=>wrt p.1 p.2)=true then some bs else none
 | none=>none
def lineE (w0:List Nat)(ws:Row):DV:=match lnL w0 ws with
 | some bs=>insD w0 bs ws
 | none=>.non
theorem lnL_some {w0:List Nat}{ws:Row}{bs:List Bool}(e:lkW w0=some bs):lnL w0 ws=if ws.length=bs.length∧(bs.zip ws).all (fun p=>wrt p.1 p.2)=true then some bs else none:=by
 unfold lnL
 rw [e]
theorem lineE_some {w0:List Nat}{ws:Row}{bs:List Bool}(e:lnL w0 ws=some bs):lineE w0 ws=insD w0 bs ws:=by
 unfold lineE
 rw [e]
theorem lineE_none {w0:List Nat}{ws:Row}(e:lnL w0 ws=none):lineE w0 ws=.non:=by
 unfold lineE
 rw [e]
theorem lnL_none {w0:List Nat}{ws:Row}(e:lkW w0=none):lnL w0 ws=none:=by
 unfold lnL
 rw [e]
theorem any_non (ps:List (Bool×List Nat)):(ps.map fun p=>rv p.1 p.2).any isNon = !(ps.all fun p=>wrt p.1 p.2):=by
 induction ps with
 | nil=>rfl
 | cons p ps ih=>rw [zmc,List.any_cons,List.all_cons,ih,rv_non,Bool.not_and]
theorem tab_len:∀p∈T_FORMS,p.2.length≤3:=by decide
theorem lk_mem {w0:List Nat}{bs:List Bool}(h:lkW w0=some bs):∃p∈T_FORMS,TS' w0=p.1∧bs=p.2.map tgB∧T_FORMS.lookup (TS' w0)=some p.2:=by
 obtain⟨ws,e,rfl⟩:=zmm h
 exact⟨_,tab_mem e,rfl,rfl,e⟩
theorem shp_len (bs:List Bool)(h:bs.length≤900):lenV (.str (shpS bs))=some (.int bs.length):=by
 have:=lenS (w:=bs.map shp) (by rw [zlm];omega)
 rw [zlm] at this
 exact this
theorem readline_g {w0:List Nat}{ws:Row}(h0:Asc w0)(h:AscR ws)(hl:ws.length≤100000)(c:Cs):g_law_read_line [rwE (w0::ws)] c=some (lineE w0 ws,c):=by
 have s1:rAs 1 (y2 ixV (yPk 0) (yC (.int (0)))) [some (.v (rwE (w0::ws))),none,none,none,none] c=some (.nx,[some (.v (rwE (w0::ws))),some (.v (sW w0)),none,none,none],c):=as_at (y2_at (pk_at rfl) q_c ix_head) rfl
 have t2:uBl (y2 ninTV (yPk 1) (Yc 0 g_law_kinds Zn)) [some (.v (rwE (w0::ws))),some (.v (sW w0)),none,none,none] c=some (!(lkW w0).isSome,c):=ubl_at (y2_at (pk_at rfl) (law_kinds _ c) (in_kinds w0 h0))
 cases e:lkW w0 with
 | none=>
  rw [e] at t2
  rw [lineE_none (lnL_none e)]
  exact fn_at rfl ((sq_nx s1).trans (sq_rt ((rif_t t2).trans (rt_at q_c))))
 | some bs=>
  rw [e] at t2
  obtain⟨p,hp,hs,rfl,_⟩:=lk_mem e
  have hb:(p.2.map tgB).length≤3:=by rw [zlm];exact tab_len p hp
  generalize hbs:p.2.map tgB=bs at *
  have s3:rAs 2 (yC (.str "roo")) [some (.v (rwE (w0::ws))),some (.v (sW w0)),none,none,none] c=some (.nx,[some (.v (rwE (w0::ws))),some (.v (sW w0)),some (.v (.str "roo")),none,none],c):=as_at q_c rfl
  have s4:=shape8 (R:=some (.v (rwE (w0::ws)))) c p hp
  rw [←hs,hbs] at s4
  have t5:uBl (y2 neV (y1 lenV (yPk 0)) (y2 addV (y1 lenV (yPk 2)) (yC (.int (1))))) [some (.v (rwE (w0::ws))),some (.v (sW w0)),some (.v (.str (shpS bs))),none,none] c=some (!decide (ws.length=bs.length),c):=
   ubl_at (y2_at (y1_at (pk_at rfl) (len_rw hl)) (y2_at (y1_at (pk_at rfl) (shp_len bs (by omega))) q_c rfl) (by
    show neV (.int _) (.int _)=_
    rw [neV_int]
    congr 3
    rw [decide_eq_decide]
    omega))
  by_cases hz:ws.length=bs.length
  ·rw [zdt hz] at t5
   have s6:rAo 3 (yLst (zCons (Yv 1) Zn)) [some (.v (rwE (w0::ws))),some (.v (sW w0)),some (.v (.str (shpS bs))),none,none] c=some (.nx,[some (.v (rwE (w0::ws))),some (.v (sW w0)),some (.v (.str (shpS bs))),some (.o [sW w0]),none],c):=ao_at (lst_at (zcons_at (Vaa rfl) q_nil) (by simp)) rfl
   obtain⟨b4,e7⟩:=line_loop (w0:=w0) (ws:=ws) (bs:=bs) (K:=some (.v (sW w0))) (by omega) c bs ws 0 [sW w0] none hz.symm h (fun i _=>by rw [Nat.zero_add]) (fun i _=>by rw [Nat.zero_add]) (by simp;omega)
   have s7:rFor (jRg1 (y1 lenV (yPk 2))) (qNm 4) l_law_read_line_0 [some (.v (rwE (w0::ws))),some (.v (sW w0)),some (.v (.str (shpS bs))),some (.o [sW w0]),none] c=some (.nx,[some (.v (rwE (w0::ws))),some (.v (sW w0)),some (.v (.str (shpS bs))),some (.o (sW w0::(bs.zip ws).map fun p=>rv p.1 p.2)),b4],c):=by
    refine(for_at (jrg1_at (z:=(bs.length:Int)) (by omega) (by omega) (y1_at (pk_at rfl) (shp_len bs (by omega))))).trans ?_
    rw [zw] at e7
    rw [Int.toNat_natCast]
    unfold rangeD
    rw [List.range_eq_range']
    exact e7
   have t8:uBl (y2 inTV (yC .non) (yPk 3)) [some (.v (rwE (w0::ws))),some (.v (sW w0)),some (.v (.str (shpS bs))),some (.o (sW w0::(bs.zip ws).map fun p=>rv p.1 p.2)),b4] c=some (!((bs.zip ws).all fun p=>wrt p.1 p.2),c):=by
    refine ubl_at (y2_at q_c (pko_at rfl) ?_)
    rw [in_non (n:=1) (fun d m=>?_) (by decide),List.any_cons,any_non]
    ·rfl
    ·rcases zmo m with rfl|m
     ·exact(asc_str h0).up (by decide)
     ·obtain⟨p,_,rfl⟩:=List.mem_map.mp m
      exact rv_good _ _
   cases ha:(bs.zip ws).all (fun p=>wrt p.1 p.2) with
   | true=>
    rw [ha] at t8
    rw [lineE_some ((lnL_some e).trans (if_pos ⟨hz,ha⟩))]
    exact fn_at rfl ((sq_nx s1).trans ((sq_nx ((rif_f t2).trans rfl)).trans ((sq_nx s3).trans ((sq_nx s4).trans ((sq_nx ((rif_f t5).trans rfl)).trans ((sq_nx s6).trans ((sq_nx s7).trans ((sq_nx ((rif_f t8).trans rfl)).trans (rt_at (y1_at (pko_at rfl) rfl))))))))))
   | false=>
    rw [ha] at t8
    rw [lineE_none ((lnL_some e).trans (if_neg (fun z=>by rw [ha] at z;exact nomatch z.2)))]
    exact fn_at rfl ((sq_nx s1).trans ((sq_nx ((rif_f t2).trans rfl)).trans ((sq_nx s3).trans ((sq_nx s4).trans ((sq_nx ((rif_f t5).trans rfl)).trans ((sq_nx s6).trans ((sq_nx s7).trans (sq_rt ((rif_t t8).trans (rt_at q_c))))))))))
  ·rw [zdf hz] at t5
   rw [lineE_none ((lnL_some e).trans (if_neg (fun z=>hz z.1)))]
   exact fn_at rfl ((sq_nx s1).trans ((sq_nx ((rif_f t2).trans rfl)).trans ((sq_nx s3).trans ((sq_nx s4).trans (sq_rt ((rif_t t5).trans (rt_at q_c)))))))
def okW (w:List Nat):Bool:=match cls w with
 | some o=>okO o
 | none=>true
theorem wrt_cls {b:Bool}{w:List Nat}(h:wrt b w=true):∃o,cls w=some o∧rv b w=(if b=true then(match o with | .reg k=>DV.int k | .int n=>.int n) else o.e)∧(b=true→∃k,o=.reg k):=by
 unfold wrt at h
 unfold rv cls
 cases e:regN w with
 | some r=>exact⟨_,rfl,by cases b<;>rfl,fun _=>⟨_,rfl⟩⟩
 | none=>
  rw [e] at h
  cases b with
  | true=>cases h
  | false=>
   cases e2:intN w with
   | none=>rw [e2] at h;cases h
   | some i=>exact⟨.int i,rfl,rfl,fun z=>nomatch z⟩
theorem pset_ok {i:Nat}{a:E2W}{v v':Env2}{c c1:Cs}{d:DV}(h:a v c=some (.ok d,c1))(hs:v.set i (some (.v d))=v'):pSet i a v c=some (.ok (.nx,v'),c1):=by
 unfold pSet
 rw [h]
 subst hs
 rfl
theorem pset_ex {i:Nat}{a:E2W}{v:Env2}{c c1:Cs}{x:X2}(h:a v c=some (.ex x,c1)):pSet i a v c=some (.ex x,c1):=by
 unfold pSet
 rw [h]
 rfl
theorem pfor_nx {g:P2}{b:S2W}{d:DV}{ds:List DV}{v v1 v2:Env2}{c c1:Cs}(h1:g d v=some v1)(h2:b v1 c=some (.ok (.nx,v2),c1)):pFor.go g b (d::ds) v c=pFor.go g b ds v2 c1:=by
 rw [pFor.go,h1]
 simp only [zob]
 rw [h2]
 rfl
theorem pfor_ct {g:P2}{b:S2W}{d:DV}{ds:List DV}{v v1 v2:Env2}{c c1:Cs}(h1:g d v=some v1)(h2:b v1 c=some (.ok (.ct,v2),c1)):pFor.go g b (d::ds) v c=pFor.go g b ds v2 c1:=by
 rw [pFor.go,h1]
 simp only [zob]
 rw [h2]
 rfl
theorem pfor_ex {g:P2}{b:S2W}{d:DV}{ds:List DV}{v v1:Env2}{c c1:Cs}{x:X2}(h1:g d v=some v1)(h2:b v1 c=some (.ex x,c1)):pFor.go g b (d::ds) v c=some (.ex x,c1):=by
 rw [pFor.go,h1]
 simp only [zob]
 rw [h2]
 rfl
theorem pfor_at {it:I2}{g:P2}{b:S2W}{v:Env2}{c c1:Cs}{ds:List DV}(h:it v c=some (ds,c1)):pFor it g b v c=pFor.go g b ds v c1:=by
 unfold pFor
 rw [h]
 rfl
theorem ps_nx {a:S2}{v v1:Env2}{c c1:Cs}(h:a v c=some (.nx,v1,c1)):pS a v c=some (.ok (.nx,v1),c1):=ps_at h
theorem yif_t {t:T2}{a b:E2}{v:Env2}{c c1:Cs}(h:t v c=some (true,c1)):yIf t a b v c=a v c1:=by
 rw [q_if,h]
 rfl
theorem yif_f {t:T2}{a b:E2}{v:Env2}{c c1:Cs}(h:t v c=some (false,c1)):yIf t a b v c=b v c1:=by
 rw [q_if,h]
 rfl
theorem ri_loop {R:Option Sl}(c:Cs):∀(ps:List (Bool×List Nat)) (F:List DV) (a2 a3 a4:Option Sl),(∀p∈ps,wrt p.1 p.2=true∧p.2.length≤640)→F.length+ps.length≤1000→
  ∃b2 b3 b4,pFor.go (qTp 2 (qCons (qNm 2) (qCons (qNm 3) qNil))) l_read_instruction_0 (ps.map fun p=>.tup [.str (prt p.1),sW p.2]) [R,some (.o F),a2,a3,a4] c=some (if ps.all (fun p=>okW p.2)=true then .ok (.nx,[R,some (.o (F++ps.map fun p=>rv p.1 p.2)),b2,b3,b4]) else .ex (1,[]),c)
 | [],F,a2,a3,a4,_,_=>⟨a2,a3,a4,by simp;rfl⟩
 | (b,w)::ps,F,a2,a3,a4,h,hF=>by
  obtain⟨hw,hl⟩:=h _ zms
  obtain⟨o,ho,hr,hk⟩:=wrt_cls hw
  have P:=operandW hl ho c
  have P1:pCall 1 g_read_operand (zCons (Yv 3) Zn) [R,some (.o F),some (.v (.str (prt b))),some (.v (sW w)),a4] c=some (if okO o=true then .ok o.e else .ex (1,[]),c):=(pcall_at (ds:=[sW w]) (zcons_at (Vaa rfl) q_nil) rfl).trans P
  have ek:okW w=okO o:=by unfold okW;rw [ho]
  rw [zmc]
  cases e:okO o with
  | false=>
   rw [e] at P1
   refine⟨a2,a3,a4,?_⟩
   rw [if_neg (by simp [ek,e])]
   exact pfor_ex (v1:=[R,some (.o F),some (.v (.str (prt b))),some (.v (sW w)),a4]) rfl (psq_ex (pset_ex P1))
  | true=>
   rw [e] at P1
   have s1:pSet 4 (pCall 1 g_read_operand (zCons (Yv 3) Zn)) [R,some (.o F),some (.v (.str (prt b))),some (.v (sW w)),a4] c=some (.ok (.nx,[R,some (.o F),some (.v (.str (prt b))),some (.v (sW w)),some (.v o.e)]),c):=pset_ok P1 rfl
   have t:uBl (y2 V2.eqV (yPk 2) (yC (.str "target"))) [R,some (.o F),some (.v (.str (prt b))),some (.v (sW w)),some (.v o.e)] c=some (b,c):=ubl_at (y2_at (pk_at rfl) q_c (by rw [eqV_str];cases b<;>rfl))
   have s2:rAe 1 (yIf (uBl (y2 V2.eqV (yPk 2) (yC (.str "target")))) (y2 ixV (yPk 4) (yC (.int (1)))) (Yv 4)) [R,some (.o F),some (.v (.str (prt b))),some (.v (sW w)),some (.v o.e)] c=some (.nx,[R,some (.o (F++[rv b w])),some (.v (.str (prt b))),some (.v (sW w)),some (.v o.e)],c):=by
    refine ae_big (d:=rv b w) ?_ rfl (by simp at hF;omega) rfl
    cases b with
    | true=>
     obtain⟨k,rfl⟩:=hk rfl
     rw [hr]
     refine(yif_t t).trans (y2_at (pk_at rfl) q_c ?_)
     rfl
    | false=>
     rw [hr]
     exact(yif_f t).trans (Vaa rfl)
   obtain⟨b2,b3,b4,e2⟩:=ri_loop c ps (F++[rv b w]) (some (.v (.str (prt b)))) (some (.v (sW w))) (some (.v o.e)) (fun p m=>h p (.tail _ m)) (by simp at hF ⊢;omega)
   refine⟨b2,b3,b4,(pfor_nx (v1:=[R,some (.o F),some (.v (.str (prt b))),some (.v (sW w)),a4]) rfl ((psq_nx s1).trans (ps_nx s2))).trans (e2.trans ?_)⟩
   rw [List.all_cons,ek,e,Bool.true_and,List.append_assoc]
   rfl
def okL (bs:List Bool)(ws:Row):Bool:=(bs.zip ws).all fun p=>okW p.2
theorem readins_g {w0:List Nat}{ws:Row}{bs:List Bool}(h:AscR ws)(hl:ws.length≤100000)(e:lnL w0 ws=some bs)(c:Cs):g_read_instruction [rwE (w0::ws)] c=some (if okL bs ws=true then .ok (insD w0 bs ws) else .ex (1,[]),c):=by
 cases e0:lkW w0 with
 | none=>rw [lnL_none e0] at e;cases e
 | some bs'=>
  rw [lnL_some e0] at e
  split at e
  ·rename_i cond
   cases e
   obtain⟨p,hp,hs,hbs,hlk⟩:=lk_mem e0
   have hb:bs.length≤3:=by rw [hbs,zlm];exact tab_len p hp
   have k:kdV T_FORMS (sW w0)=some (.tup (bs.map fun b=>.str (prt b))):=by
    show(T_FORMS.lookup (TS' w0)).map _=_
    rw [hlk]
    have:=tab_vals p hp
    show some (DV.tup (p.2.map .str))=_
    conv=>lhs;rw [←this]
    rw [←hbs,List.map_map]
    rfl
   have s1:rAo 1 (yLst (zCons (y2 ixV (yPk 0) (yC (.int (0)))) Zn)) [some (.v (rwE (w0::ws))),none,none,none,none] c=some (.nx,[some (.v (rwE (w0::ws))),some (.o [sW w0]),none,none,none],c):=ao_at (lst_at (zcons_at (y2_at (pk_at rfl) q_c ix_head) q_nil) (by simp)) rfl
   obtain⟨b2,b3,b4,e2⟩:=ri_loop (R:=some (.v (rwE (w0::ws)))) c (bs.zip ws) [sW w0] none none none (fun p m=>⟨List.all_eq_true.mp cond.2 p m,(h p.2 (List.of_mem_zip m).2).2⟩) (by simp;omega)
   have s2:pFor (jZp (y1 (kdV T_FORMS) (y2 ixV (yPk 0) (yC (.int (0))))) (ySf (yPk 0) (oS2 (yC (.int (1)))) oN2)) (qTp 2 (qCons (qNm 2) (qCons (qNm 3) qNil))) l_read_instruction_0 [some (.v (rwE (w0::ws))),some (.o [sW w0]),none,none,none] c=some (if(bs.zip ws).all (fun p=>okW p.2)=true then .ok (.nx,[some (.v (rwE (w0::ws))),some (.o ([sW w0]++(bs.zip ws).map fun p=>rv p.1 p.2)),b2,b3,b4]) else .ex (1,[]),c):=by
    refine(pfor_at (c1:=c) (ds:=(bs.zip ws).map fun p=>.tup [.str (prt p.1),sW p.2]) ?_).trans e2
    rw [←zip_rw]
    exact jzp_at (y1_at (y2_at (pk_at rfl) q_c ix_head) k) (by rw [sf_at (pk_at rfl) rfl rfl,tl_rw]) rfl rfl
   unfold okL
   cases ha:(bs.zip ws).all (fun p=>okW p.2) with
   | true=>
    rw [ha] at s2
    exact fnp_rt rfl ((psq_nx (ps_nx s1)).trans ((psq_nx s2).trans (ps_at (rt_at (y1_at (pko_at rfl) rfl)))))
   | false=>
    rw [ha] at s2
    exact fnp_ex rfl ((psq_nx (ps_nx s1)).trans (psq_ex s2))
  ·cases e
abbrev Li:=List Nat×List Bool×Row
def liE (l:Li):DV:=insD l.1 l.2.1 l.2.2
def liOk (l:Li):Bool:=okL l.2.1 l.2.2
inductive El where
 | ins (l:Li)|lp (o:Op) (b:List Li)
def El.e:El→DV
 | .ins l=>liE l
 | .lp o b=>.tup [.str "loop",o.e,.tup (b.map liE)]
def El.okb:El→Bool
 | .ins l=>liOk l
 | .lp o b=>okO o&&b.all liOk
structure Sp where
 cnt:Option Op
 B:List Li
 F:List El
def step (r:Row)(s:Sp):Option Sp:=match r with
 | []=>some s
 | w0::ws=>if w0=cLoop then(match s.cnt,ws with
   | none,[w]=>(cls w).map fun o=>⟨some o,[],s.F⟩
   | _,_=>none)
  else if w0=cEnd then(match s.cnt,ws with
   | some o,[]=>if s.B.isEmpty=true then none else some ⟨none,[],s.F++[.lp o s.B]⟩
   | _,_=>none)
  else match lnL w0 ws with
   | some bs=>(match s.cnt with
    | none=>some ⟨none,s.B,s.F++[.ins (w0,bs,ws)]⟩
    | some o=>some ⟨some o,s.B++[(w0,bs,ws)],s.F⟩)
   | none=>none
def rowOk (r:Row):Bool:=match r with
 | []=>true
 | w0::ws=>if w0=cLoop then(match ws with
   | [w]=>okW w
   | _=>true) else if w0=cEnd then true else match lnL w0 ws with
   | some bs=>okL bs ws
   | none=>true
def rd:Nat→Sp→List Row→Nat ⊕ Sp
 | _,s,[]=>.inr s
 | i,s,r::rs=>match step r s with
  | none=>.inl i
  | some s'=>rd (i+1) s' rs
def Sp.wf (s:Sp):Prop:=s.cnt=none→s.B=[]
def Sp.good (s:Sp):Bool:=s.F.all El.okb&&(s.B.all liOk&&(match s.cnt with
 | some o=>okO o
 | none=>true))
theorem step_wf {r:Row}{s s':Sp}(h:step r s=some s')(w:s.wf):s'.wf:=by
 unfold step at h
 split at h
 ·cases h;exact w
 ·split at h
  ·split at h
   ·obtain⟨o,_,rfl⟩:=zmm h
    exact nofun
   ·cases h
  ·split at h
   ·split at h
    ·split at h
     ·cases h
     ·cases h;exact fun _=>rfl
    ·cases h
   ·split at h
    ·split at h
     ·cases h;rename_i e;exact fun _=>w e
     ·cases h;exact nofun
    ·cases h
theorem step_good {r:Row}{s s':Sp}(h:step r s=some s')(w:s.wf):s'.good=(s.good&&rowOk r):=by
 unfold step at h
 unfold rowOk
 split at h
 ·cases h;simp
 ·rename_i w0 ws
  split at h
  ·rename_i hl
   split at h
   ·rename_i w1 e
    obtain⟨o,ho,rfl⟩:=zmm h
    have hw:okW w1=okO o:=by unfold okW;rw [ho]
    unfold Sp.good
    rw [w e,e]
    simp [hl,hw]
   ·cases h
  ·rename_i hl
   split at h
   ·rename_i he
    split at h
    ·rename_i o e
     split at h
     ·cases h
     ·cases h
      unfold Sp.good
      rw [e]
      simp only [List.all_append,List.all_cons,List.all_nil,El.okb,if_neg hl,if_pos he,Bool.and_true]
      cases okO o<;>cases s.B.all liOk<;>simp
    ·cases h
   ·rename_i he
    split at h
    ·rename_i bs eb
     split at h
     ·rename_i e
      cases h
      unfold Sp.good
      rw [e,w e]
      simp only [List.all_append,List.all_cons,List.all_nil,El.okb,liOk,if_neg hl,if_neg he,Bool.and_true]
     ·rename_i o e
      cases h
      unfold Sp.good
      rw [e]
      simp only [List.all_append,List.all_cons,List.all_nil,liOk,if_neg hl,if_neg he,Bool.and_true]
      cases okO o<;>cases s.B.all liOk<;>cases s.F.all El.okb<;>cases okL bs ws<;>rfl
    ·cases h
theorem rd_inr:∀ {rs:List Row} {i:Nat} {s s':Sp},rd i s rs=.inr s'→s.wf→s'.wf∧s'.good=(s.good&&rs.all rowOk)
 | [],i,s,s',h,w=>by
  cases h
  exact⟨w,by simp⟩
 | r::rs,i,s,s',h,w=>by
  rw [rd] at h
  cases e:step r s with
  | none=>rw [e] at h;cases h
  | some s1=>
   rw [e] at h
   obtain⟨h1,h2⟩:=rd_inr h (step_wf e w)
   refine⟨h1,?_⟩
   rw [h2,step_good e w,List.all_cons,Bool.and_assoc]
theorem filt_ne (ws:Row):ws.filterMap (fun w=>if nonE w=true then some (sW w) else none)=(ws.filter nonE).map sW:=by
 induction ws with
 | nil=>rfl
 | cons w ws ih=>
  rw [List.filterMap_cons,List.filter_cons]
  cases nonE w
  ·simpa using ih
  ·simpa using ih
theorem cut_len {t:List Nat}{n:Nat}(h:t.length≤n):((TL.spl [35] 0 [] t).headD []).length≤n:=by
 obtain⟨a,r,e⟩:=spl_ne 35 t []
 obtain⟨l1,l2⟩:=spl_len 35 t []
 have:=l2 a (by rw [e];exact zms)
 simp at this
 rw [e]
 show a.length≤n
 omega
theorem split_cut {t:List Nat}(h:t.length≤100000){v:Env2}{c:Cs}{a:E2}(ha:a v c=some (sW t,c)):y2 splitV (y2 ixV (y2 splitV a (yC (.str "#"))) (yC (.int (0)))) (yC (.str " ")) v c=some (.lst ((TL.spl [32] 0 [] ((TL.spl [35] 0 [] t).headD [])).map sW),c):=by
 obtain⟨x,r,e⟩:=spl_ne 35 t []
 have hx:=cut_len h
 refine y2_at (y2_at (y2_at ha q_c (by rw [l_h];exact split_V (by decide) h)) q_c (r:=sW ((TL.spl [35] 0 [] t).headD [])) ?_) q_c (by rw [l_s];exact split_V (by decide) hx)
 rw [e,zmc]
 exact ix_head
theorem spl32_len {t:List Nat}(h:t.length≤100000):(TL.spl [32] 0 [] ((TL.spl [35] 0 [] t).headD [])).length≤100001∧∀w∈TL.spl [32] 0 [] ((TL.spl [35] 0 [] t).headD []),w.length≤100000:=by
 obtain⟨l3,l4⟩:=spl_len 32 ((TL.spl [35] 0 [] t).headD []) []
 have:=cut_len h
 refine⟨by omega,fun w m=>?_⟩
 have:=l4 w m
 rw [List.length_nil] at this
 omega
theorem words_g {t:List Nat}(h:t.length≤90000)(c:Cs):g_words_of [sW t] c=some (.lst ((wordsOf t).map sW),c):=by
 have hl:=spl32_len (t:=t) (by omega)
 have hx:=cut_len h
 have h4:=spl_len 32 ((TL.spl [35] 0 [] t).headD []) []
 refine fnf_at rfl (rt_at (lc_at (jany_at (split_cut (by omega) (pk_at rfl)) rfl) (by rw [zlm];omega) rfl ?_))
 rw [show(wordsOf t).map sW=_ from(filt_ne _).symm]
 refine lc_map sW (fun w=>if nonE w=true then some (sW w) else none) _ fun w m=>?_
 have hwl:=hl.2 w m
 refine⟨_,q_qnm,?_⟩
 have ht:∀v:Env2,v[1]?=some (some (.v (sW w)))→uTru (yPk 1) v c=some (nonE w,c):=fun v hv=>by
  refine utru_at (pk_at hv) ?_
  show(if(TS' w).length≤PySem.sizeLine then some (decide (¬(TS' w).length=0)) else none)=_
  rw [SX.S_len,if_pos (of_eq_true (zl _ (by omega)))]
  cases w with
  | nil=>rfl
  | cons x xs=>simp [nonE]
 cases hn:nonE w with
 | false=>exact .inl ⟨rfl,by rw [←hn];exact ht _ rfl⟩
 | true=>exact .inr ⟨sW w,rfl,by rw [←hn];exact ht _ rfl,Vaa rfl⟩
theorem lwords {t:List Nat}(h:t.length≤90000){a:E2}{v:Env2}(c:Cs)(hv:v.length=8)(ha:a v c=some (sW t,c)):yLc [6] (jAny (y2 splitV (y2 ixV (y2 splitV a (yC (.str "#"))) (yC (.int (0)))) (yC (.str " ")))) (qNm 6) (uBl (y2 neV (yPk 6) (yC (.str "")))) (Yv 6) v c=some (rwE (wordsOf t),c):=by
 have hl:=spl32_len (t:=t) (by omega)
 have hx:=cut_len h
 have h4:=spl_len 32 ((TL.spl [35] 0 [] t).headD []) []
 refine lc_at (jany_at (split_cut (by omega) ha) rfl) (by rw [zlm];omega) rfl ?_
 rw [show(wordsOf t).map sW=_ from(filt_ne _).symm]
 refine lc_map sW (fun w=>if nonE w=true then some (sW w) else none) _ fun w m=>?_
 have hwl:=hl.2 w m
 have hv2:((wipe2 v [6]).set 6 (some (.v (sW w))))[6]?=some (some (.v (sW w))):=by
  rw [zss]
  show 6<(v.set 6 none).length
  rw [List.length_set,hv]
  decide
 refine⟨_,q_qnm,?_⟩
 have e0:("":Str)=TS' []:=by decide
 have ht:uBl (y2 neV (yPk 6) (yC (.str ""))) ((wipe2 v [6]).set 6 (some (.v (sW w)))) c=some (nonE w,c):=by
  refine ubl_at (y2_at (pk_at hv2) q_c ?_)
  rw [e0]
  refine(neS w []).trans ?_
  cases w<;>rfl
 cases hn:nonE w with
 | false=>exact .inl ⟨rfl,by rw [←hn];exact ht⟩
 | true=>exact .inr ⟨sW w,rfl,by rw [←hn];exact ht,Vaa hv2⟩
theorem lk_end:lkW cEnd=none:=by decide
theorem lk_loop:lkW cLoop=none:=by decide
open PySem PyData in
theorem strs_data:∀r:Row,AscR r→toDVs (r.map sW)=some (r.map fun w=>PyData.str (TS' w))∧canLayAll0 (r.map fun w=>PyData.str (TS' w))=true∧depthAll (r.map fun w=>PyData.str (TS' w))≤0
 | [],_=>⟨rfl,by simp [canLayAll0],by simp [depthAll]⟩
 | w::r,h=>by
  obtain⟨g1,g2,g3⟩:=strs_data r fun x m=>h x (.tail _ m)
  obtain⟨x,h1,h2,h3⟩:=asc_str (h w zms).1
  cases h1
  refine⟨?_,by simp only [zmc,canLayAll0,h2,g2,Bool.and_self],by simp only [zmc,depthAll];omega⟩
  rw [zmc,zmc,toDVs,g1]
  rfl
open PySem PyData in
theorem eq_end {r:Row}(h:AscR r):V2.eqV (rwE r) (.lst [.str "end"])=some (.bl (decide (r=[cEnd]))):=by
 obtain⟨g1,g2,g3⟩:=strs_data r h
 have hs:SeqAt.shaped (.list (r.map fun w=>PyData.str (TS' w)))=true:=by
  unfold SeqAt.shaped
  rw [Bool.and_eq_true]
  exact⟨by simpa [canLay0] using g2,zdt (by simp only [depth];omega)⟩
 have hk:SeqAt.shaped (.list [.str "end"])=true:=by decide +kernel
 have:eqVB (rwE r) (.lst [.str "end"])=some (decide (r=[cEnd])):=by
  show eqVBg _ _=_
  unfold eqVBg
  rw [show toDVm (rwE r)=some (.list (r.map fun w=>PyData.str (TS' w))) by show(toDVs (r.map sW)).map _=_;rw [g1];rfl,show toDVm (.lst [.str "end"])=some (.list [.str "end"]) from rfl]
  simp only [zob]
  rw [if_pos ⟨hs,hk⟩]
  congr 1
  rw [l_end]
  match r with
  | []=>rfl
  | [w]=>
   simp only [zmc,List.map_nil,PyData.eqv,PyData.eqvAll,Bool.and_true]
   rw [Bool.eq_iff_iff]
   simp
  | a::b::r=>simp [PyData.eqv,PyData.eqvAll]
 unfold V2.eqV
 rw [this]
 rfl
abbrev E8 (L:DV)(F:List El)(cnt:Option Op)(B:List DV)(i:Nat)(a5 a6 a7:Option Sl):Env2:=[some (.v L),some (.o (F.map El.e)),some (.v (nonO cnt)),some (.o B),some (.v (.int ((0:Int)+i))),a5,a6,a7]
theorem line_ix {L:List (List Nat)}{i:Nat}{t:List Nat}(h:L[i]?=some t):ixV (.lst (L.map sW)) (.int ((0:Int)+(i:Nat)))=some (sW t):=by
 show L2.atI (L.map sW) ((0:Int)+(i:Nat))=_
 rw [atI_at (by omega),show((0:Int)+(i:Nat)).toNat=i by omega,List.getElem?_map,h]
 rfl
theorem nonO_b (o:Option Op):nonB (nonO o)=o.isNone:=by
 cases o with
 | none=>rfl
 | some o=>cases o<;>rfl
def Lr (s:Option Sp)(i:Nat)(L:DV)(f:Fl2)(V:Env2):Prop:=match s with
 | none=>f=.rt (.lst [.str "parse",.int ((0:Int)+i)])
 | some s'=>(f=.nx∨f=.ct)∧∃B' b5 b6 b7,V=E8 L s'.F s'.cnt B' i b5 b6 b7∧(s'.cnt≠none→B'=s'.B.map liE)
theorem parse_lst {L:DV}{F:List El}{cnt:Option Op}{B:List DV}{i:Nat}{a5 a6 a7:Option Sl}(c:Cs):rRt (yLst (zCons (yC (.str "parse")) (zCons (Yv 4) Zn))) (E8 L F cnt B i a5 a6 a7) c=some (.rt (.lst [.str "parse",.int ((0:Int)+i)]),E8 L F cnt B i a5 a6 a7,c):=rt_at (lst_at (zcons_at q_c (zcons_at (Vaa rfl) q_nil)) (by simp))
abbrev LoopS:S2:=(rSq (rIf (uOr (uBl (y2 notNV (yPk 2) (yC .non))) (uOr (uBl (y2 neV (y1 lenV (yPk 5)) (yC (.int (2))))) (uBl (y2 isNV (Yc 1 g_law_read_operand (zCons (y2 ixV (yPk 5) (yC (.int (1)))) Zn)) (yC .non))))) (rRt (yLst (zCons (yC (.str "parse")) (zCons (Yv 4) Zn)))) rNx) (rSq (rAs 2 (Yc 1 g_law_read_operand (zCons (y2 ixV (yPk 5) (yC (.int (1)))) Zn))) (rAo 3 (yLst Zn))))
abbrev EndS:S2:=(rSq (rIf (uOr (uBl (y2 isNV (yPk 2) (yC .non))) (uNt (uTru (yPk 3)))) (rRt (yLst (zCons (yC (.str "parse")) (zCons (Yv 4) Zn)))) rNx) (rSq (rAe 1 (yTup (zCons (yC (.str "loop")) (zCons (Yv 2) (zCons (y1 tupleV (yPk 3)) Zn))))) (rAs 2 (yC .non))))
abbrev InsS:S2:=(rSq (rAs 7 (Yc 1 g_law_read_line (zCons (Yv 5) Zn))) (rSq (rIf (uBl (y2 isNV (yPk 7) (yC .non))) (rRt (yLst (zCons (yC (.str "parse")) (zCons (Yv 4) Zn)))) rNx) (rIf (uBl (y2 isNV (yPk 2) (yC .non))) (rAe 1 (Yv 7)) (rAe 3 (Yv 7)))))
theorem step_cons (w0:List Nat)(ws:Row)(s:Sp):step (w0::ws) s=if w0=cLoop then(match s.cnt,ws with
   | none,[w]=>(cls w).map fun o=>⟨some o,[],s.F⟩
   | _,_=>none)
  else if w0=cEnd then(match s.cnt,ws with
   | some o,[]=>if s.B.isEmpty=true then none else some ⟨none,[],s.F++[.lp o s.B]⟩
   | _,_=>none)
  else match lnL w0 ws with
   | some bs=>(match s.cnt with
    | none=>some ⟨none,s.B,s.F++[.ins (w0,bs,ws)]⟩
    | some o=>some ⟨some o,s.B++[(w0,bs,ws)],s.F⟩)
   | none=>none:=rfl
theorem step_loop1 {w:List Nat}{s:Sp}(h:s.cnt=none):step [cLoop,w] s=(cls w).map fun o=>⟨some o,[],s.F⟩:=by
 rw [step_cons,if_pos rfl,h]
theorem step_loop0 {ws:Row}{s:Sp}(h:s.cnt≠none∨ws.length≠1):step (cLoop::ws) s=none:=by
 rw [step_cons,if_pos rfl]
 split
 ·rename_i e
  rcases h with h|h
  ·exact absurd e h
  ·exact absurd rfl h
 ·rfl
theorem step_end1 {o:Op}{s:Sp}(h:s.cnt=some o)(hb:s.B.isEmpty=false):step [cEnd] s=some ⟨none,[],s.F++[.lp o s.B]⟩:=by
 rw [step_cons,if_neg (by decide),if_pos rfl,h]
 simp [hb]
theorem step_end0 {ws:Row}{s:Sp}(h:s.cnt=none∨ws≠[]∨s.B.isEmpty=true):step (cEnd::ws) s=none:=by
 rw [step_cons,if_neg (by decide),if_pos rfl]
 split
 ·rename_i o e
  rcases h with h|h|h
  ·rw [h] at e;cases e
  ·exact absurd rfl h
  ·rw [if_pos h]
 ·rfl
theorem step_ins {w0:List Nat}{ws:Row}{s:Sp}(h1:w0≠cLoop)(h2:w0≠cEnd):step (w0::ws) s=match lnL w0 ws with
   | some bs=>(match s.cnt with
    | none=>some ⟨none,s.B,s.F++[.ins (w0,bs,ws)]⟩
    | some o=>some ⟨some o,s.B++[(w0,bs,ws)],s.F⟩)
   | none=>none:=by
 rw [step_cons,if_neg h1,if_neg h2]
theorem ix1_rw {w0 w:List Nat}{ws:Row}:ixV (rwE (w0::w::ws)) (.int 1)=some (sW w):=row_ix (k:=0) rfl
theorem lr_loop {LL:DV}{i:Nat}{ws:Row}(s:Sp)(B:List DV)(ha:AscR (cLoop::ws))(hw:ws.length≤99999)(a6 a7:Option Sl)(c:Cs):
  ∃f V,LoopS (E8 LL s.F s.cnt B i (some (.v (rwE (cLoop::ws)))) a6 a7) c=some (f,V,c)∧Lr (step (cLoop::ws) s) i LL f V:=by
 have A:uBl (y2 notNV (yPk 2) (yC .non)) (E8 LL s.F s.cnt B i (some (.v (rwE (cLoop::ws)))) a6 a7) c=some (!s.cnt.isNone,c):=ubl_at (y2_at (pk_at rfl) q_c (by show some (DV.bl (!nonB (nonO s.cnt)))=_;rw [nonO_b]))
 have B1:uBl (y2 neV (y1 lenV (yPk 5)) (yC (.int (2)))) (E8 LL s.F s.cnt B i (some (.v (rwE (cLoop::ws)))) a6 a7) c=some (!decide (ws.length=1),c):=ubl_at (y2_at (y1_at (pk_at rfl) (len_rw (by omega))) q_c (by
  show neV (.int _) (.int _)=_
  rw [neV_int]
  congr 3
  rw [decide_eq_decide]
  omega))
 by_cases h:s.cnt≠none∨ws.length≠1
 ·rw [step_loop0 h]
  have t:uOr (uBl (y2 notNV (yPk 2) (yC .non))) (uOr (uBl (y2 neV (y1 lenV (yPk 5)) (yC (.int (2))))) (uBl (y2 isNV (Yc 1 g_law_read_operand (zCons (y2 ixV (yPk 5) (yC (.int (1)))) Zn)) (yC .non)))) (E8 LL s.F s.cnt B i (some (.v (rwE (cLoop::ws)))) a6 a7) c=some (!s.cnt.isNone||(!decide (ws.length=1)||true),c):=uor_b A fun z=>uor_b B1 fun z2=>by
   exfalso
   rcases h with h|h
   ·cases hc:s.cnt with
    | none=>exact h hc
    | some o=>rw [hc] at z;cases z
   ·rw [zdf h] at z2
    cases z2
  rw [Bool.or_true,Bool.or_true] at t
  exact⟨_,_,sq_rt ((rif_t t).trans (parse_lst c)),rfl⟩
 ·have hc:s.cnt=none:=Decidable.not_not.mp fun z=>h (.inl z)
  have hl:ws.length=1:=Decidable.not_not.mp fun z=>h (.inr z)
  match ws,hl with
  | [w],_=>
  rw [step_loop1 hc]
  have hA:=ha w (.tail _ zms)
  have R1:Yc 1 g_law_read_operand (zCons (y2 ixV (yPk 5) (yC (.int (1)))) Zn) (E8 LL s.F s.cnt B i (some (.v (rwE [cLoop,w]))) a6 a7) c=some (nonO (cls w),c):=(Caa (zcons_at (y2_at (pk_at rfl) q_c ix1_rw) q_nil) rfl).trans (loperand hA.1 hA.2 c)
  have t:uOr (uBl (y2 notNV (yPk 2) (yC .non))) (uOr (uBl (y2 neV (y1 lenV (yPk 5)) (yC (.int (2))))) (uBl (y2 isNV (Yc 1 g_law_read_operand (zCons (y2 ixV (yPk 5) (yC (.int (1)))) Zn)) (yC .non)))) (E8 LL s.F s.cnt B i (some (.v (rwE [cLoop,w]))) a6 a7) c=some (!s.cnt.isNone||(!decide ([w].length=1)||(cls w).isNone),c):=uor_b A fun z=>uor_b B1 fun z2=>ubl_at (y2_at R1 q_c (by show some (DV.bl (nonB (nonO (cls w))))=_;rw [nonO_b]))
  rw [hc] at t
  cases e:cls w with
  | none=>
   rw [e] at t
   rw [hc]
   exact⟨_,_,sq_rt ((rif_t t).trans (parse_lst c)),rfl⟩
  | some o=>
   rw [e] at t R1
   rw [hc] at R1 ⊢
   have s2:rAs 2 (Yc 1 g_law_read_operand (zCons (y2 ixV (yPk 5) (yC (.int (1)))) Zn)) (E8 LL s.F none B i (some (.v (rwE [cLoop,w]))) a6 a7) c=some (.nx,E8 LL s.F (some o) B i (some (.v (rwE [cLoop,w]))) a6 a7,c):=as_at R1 rfl
   have s3:rAo 3 (yLst Zn) (E8 LL s.F (some o) B i (some (.v (rwE [cLoop,w]))) a6 a7) c=some (.nx,E8 LL s.F (some o) [] i (some (.v (rwE [cLoop,w]))) a6 a7,c):=ao_at (lst_at q_nil (by simp)) rfl
   exact⟨_,_,(sq_nx ((rif_f t).trans rfl)).trans ((sq_nx s2).trans s3),.inl rfl,[],_,_,_,rfl,fun _=>rfl⟩
theorem E8_app {L:DV}{F:List El}{x:El}{cnt:Option Op}{B:List DV}{i:Nat}{a5 a6 a7:Option Sl}:[some (.v L),some (.o (F.map El.e++[x.e])),some (.v (nonO cnt)),some (.o B),some (.v (.int ((0:Int)+i))),a5,a6,a7]=E8 L (F++[x]) cnt B i a5 a6 a7:=by
 unfold E8
 rw [zmq]
 rfl
theorem lr_end {LL:DV}{i:Nat}(s:Sp)(B:List DV)(hB:s.cnt≠none→B=s.B.map liE)(hF:s.F.length≤90000)(hB2:s.B.length≤90000)(a6 a7:Option Sl)(c:Cs):
  ∃f V,EndS (E8 LL s.F s.cnt B i (some (.v (rwE [cEnd]))) a6 a7) c=some (f,V,c)∧Lr (step [cEnd] s) i LL f V:=by
 have A:uBl (y2 isNV (yPk 2) (yC .non)) (E8 LL s.F s.cnt B i (some (.v (rwE [cEnd]))) a6 a7) c=some (s.cnt.isNone,c):=ubl_at (y2_at (pk_at rfl) q_c (by show some (DV.bl (nonB (nonO s.cnt)))=_;rw [nonO_b]))
 have B1:uNt (uTru (yPk 3)) (E8 LL s.F s.cnt B i (some (.v (rwE [cEnd]))) a6 a7) c=some (B.isEmpty,c):=by
  refine(unt_at (b := !B.isEmpty) (utru_at (pko_at rfl) ?_)).trans ?_
  ·cases B<;>rfl
  ·cases B<;>rfl
 cases hc:s.cnt with
 | none=>
  rw [step_end0 (.inl hc)]
  rw [hc] at A
  have t:uOr (uBl (y2 isNV (yPk 2) (yC .non))) (uNt (uTru (yPk 3))) (E8 LL s.F none B i (some (.v (rwE [cEnd]))) a6 a7) c=some (true,c):=uor_b (x:=true) (y:=true) A nofun
  exact⟨_,_,sq_rt ((rif_t t).trans (parse_lst c)),rfl⟩
 | some o=>
  rw [hc] at A B1
  have eB:=hB (by rw [hc];exact nofun)
  subst eB
  have t:uOr (uBl (y2 isNV (yPk 2) (yC .non))) (uNt (uTru (yPk 3))) (E8 LL s.F (some o) (s.B.map liE) i (some (.v (rwE [cEnd]))) a6 a7) c=some (false||s.B.isEmpty,c):=uor_b A fun _=>by
   rw [B1]
   cases s.B<;>rfl
  cases hb:s.B.isEmpty with
  | true=>
   rw [step_end0 (.inr (.inr hb))]
   rw [hb] at t
   exact⟨_,_,sq_rt ((rif_t t).trans (parse_lst c)),rfl⟩
  | false=>
   rw [step_end1 hc hb]
   rw [hb] at t
   have s1:rAe 1 (yTup (zCons (yC (.str "loop")) (zCons (Yv 2) (zCons (y1 tupleV (yPk 3)) Zn)))) (E8 LL s.F (some o) (s.B.map liE) i (some (.v (rwE [cEnd]))) a6 a7) c=some (.nx,E8 LL (s.F++[.lp o s.B]) (some o) (s.B.map liE) i (some (.v (rwE [cEnd]))) a6 a7,c):=
    ae_big (Tua (zcons_at q_c (zcons_at (Vaa rfl) (zcons_at (y1_at (pko_at rfl) rfl) q_nil))) (by simp)) rfl (by rw [zlm];omega) (E8_app (x:=.lp o s.B))
   have s2:rAs 2 (yC .non) (E8 LL (s.F++[.lp o s.B]) (some o) (s.B.map liE) i (some (.v (rwE [cEnd]))) a6 a7) c=some (.nx,E8 LL (s.F++[.lp o s.B]) none (s.B.map liE) i (some (.v (rwE [cEnd]))) a6 a7,c):=as_at q_c rfl
   exact⟨_,_,(sq_nx ((rif_f t).trans rfl)).trans ((sq_nx s1).trans s2),.inl rfl,_,_,_,_,rfl,fun z=>absurd rfl z⟩
theorem lnL_end (ws:Row):lnL cEnd ws=none:=lnL_none lk_end
theorem lr_ins {LL:DV}{i:Nat}{w0:List Nat}{ws:Row}(hl:w0≠cLoop)(he:w0::ws≠[cEnd])(s:Sp)(B:List DV)(ha:AscR (w0::ws))(hw:ws.length≤99999)(hB:s.cnt≠none→B=s.B.map liE)(hF:s.F.length≤90000)(hB2:s.B.length≤90000)(a6 a7:Option Sl)(c:Cs):
  ∃f V,InsS (E8 LL s.F s.cnt B i (some (.v (rwE (w0::ws)))) a6 a7) c=some (f,V,c)∧Lr (step (w0::ws) s) i LL f V:=by
 have hs:step (w0::ws) s=match lnL w0 ws with
   | some bs=>(match s.cnt with
    | none=>some ⟨none,s.B,s.F++[.ins (w0,bs,ws)]⟩
    | some o=>some ⟨some o,s.B++[(w0,bs,ws)],s.F⟩)
   | none=>none:=by
  by_cases h2:w0=cEnd
  ·subst h2
   rw [lnL_end,step_end0 (.inr (.inl fun z=>he (by rw [z])))]
  ·exact step_ins hl h2
 have s7:rAs 7 (Yc 1 g_law_read_line (zCons (Yv 5) Zn)) (E8 LL s.F s.cnt B i (some (.v (rwE (w0::ws)))) a6 a7) c=some (.nx,E8 LL s.F s.cnt B i (some (.v (rwE (w0::ws)))) a6 (some (.v (lineE w0 ws))),c):=as_at ((call1_at rfl).trans (readline_g (ha w0 zms).1 (fun w m=>ha w (.tail _ m)) (by omega) c)) rfl
 have t8:uBl (y2 isNV (yPk 7) (yC .non)) (E8 LL s.F s.cnt B i (some (.v (rwE (w0::ws)))) a6 (some (.v (lineE w0 ws)))) c=some (nonB (lineE w0 ws),c):=ubl_at (y2_at (pk_at rfl) q_c rfl)
 have t9:uBl (y2 isNV (yPk 2) (yC .non)) (E8 LL s.F s.cnt B i (some (.v (rwE (w0::ws)))) a6 (some (.v (lineE w0 ws)))) c=some (s.cnt.isNone,c):=ubl_at (y2_at (pk_at rfl) q_c (by show some (DV.bl (nonB (nonO s.cnt)))=_;rw [nonO_b]))
 rw [hs]
 cases e:lnL w0 ws with
 | none=>
  rw [lineE_none e] at s7 t8
  exact⟨_,_,(sq_nx s7).trans (sq_rt ((rif_t t8).trans (parse_lst c))),rfl⟩
 | some bs=>
  rw [lineE_some e] at s7 t8 t9
  cases hc:s.cnt with
  | none=>
   rw [hc] at s7 t8 t9
   have s1:rAe 1 (Yv 7) (E8 LL s.F none B i (some (.v (rwE (w0::ws)))) a6 (some (.v (insD w0 bs ws)))) c=some (.nx,E8 LL (s.F++[.ins (w0,bs,ws)]) none B i (some (.v (rwE (w0::ws)))) a6 (some (.v (insD w0 bs ws))),c):=
    ae_big (Vaa rfl) rfl (by rw [zlm];omega) (E8_app (x:=.ins (w0,bs,ws)))
   exact⟨_,_,(sq_nx s7).trans ((sq_nx ((rif_f t8).trans rfl)).trans ((rif_t t9).trans s1)),.inl rfl,_,_,_,_,rfl,fun z=>absurd rfl z⟩
  | some o=>
   rw [hc] at s7 t8 t9
   have eB:=hB (by rw [hc];exact nofun)
   have s1:rAe 3 (Yv 7) (E8 LL s.F (some o) B i (some (.v (rwE (w0::ws)))) a6 (some (.v (insD w0 bs ws)))) c=some (.nx,E8 LL s.F (some o) (B++[insD w0 bs ws]) i (some (.v (rwE (w0::ws)))) a6 (some (.v (insD w0 bs ws))),c):=
    ae_big (Vaa rfl) rfl (by rw [eB,zlm];omega) rfl
   exact⟨_,_,(sq_nx s7).trans ((sq_nx ((rif_f t8).trans rfl)).trans ((rif_f t9).trans s1)),.inl rfl,_,_,_,_,rfl,fun _=>by rw [eB,zmq];rfl⟩
theorem lr_step {L:List (List Nat)}{i:Nat}{t:List Nat}(hL:L[i]?=some t)(ht:t.length≤90000)(ha:AscR (wordsOf t))(hw:(wordsOf t).length≤90000)(s:Sp)(B:List DV)(hB:s.cnt≠none→B=s.B.map liE)(hF:s.F.length≤90000)(hB2:s.B.length≤90000)(a5 a6 a7:Option Sl)(c:Cs):
  ∃f V,l_law_read_0 (E8 (.lst (L.map sW)) s.F s.cnt B i a5 a6 a7) c=some (f,V,c)∧Lr (step (wordsOf t) s) i (.lst (L.map sW)) f V:=by
 have s5:rAs 5 (yLc [6] (jAny (y2 splitV (y2 ixV (y2 splitV (y2 ixV (yPk 0) (yPk 4)) (yC (.str "#"))) (yC (.int (0)))) (yC (.str " ")))) (qNm 6) (uBl (y2 neV (yPk 6) (yC (.str "")))) (Yv 6)) (E8 (.lst (L.map sW)) s.F s.cnt B i a5 a6 a7) c=some (.nx,E8 (.lst (L.map sW)) s.F s.cnt B i (some (.v (rwE (wordsOf t)))) a6 a7,c):=
  as_at (lwords ht c rfl (y2_at (pk_at rfl) (pk_at rfl) (line_ix hL))) rfl
 generalize (DV.lst (L.map sW))=LL at *
 generalize wordsOf t=r at *
 cases r with
 | nil=>
  have t6:uNt (uTru (yPk 5)) (E8 LL s.F s.cnt B i (some (.v (rwE []))) a6 a7) c=some (true,c):=unt_at (b:=false) (utru_at (pk_at rfl) rfl)
  exact⟨.ct,E8 LL s.F s.cnt B i (some (.v (rwE []))) a6 a7,(sq_nx s5).trans (by rw [q_sq,rif_t t6];rfl),.inr rfl,B,_,_,_,rfl,hB⟩
 | cons w0 ws=>
  have t6:uNt (uTru (yPk 5)) (E8 LL s.F s.cnt B i (some (.v (rwE (w0::ws)))) a6 a7) c=some (false,c):=unt_at (b:=true) (utru_at (pk_at rfl) rfl)
  have t7:uBl (y2 V2.eqV (y2 ixV (yPk 5) (yC (.int (0)))) (yC (.str "loop"))) (E8 LL s.F s.cnt B i (some (.v (rwE (w0::ws)))) a6 a7) c=some (decide (w0=cLoop),c):=ubl_at (y2_at (y2_at (pk_at rfl) q_c ix_head) q_c (by rw [l_loop];exact eqS _ _))
  have hw2:ws.length≤99999:=by rw [zlc] at hw;omega
  by_cases hl:w0=cLoop
  ·rw [zdt hl] at t7
   subst hl
   obtain⟨f,V,e1,e2⟩:=lr_loop (LL:=LL) (i:=i) s B ha hw2 a6 a7 c
   exact⟨f,V,(sq_nx s5).trans ((sq_nx ((rif_f t6).trans rfl)).trans ((rif_t t7).trans e1)),e2⟩
  ·rw [zdf hl] at t7
   have t8:uBl (y2 V2.eqV (yPk 5) (yLst (zCons (yC (.str "end")) Zn))) (E8 LL s.F s.cnt B i (some (.v (rwE (w0::ws)))) a6 a7) c=some (decide (w0::ws=[cEnd]),c):=ubl_at (y2_at (pk_at rfl) (lst_at (zcons_at q_c q_nil) (by simp)) (eq_end ha))
   by_cases he:w0::ws=[cEnd]
   ·rw [zdt he] at t8
    rw [he] at s5 t6 t7 t8 ⊢
    obtain⟨f,V,e1,e2⟩:=lr_end (LL:=LL) (i:=i) s B hB hF hB2 a6 a7 c
    exact⟨f,V,(sq_nx s5).trans ((sq_nx ((rif_f t6).trans rfl)).trans ((rif_f t7).trans ((rif_t t8).trans e1))),e2⟩
   ·rw [zdf he] at t8
    obtain⟨f,V,e1,e2⟩:=lr_ins (LL:=LL) (i:=i) hl he s B ha hw2 hB hF hB2 a6 a7 c
    exact⟨f,V,(sq_nx s5).trans ((sq_nx ((rif_f t6).trans rfl)).trans ((rif_f t7).trans ((rif_f t8).trans e1))),e2⟩
theorem step_len {r:Row}{s s':Sp}(h:step r s=some s'):s'.F.length≤s.F.length+1∧s'.B.length≤s.B.length+1:=by
 unfold step at h
 split at h
 ·cases h;omega
 ·split at h
  ·split at h
   ·obtain⟨o,_,rfl⟩:=zmm h
    simp
   ·cases h
  ·split at h
   ·split at h
    ·split at h
     ·cases h
     ·cases h;simp
    ·cases h
   ·split at h
    ·split at h
     ·cases h;simp
     ·cases h;simp
    ·cases h
abbrev E9 (L:DV)(F:List El)(cnt:Option Op)(B:List DV)(a4 a5 a6 a7:Option Sl):Env2:=[some (.v L),some (.o (F.map El.e)),some (.v (nonO cnt)),some (.o B),a4,a5,a6,a7]
def Okt (t:List Nat):Prop:=t.length≤90000∧AscR (wordsOf t)∧(wordsOf t).length≤90000
theorem lr_all {L:List (List Nat)}(c:Cs):∀(rest:List (List Nat)) (i:Nat) (s:Sp) (B:List DV) (a4 a5 a6 a7:Option Sl),(∀k,k<rest.length→L[i+k]?=rest[k]?)→(∀t∈rest,Okt t)→(s.cnt≠none→B=s.B.map liE)→s.F.length+rest.length≤90000→s.B.length+rest.length≤90000→
  match rd i s (rest.map wordsOf) with
  | .inl k=>∃V,forW (qNm 4) l_law_read_0 ((List.range' i rest.length).map fun(k:Nat)=>DV.int ((0:Int)+k)) (E9 (.lst (L.map sW)) s.F s.cnt B a4 a5 a6 a7) c=some (.rt (.lst [.str "parse",.int ((0:Int)+k)]),V,c)
  | .inr s'=>∃B' b4 b5 b6 b7,forW (qNm 4) l_law_read_0 ((List.range' i rest.length).map fun(k:Nat)=>DV.int ((0:Int)+k)) (E9 (.lst (L.map sW)) s.F s.cnt B a4 a5 a6 a7) c=some (.nx,E9 (.lst (L.map sW)) s'.F s'.cnt B' b4 b5 b6 b7,c)
 | [],i,s,B,a4,a5,a6,a7,_,_,_,_,_=>⟨B,a4,a5,a6,a7,rfl⟩
 | t::rest,i,s,B,a4,a5,a6,a7,hL,ht,hB,hF,hB2=>by
  rw [zlc] at hF hB2
  obtain⟨h1,h2,h3⟩:=ht t zms
  obtain⟨f,V,e1,e2⟩:=lr_step (L:=L) (i:=i) (by simpa using hL 0 (by simp)) h1 h2 h3 s B hB (by omega) (by omega) a5 a6 a7 c
  rw [zmc,rd,zlc,List.range'_succ,zmc]
  cases e:step (wordsOf t) s with
  | none=>
   rw [e] at e2
   have e2:f=.rt (.lst [.str "parse",.int ((0:Int)+i)]):=e2
   subst e2
   refine⟨V,?_⟩
   rw [q_for1]
   show((l_law_read_0 (E8 (.lst (L.map sW)) s.F s.cnt B i a5 a6 a7) c).bind _)=_
   rw [e1]
   rfl
  | some s'=>
   rw [e] at e2
   obtain⟨hf,B',b5,b6,b7,rfl,hB'⟩:=e2
   have sl:=step_len e
   have ih:=lr_all (L:=L) c rest (i+1) s' B' (some (.v (.int ((0:Int)+i)))) b5 b6 b7 (fun k hk=>by have:=hL (k+1) (by simpa using hk);rw [show i+1+k=i+(k+1) by omega,this];simp) (fun t m=>ht t (.tail _ m)) hB' (by omega) (by omega)
   have go:forW (qNm 4) l_law_read_0 (DV.int ((0:Int)+i)::(List.range' (i+1) rest.length).map fun(k:Nat)=>DV.int ((0:Int)+k)) (E9 (.lst (L.map sW)) s.F s.cnt B a4 a5 a6 a7) c=forW (qNm 4) l_law_read_0 ((List.range' (i+1) rest.length).map fun(k:Nat)=>DV.int ((0:Int)+k)) (E8 (.lst (L.map sW)) s'.F s'.cnt B' i b5 b6 b7) c:=by
    rcases hf with rfl|rfl
    ·exact forW_one (v1:=E8 (.lst (L.map sW)) s.F s.cnt B i a5 a6 a7) rfl e1
    ·exact forW_ct (v1:=E8 (.lst (L.map sW)) s.F s.cnt B i a5 a6 a7) rfl e1
   show match rd (i+1) s' (rest.map wordsOf) with
    | .inl k=>_
    | .inr s'=>_
   cases er:rd (i+1) s' (rest.map wordsOf) with
   | inl k=>
    rw [er] at ih
    obtain⟨V,e3⟩:=ih
    exact⟨V,go.trans e3⟩
   | inr s2=>
    rw [er] at ih
    obtain⟨B2,b4,b5,b6,b7,e3⟩:=ih
    exact⟨B2,b4,b5,b6,b7,go.trans e3⟩
def Sp.nil:Sp:=⟨none,[],[]⟩
def readE (n:Nat):Nat ⊕ Sp→DV
 | .inl k=>.lst [.str "parse",.int k]
 | .inr s=>match s.cnt with
  | some _=>.lst [.str "parse",.int n]
  | none=>.lst [.str "good",.tup (s.F.map El.e)]
theorem zint (k:Nat):((0:Int)+(k:Nat))=(k:Int):=Int.zero_add _
theorem read_g {L:List (List Nat)}(ht:∀t∈L,Okt t)(hl:L.length≤90000)(c:Cs):g_law_read [.lst (L.map sW)] c=some (readE L.length (rd 0 Sp.nil (L.map wordsOf)),c):=by
 have s1:rAo 1 (yLst Zn) [some (.v (.lst (L.map sW))),none,none,none,none,none,none,none] c=some (.nx,[some (.v (.lst (L.map sW))),some (.o []),none,none,none,none,none,none],c):=ao_at (lst_at q_nil (by simp)) rfl
 have s2:rAs 2 (yC .non) [some (.v (.lst (L.map sW))),some (.o []),none,none,none,none,none,none] c=some (.nx,[some (.v (.lst (L.map sW))),some (.o []),some (.v .non),none,none,none,none,none],c):=as_at q_c rfl
 have s3:rAo 3 (yLst Zn) [some (.v (.lst (L.map sW))),some (.o []),some (.v .non),none,none,none,none,none] c=some (.nx,E9 (.lst (L.map sW)) [] none [] none none none none,c):=ao_at (lst_at q_nil (by simp)) rfl
 have ll:y1 lenV (yPk 0) (E9 (.lst (L.map sW)) [] none [] none none none none) c=some (.int L.length,c):=y1_at (pk_at rfl) (by show some (DV.int ((L.map sW).length:Nat))=_;rw [zlm])
 have ih:=lr_all (L:=L) c L 0 Sp.nil [] none none none none (fun k _=>by rw [Nat.zero_add]) ht (fun _=>rfl) (by simp [Sp.nil];omega) (by simp [Sp.nil];omega)
 have it:jRg1 (y1 lenV (yPk 0)) (E9 (.lst (L.map sW)) [] none [] none none none none) c=some ((List.range' 0 L.length).map fun(k:Nat)=>DV.int ((0:Int)+k),c):=by
  rw [jrg1_at (z:=(L.length:Int)) (by omega) (by omega) ll,Int.toNat_natCast]
  unfold rangeD
  rw [List.range_eq_range']
 cases er:rd 0 Sp.nil (L.map wordsOf) with
 | inl k=>
  rw [er] at ih
  obtain⟨V,e3⟩:=ih
  rw [zint] at e3
  exact fnf_at rfl ((sq_nx s1).trans ((sq_nx s2).trans ((sq_nx s3).trans (sq_rt ((for_at it).trans e3)))))
 | inr s=>
  rw [er] at ih
  obtain⟨B',b4,b5,b6,b7,e3⟩:=ih
  have t:uBl (y2 notNV (yPk 2) (yC .non)) (E9 (.lst (L.map sW)) s.F s.cnt B' b4 b5 b6 b7) c=some (!s.cnt.isNone,c):=ubl_at (y2_at (pk_at rfl) q_c (by show some (DV.bl (!nonB (nonO s.cnt)))=_;rw [nonO_b]))
  have l2:y1 lenV (yPk 0) (E9 (.lst (L.map sW)) s.F s.cnt B' b4 b5 b6 b7) c=some (.int L.length,c):=y1_at (pk_at rfl) (by show some (DV.int ((L.map sW).length:Nat))=_;rw [zlm])
  have s4:=(for_at it).trans e3
  show g_law_read _ c=some (match s.cnt with|some _=>DV.lst [.str "parse",.int L.length]|none=>.lst [.str "good",.tup (s.F.map El.e)],c)
  cases hc:s.cnt with
  | some o=>
   rw [hc] at t l2 s4
   exact fnf_at rfl ((sq_nx s1).trans ((sq_nx s2).trans ((sq_nx s3).trans ((sq_nx s4).trans (sq_rt ((rif_t t).trans (rt_at (lst_at (zcons_at q_c (zcons_at l2 q_nil)) (by simp)))))))))
  | none=>
   rw [hc] at t s4
   exact fnf_at rfl ((sq_nx s1).trans ((sq_nx s2).trans ((sq_nx s3).trans ((sq_nx s4).trans ((sq_nx ((rif_f t).trans rfl)).trans (rt_at (lst_at (zcons_at q_c (zcons_at (y1_at (pko_at rfl) rfl) q_nil)) (by simp))))))))
theorem log_small {i:Nat}(h:i≤1000000):((i:Int)).natAbs.log2<1000:=by
 show i.log2<1000
 by_cases h0:i=0
 ·subst h0;decide
 ·rw [Nat.log2_lt h0]
  exact Nat.lt_of_le_of_lt h (Nat.lt_of_lt_of_le (show 1000000<2 ^ 20 by decide) (Nat.pow_le_pow_right (by decide) (by decide)))
theorem prsf_at {a:E2}{v:Env2}{c c1:Cs}{i:Nat}{k:Nat}{n:Str}(h:a v c=some (.int (i:Int),c1))(hi:i≤1000000):pRsF k n a v c=some (.ex (k,[(n,(i:Int))]),c1):=by
 unfold pRsF
 rw [h]
 simp only [zob]
 rw [if_pos (log_small hi)]
theorem psq_ct {a b:S2W}{v v1:Env2}{c c1:Cs}(h:a v c=some (.ok (.ct,v1),c1)):pSq a b v c=some (.ok (.ct,v1),c1):=by
 unfold pSq
 rw [h]
 rfl
def inside (s:Sp):Option Nat:=s.cnt.map fun _=>s.B.length
def posI:Option Nat→Bool
 | some k=>decide (0<k)
 | none=>false
def standB (w0:List Nat)(ins:Option Nat):Bool:=if w0=cLoop then ins.isNone else if w0=cEnd then posI ins else true
theorem insE_b (o:Option Nat):nonB (insE o)=o.isNone:=by cases o<;>rfl
theorem stand_g (w0:List Nat)(ins:Option Nat)(c:Cs):g_may_stand [sW w0,insE ins] c=some (.bl (standB w0 ins),c):=by
 have t1:uBl (y2 V2.eqV (yPk 0) (yC (.str "loop"))) [some (.v (sW w0)),some (.v (insE ins))] c=some (decide (w0=cLoop),c):=ubl_at (y2_at (pk_at rfl) q_c (by rw [l_loop];exact eqS _ _))
 have t2:uBl (y2 V2.eqV (yPk 0) (yC (.str "end"))) [some (.v (sW w0)),some (.v (insE ins))] c=some (decide (w0=cEnd),c):=ubl_at (y2_at (pk_at rfl) q_c (by rw [l_end];exact eqS _ _))
 unfold standB
 by_cases h1:w0=cLoop
 ·rw [zdt h1] at t1
  rw [if_pos h1]
  exact fn_at rfl (sq_rt ((rif_t t1).trans (rt_at (y2_at (pk_at rfl) q_c (by show some (DV.bl (nonB (insE ins)))=_;rw [insE_b])))))
 ·rw [zdf h1] at t1
  rw [if_neg h1]
  by_cases h2:w0=cEnd
  ·rw [zdt h2] at t2
   rw [if_pos h2]
   have t3:yAn (y2 notNV (yPk 1) (yC .non)) (y2 gtV (yPk 1) (yC (.int (0)))) [some (.v (sW w0)),some (.v (insE ins))] c=some (.bl (posI ins),c):=by
    cases ins with
    | none=>exact bl_eq (an_b (x:=false) (y:=false) (y2_at (pk_at rfl) q_c rfl) nofun) rfl
    | some k=>exact bl_eq (an_b (x:=true) (y2_at (pk_at rfl) q_c rfl) fun _=>y2_at (pk_at rfl) q_c (show cmpV (fun i j=>decide (i>j)) (.int (k:Int)) (.int 0)=some (.bl (decide ((k:Int)>0))) from rfl)) (by rw [Bool.true_and];unfold posI;rw [decide_eq_decide];omega)
   exact fn_at rfl ((sq_nx ((rif_f t1).trans rfl)).trans (sq_rt ((rif_t t2).trans (rt_at t3))))
  ·rw [zdf h2] at t2
   rw [if_neg h2]
   exact fn_at rfl ((sq_nx ((rif_f t1).trans rfl)).trans ((sq_nx ((rif_f t2).trans rfl)).trans (rt_at q_c)))
theorem lnB_loop (ws:Row):lnB cLoop ws=match ws with
 | [w]=>(cls w).isSome
 | _=>false:=by
 unfold lnB
 rw [show fmW cLoop=some [false] from rfl]
 match ws with
 | []=>rfl
 | [w]=>
  show _=(cls w).isSome
  rw [cls_some]
  show(true&&((wrt false w)&&true))=_
  unfold wrt
  simp
 | _::_::_=>simp
theorem lnB_end (ws:Row):lnB cEnd ws=ws.isEmpty:=by
 unfold lnB
 rw [show fmW cEnd=some [] from rfl]
 cases ws<;>simp
theorem lnB_ins {w0:List Nat}{ws:Row}(h1:w0≠cLoop)(h2:w0≠cEnd):lnB w0 ws=(lnL w0 ws).isSome:=by
 unfold lnB lnL fmW
 rw [if_neg h1,if_neg h2]
 cases lkW w0 with
 | none=>rfl
 | some bs=>
  show(decide (ws.length=bs.length)&&(bs.zip ws).all fun p=>wrt p.1 p.2)=_
  by_cases hz:ws.length=bs.length∧(bs.zip ws).all (fun p=>wrt p.1 p.2)=true
  ·simp only []
   rw [if_pos hz,zdt hz.1,hz.2]
   rfl
  ·simp only []
   rw [if_neg hz,Option.isSome_none,Bool.eq_false_iff]
   intro z
   rw [Bool.and_eq_true,decide_eq_true_eq] at z
   exact hz z
theorem cf_eq (w0:List Nat)(ws:Row)(s:Sp):(step (w0::ws) s).isSome=(lnB w0 ws&&standB w0 (inside s)):=by
 unfold inside standB
 by_cases h1:w0=cLoop
 ·subst h1
  rw [lnB_loop,if_pos rfl]
  cases hc:s.cnt with
  | some o=>rw [step_loop0 (.inl (by rw [hc];exact nofun))];simp
  | none=>
   match ws with
   | []=>rw [step_loop0 (.inr (by simp))];rfl
   | [w]=>rw [step_loop1 hc];simp
   | _::_::_=>rw [step_loop0 (.inr (by simp))];rfl
 ·rw [if_neg h1]
  by_cases h2:w0=cEnd
  ·subst h2
   rw [lnB_end,if_pos rfl]
   cases hc:s.cnt with
   | none=>rw [step_end0 (.inl hc)];simp [posI]
   | some o=>
    cases ws with
    | nil=>
     cases hb:s.B.isEmpty with
     | true=>
      rw [step_end0 (.inr (.inr hb))]
      have:s.B=[]:=List.isEmpty_iff.mp hb
      rw [this]
      rfl
     | false=>
      rw [step_end1 hc hb]
      have:0<s.B.length:=by cases hB:s.B with
       | nil=>rw [hB] at hb;cases hb
       | cons _ _=>simp
      simp [this,posI]
    | cons _ _=>rw [step_end0 (ws:=_::_) (.inr (.inl (List.cons_ne_nil _ _)))];rfl
  ·rw [if_neg h2,lnB_ins h1 h2,step_ins h1 h2,Bool.and_true]
   cases lnL w0 ws with
   | none=>rfl
   | some bs=>
    cases s.cnt<;>rfl
theorem step_inside {w0:List Nat}{ws:Row}{s s':Sp}(h:step (w0::ws) s=some s'):inside s'=if w0=cLoop then some 0 else if w0=cEnd then none else(inside s).map (· + 1):=by
 unfold inside
 by_cases h1:w0=cLoop
 ·subst h1
  rw [if_pos rfl]
  rw [step_cons,if_pos rfl] at h
  split at h
  ·obtain⟨o,_,rfl⟩:=zmm h
   rfl
  ·cases h
 ·rw [if_neg h1]
  by_cases h2:w0=cEnd
  ·subst h2
   rw [if_pos rfl]
   rw [step_cons,if_neg h1,if_pos rfl] at h
   split at h
   ·split at h
    ·cases h
    ·cases h;rfl
   ·cases h
  ·rw [if_neg h2]
   rw [step_ins h1 h2] at h
   split at h
   ·split at h
    ·rename_i e
     cases h
     rw [e]
     rfl
    ·rename_i o e
     cases h
     rw [e]
     simp
   ·cases h
theorem cf_step {R:Option Sl}{row:Row}(ha:AscR row)(hl:row.length≤90000)(s:Sp)(i:Nat)(hi:i≤100000)(c:Cs):
  match step row s with
  | none=>l_check_forms_0 [R,some (.v (insE (inside s))),some (.v (.int (i:Int))),some (.v (rwE row))] c=some (.ex (2,[("line",(i:Int))]),c)
  | some s'=>∃f,(f=.nx∨f=.ct)∧l_check_forms_0 [R,some (.v (insE (inside s))),some (.v (.int (i:Int))),some (.v (rwE row))] c=some (.ok (f,[R,some (.v (insE (inside s'))),some (.v (.int (i:Int))),some (.v (rwE row))]),c):=by
 cases row with
 | nil=>
  have t6:uNt (uTru (yPk 3)) [R,some (.v (insE (inside s))),some (.v (.int (i:Int))),some (.v (rwE []))] c=some (true,c):=unt_at (b:=false) (utru_at (pk_at rfl) rfl)
  exact⟨.ct,.inr rfl,psq_ct (ps_at ((rif_t t6).trans rfl))⟩
 | cons w0 ws=>
  have t6:uNt (uTru (yPk 3)) [R,some (.v (insE (inside s))),some (.v (.int (i:Int))),some (.v (rwE (w0::ws)))] c=some (false,c):=unt_at (b:=true) (utru_at (pk_at rfl) rfl)
  have s1:pS (rIf (uNt (uTru (yPk 3))) rCt rNx) [R,some (.v (insE (inside s))),some (.v (.int (i:Int))),some (.v (rwE (w0::ws)))] c=some (.ok (.nx,[R,some (.v (insE (inside s))),some (.v (.int (i:Int))),some (.v (rwE (w0::ws)))]),c):=ps_at ((rif_f t6).trans rfl)
  have hw:ws.length≤100000:=by rw [zlc] at hl;omega
  have t7:uOr (uNt (uTru (Yc 1 g_has_form (zCons (Yv 3) Zn)))) (uNt (uTru (Yc 2 g_may_stand (zCons (y2 ixV (yPk 3) (yC (.int (0)))) (zCons (Yv 1) Zn))))) [R,some (.v (insE (inside s))),some (.v (.int (i:Int))),some (.v (rwE (w0::ws)))] c=some (!lnB w0 ws || !standB w0 (inside s),c):=
   uor_b (unt_at (utru_at ((Caa (zcons_at (Vaa rfl) q_nil) rfl).trans (hasform_g (fun w m=>ha w (.tail _ m)) hw c)) (truB _))) fun _=>unt_at (utru_at ((Caa (zcons_at (y2_at (pk_at rfl) q_c ix_head) (zcons_at (Vaa rfl) q_nil)) rfl).trans (stand_g w0 (inside s) c)) (truB _))
  have ce:=cf_eq w0 ws s
  rw [show(!lnB w0 ws || !standB w0 (inside s)) = !(step (w0::ws) s).isSome by rw [ce,Bool.not_and]] at t7
  cases e:step (w0::ws) s with
  | none=>
   rw [e] at t7
   exact(psq_nx s1).trans (psq_ex ((pif_t t7).trans (prsf_at (Vaa rfl) (by omega))))
  | some s'=>
   rw [e] at t7
   have hin:=step_inside e
   refine⟨.nx,.inl rfl,(psq_nx s1).trans ((psq_nx ((pif_f t7).trans rfl)).trans (ps_at ?_))⟩
   have u1:uBl (y2 V2.eqV (y2 ixV (yPk 3) (yC (.int (0)))) (yC (.str "loop"))) [R,some (.v (insE (inside s))),some (.v (.int (i:Int))),some (.v (rwE (w0::ws)))] c=some (decide (w0=cLoop),c):=ubl_at (y2_at (y2_at (pk_at rfl) q_c ix_head) q_c (by rw [l_loop];exact eqS _ _))
   have u2:uBl (y2 V2.eqV (y2 ixV (yPk 3) (yC (.int (0)))) (yC (.str "end"))) [R,some (.v (insE (inside s))),some (.v (.int (i:Int))),some (.v (rwE (w0::ws)))] c=some (decide (w0=cEnd),c):=ubl_at (y2_at (y2_at (pk_at rfl) q_c ix_head) q_c (by rw [l_end];exact eqS _ _))
   by_cases h1:w0=cLoop
   ·rw [zdt h1] at u1
    rw [if_pos h1] at hin
    rw [hin]
    exact(rif_t u1).trans (as_at q_c rfl)
   ·rw [zdf h1] at u1
    rw [if_neg h1] at hin
    refine(rif_f u1).trans ?_
    by_cases h2:w0=cEnd
    ·rw [zdt h2] at u2
     rw [if_pos h2] at hin
     rw [hin]
     exact(rif_t u2).trans (as_at q_c rfl)
    ·rw [zdf h2] at u2
     rw [if_neg h2] at hin
     rw [hin]
     refine(rif_f u2).trans ?_
     have u3:uBl (y2 notNV (yPk 1) (yC .non)) [R,some (.v (insE (inside s))),some (.v (.int (i:Int))),some (.v (rwE (w0::ws)))] c=some (!(inside s).isNone,c):=ubl_at (y2_at (pk_at rfl) q_c (by show some (DV.bl (!nonB (insE (inside s))))=_;rw [insE_b]))
     cases hc:inside s with
     | none=>
      rw [hc] at u3
      exact(rif_f u3).trans rfl
     | some k=>
      rw [hc] at u3
      exact(rif_t u3).trans rfl
theorem cf_all {R:Option Sl}(c:Cs):∀(rows:List Row) (i:Nat) (s:Sp) (a2 a3:Option Sl),(∀r∈rows,AscR r∧r.length≤90000)→i+rows.length≤100000→
  match rd i s rows with
  | .inl k=>k≤100000∧pFor.go (qTp 2 (qCons (qNm 2) (qCons (qNm 3) qNil))) l_check_forms_0 (V2.enD i (rows.map rwE)) [R,some (.v (insE (inside s))),a2,a3] c=some (.ex (2,[("line",(k:Int))]),c)
  | .inr s'=>∃b2 b3,pFor.go (qTp 2 (qCons (qNm 2) (qCons (qNm 3) qNil))) l_check_forms_0 (V2.enD i (rows.map rwE)) [R,some (.v (insE (inside s))),a2,a3] c=some (.ok (.nx,[R,some (.v (insE (inside s'))),b2,b3]),c)
 | [],i,s,a2,a3,_,_=>⟨a2,a3,rfl⟩
 | r::rows,i,s,a2,a3,h,hi=>by
  rw [zlc] at hi
  obtain⟨h1,h2⟩:=h r zms
  have st:=cf_step (R:=R) h1 h2 s i (by omega) c
  rw [rd,zmc,V2.enD]
  cases e:step r s with
  | none=>
   rw [e] at st
   exact⟨by omega,pfor_ex (v1:=[R,some (.v (insE (inside s))),some (.v (.int (i:Int))),some (.v (rwE r))]) rfl st⟩
  | some s'=>
   rw [e] at st
   obtain⟨f,hf,st⟩:=st
   have ih:=cf_all (R:=R) c rows (i+1) s' (some (.v (.int (i:Int)))) (some (.v (rwE r))) (fun x m=>h x (.tail _ m)) (by omega)
   have go:pFor.go (qTp 2 (qCons (qNm 2) (qCons (qNm 3) qNil))) l_check_forms_0 (.tup [.int (i:Int),rwE r]::V2.enD (i+1) (rows.map rwE)) [R,some (.v (insE (inside s))),a2,a3] c=pFor.go (qTp 2 (qCons (qNm 2) (qCons (qNm 3) qNil))) l_check_forms_0 (V2.enD (i+1) (rows.map rwE)) [R,some (.v (insE (inside s'))),some (.v (.int (i:Int))),some (.v (rwE r))] c:=by
    rcases hf with rfl|rfl
    ·exact pfor_nx (v1:=[R,some (.v (insE (inside s))),some (.v (.int (i:Int))),some (.v (rwE r))]) rfl st
    ·exact pfor_ct (v1:=[R,some (.v (insE (inside s))),some (.v (.int (i:Int))),some (.v (rwE r))]) rfl st
   show match rd (i+1) s' rows with
    | .inl k=>_
    | .inr s'=>_
   cases er:rd (i+1) s' rows with
   | inl k=>
    rw [er] at ih
    exact⟨ih.1,go.trans ih.2⟩
   | inr s2=>
    rw [er] at ih
    obtain⟨b2,b3,e3⟩:=ih
    exact⟨b2,b3,go.trans e3⟩
def formsR (n:Nat):Nat ⊕ Sp→R2 DV
 | .inl k=>.ex (2,[("line",(k:Int))])
 | .inr s=>match s.cnt with
  | some _=>.ex (2,[("line",(n:Int))])
  | none=>.ok .non
theorem forms_g {rows:List Row}(h:∀r∈rows,AscR r∧r.length≤90000)(hl:rows.length≤90000)(c:Cs):g_check_forms [.lst (rows.map rwE)] c=some (formsR rows.length (rd 0 Sp.nil rows),c):=by
 have s1:pS (rAs 1 (yC .non)) [some (.v (.lst (rows.map rwE))),none,none,none] c=some (.ok (.nx,[some (.v (.lst (rows.map rwE))),some (.v (insE (inside Sp.nil))),none,none]),c):=ps_at (as_at q_c rfl)
 have ih:=cf_all (R:=some (.v (.lst (rows.map rwE)))) c rows 0 Sp.nil none none h (by omega)
 have it:jEn (Yv 0) [some (.v (.lst (rows.map rwE))),some (.v (insE (inside Sp.nil))),none,none] c=some (V2.enD 0 (rows.map rwE),c):=rfl
 cases er:rd 0 Sp.nil rows with
 | inl k=>
  rw [er] at ih
  exact fnp_ex rfl ((psq_nx s1).trans (psq_ex ((pfor_at it).trans ih.2)))
 | inr s=>
  rw [er] at ih
  obtain⟨b2,b3,e3⟩:=ih
  have t:uBl (y2 notNV (yPk 1) (yC .non)) [some (.v (.lst (rows.map rwE))),some (.v (insE (inside s))),b2,b3] c=some (!(inside s).isNone,c):=ubl_at (y2_at (pk_at rfl) q_c (by show some (DV.bl (!nonB (insE (inside s))))=_;rw [insE_b]))
  have l2:y1 lenV (yPk 0) [some (.v (.lst (rows.map rwE))),some (.v (insE (inside s))),b2,b3] c=some (.int (rows.length:Int),c):=y1_at (pk_at rfl) (by show some (DV.int ((rows.map rwE).length:Nat))=_;rw [zlm])
  have s4:=(pfor_at it).trans e3
  show g_check_forms _ c=some (match s.cnt with|some _=>R2.ex (2,[("line",(rows.length:Int))])|none=>.ok .non,c)
  cases hc:s.cnt with
  | some o=>
   have hi:inside s=some s.B.length:=by unfold inside;rw [hc];rfl
   rw [hi] at t l2 s4
   exact fnp_ex rfl ((psq_nx s1).trans ((psq_nx s4).trans ((pif_t t).trans (prsf_at l2 (by omega)))))
  | none=>
   have hi:inside s=none:=by unfold inside;rw [hc];rfl
   rw [hi] at t s4
   exact fnp_nx rfl ((psq_nx s1).trans ((psq_nx s4).trans ((pif_f t).trans rfl)))
theorem pae_ok {i:Nat}{a:E2W}{v v':Env2}{c c1:Cs}{d:DV}{ds:List DV}(hv:v[i]?=some (some (.o ds)))(h:a v c=some (.ok d,c1))(hl:ds.length≤100000)(hs:v.set i (some (.o (ds++[d])))=v'):pAe i a v c=some (.ok (.nx,v'),c1):=by
 unfold pAe
 rw [hv]
 show((a v c).bind _)=_
 rw [h]
 subst hs
 simp only [zob,bp]
 rw [if_pos (Nat.lt_of_le_of_lt hl (by decide))]
theorem pae_ex {i:Nat}{a:E2W}{v:Env2}{c c1:Cs}{x:X2}{ds:List DV}(hv:v[i]?=some (some (.o ds)))(h:a v c=some (.ex x,c1)):pAe i a v c=some (.ex x,c1):=by
 unfold pAe
 rw [hv]
 show((a v c).bind _)=_
 rw [h]
 rfl
abbrev E5 (R:Option Sl)(F:List El)(cnt:Option Op)(B:List Li)(a4:Option Sl):Env2:=[R,some (.o (F.map El.e)),some (.v (nonO cnt)),some (.o (B.map liE)),a4]
theorem E5_F {R:Option Sl}{F:List El}{x:El}{cnt:Option Op}{B:List Li}{a4:Option Sl}:[R,some (.o (F.map El.e++[x.e])),some (.v (nonO cnt)),some (.o (B.map liE)),a4]=E5 R (F++[x]) cnt B a4:=by
 unfold E5
 rw [zmq]
 rfl
theorem E5_B {R:Option Sl}{F:List El}{x:Li}{cnt:Option Op}{B:List Li}{a4:Option Sl}:[R,some (.o (F.map El.e)),some (.v (nonO cnt)),some (.o (B.map liE++[liE x])),a4]=E5 R F cnt (B++[x]) a4:=by
 unfold E5
 rw [zmq]
 rfl
theorem rowOk_ins {w0:List Nat}{ws:Row}{bs:List Bool}(h1:w0≠cLoop)(h2:w0≠cEnd)(e:lnL w0 ws=some bs):rowOk (w0::ws)=okL bs ws:=by
 unfold rowOk
 show(if w0=cLoop then _ else _)=_
 rw [if_neg h1,if_neg h2,e]
theorem b_step {R:Option Sl}{w0:List Nat}{ws:Row}(ha:AscR (w0::ws))(hl:ws.length≤90000){s s':Sp}(hw:s.wf)(hF:s.F.length≤90000)(hB:s.B.length≤90000)(h:step (w0::ws) s=some s')(c:Cs):
  l_build_0 (E5 R s.F s.cnt s.B (some (.v (rwE (w0::ws))))) c=some (if rowOk (w0::ws)=true then .ok (.nx,E5 R s'.F s'.cnt s'.B (some (.v (rwE (w0::ws))))) else .ex (1,[]),c):=by
 have u1:uBl (y2 V2.eqV (y2 ixV (yPk 4) (yC (.int (0)))) (yC (.str "loop"))) (E5 R s.F s.cnt s.B (some (.v (rwE (w0::ws))))) c=some (decide (w0=cLoop),c):=ubl_at (y2_at (y2_at (pk_at rfl) q_c ix_head) q_c (by rw [l_loop];exact eqS _ _))
 have u2:uBl (y2 V2.eqV (y2 ixV (yPk 4) (yC (.int (0)))) (yC (.str "end"))) (E5 R s.F s.cnt s.B (some (.v (rwE (w0::ws))))) c=some (decide (w0=cEnd),c):=ubl_at (y2_at (y2_at (pk_at rfl) q_c ix_head) q_c (by rw [l_end];exact eqS _ _))
 have u3:uBl (y2 notNV (yPk 2) (yC .non)) (E5 R s.F s.cnt s.B (some (.v (rwE (w0::ws))))) c=some (!s.cnt.isNone,c):=ubl_at (y2_at (pk_at rfl) q_c (by show some (DV.bl (!nonB (nonO s.cnt)))=_;rw [nonO_b]))
 by_cases h1:w0=cLoop
 ·subst h1
  unfold rowOk
  rw [step_cons,if_pos rfl] at h
  rw [zdt rfl] at u1
  split at h
  ·rename_i w hc
   obtain⟨o,ho,rfl⟩:=zmm h
   have hb:s.B=[]:=hw hc
   have P:=operandW (ha w (.tail _ zms)).2 ho c
   have P1:pCall 1 g_read_operand (zCons (y2 ixV (yPk 4) (yC (.int (1)))) Zn) (E5 R s.F s.cnt s.B (some (.v (rwE [cLoop,w])))) c=some (if okO o=true then .ok o.e else .ex (1,[]),c):=(pcall_at (ds:=[sW w]) (zcons_at (y2_at (pk_at rfl) q_c ix1_rw) q_nil) rfl).trans P
   have ew:okW w=okO o:=by unfold okW;rw [ho]
   show _=some (if okW w=true then _ else _,c)
   rw [ew]
   cases e:okO o with
   | true=>
    rw [e] at P1
    exact(pif_t u1).trans (pset_ok P1 (by rw [hb];rfl))
   | false=>
    rw [e] at P1
    exact(pif_t u1).trans (pset_ex P1)
  ·cases h
 ·rw [zdf h1] at u1
  by_cases h2:w0=cEnd
  ·subst h2
   unfold rowOk
   rw [zdt rfl] at u2
   rw [step_cons,if_neg h1,if_pos rfl] at h
   split at h
   ·rename_i o hc
    split at h
    ·cases h
    ·cases h
     rw [hc] at u1 u2 u3 ⊢
     have s1:rAe 1 (yTup (zCons (yC (.str "loop")) (zCons (Yv 2) (zCons (y1 tupleV (yPk 3)) Zn)))) (E5 R s.F (some o) s.B (some (.v (rwE [cEnd])))) c=some (.nx,E5 R (s.F++[.lp o s.B]) (some o) s.B (some (.v (rwE [cEnd]))),c):=
      ae_big (Tua (zcons_at q_c (zcons_at (Vaa rfl) (zcons_at (y1_at (pko_at rfl) rfl) q_nil))) (by simp)) rfl (by rw [zlm];omega) (E5_F (x:=.lp o s.B))
     have s2:rAs 2 (yC .non) (E5 R (s.F++[.lp o s.B]) (some o) s.B (some (.v (rwE [cEnd])))) c=some (.nx,E5 R (s.F++[.lp o s.B]) none s.B (some (.v (rwE [cEnd]))),c):=as_at q_c rfl
     have s3:rAo 3 (yLst Zn) (E5 R (s.F++[.lp o s.B]) none s.B (some (.v (rwE [cEnd])))) c=some (.nx,E5 R (s.F++[.lp o s.B]) none [] (some (.v (rwE [cEnd]))),c):=ao_at (lst_at q_nil (by simp)) rfl
     exact(pif_f u1).trans ((pif_t u2).trans ((psq_nx (ps_nx s1)).trans ((psq_nx (ps_nx s2)).trans (ps_nx s3))))
   ·cases h
  ·rw [zdf h2] at u2
   rw [step_ins h1 h2] at h
   cases e:lnL w0 ws with
   | none=>rw [e] at h;cases h
   | some bs=>
    rw [e] at h
    have P:=readins_g (w0:=w0) (fun w m=>ha w (.tail _ m)) (by omega) e c
    have P1:pCall 1 g_read_instruction (zCons (Yv 4) Zn) (E5 R s.F s.cnt s.B (some (.v (rwE (w0::ws))))) c=some (if okL bs ws=true then .ok (insD w0 bs ws) else .ex (1,[]),c):=(pcall_at (ds:=[rwE (w0::ws)]) (zcons_at (Vaa rfl) q_nil) rfl).trans P
    rw [rowOk_ins h1 h2 e]
    refine(pif_f u1).trans ((pif_f u2).trans ?_)
    cases hc:s.cnt with
    | none=>
     rw [hc] at h u3 P1
     cases h
     refine(pif_f u3).trans ?_
     cases eo:okL bs ws with
     | true=>
      rw [eo] at P1
      exact pae_ok rfl P1 (by rw [zlm];omega) (E5_F (x:=.ins (w0,bs,ws)))
     | false=>
      rw [eo] at P1
      exact pae_ex rfl P1
    | some o=>
     rw [hc] at h u3 P1
     cases h
     refine(pif_t u3).trans ?_
     cases eo:okL bs ws with
     | true=>
      rw [eo] at P1
      exact pae_ok rfl P1 (by rw [zlm];omega) (E5_B (x:=(w0,bs,ws)))
     | false=>
      rw [eo] at P1
      exact pae_ex rfl P1
theorem b_all {R:Option Sl}(c:Cs):∀(rows:List Row) (i:Nat) (s s':Sp) (a4:Option Sl),rd i s rows=.inr s'→s.wf→(∀r∈rows,AscR r∧r.length≤90000)→s.F.length+rows.length≤90000→s.B.length+rows.length≤90000→
  ∃b4,pFor.go (qNm 4) l_build_0 ((rows.filter neR).map rwE) (E5 R s.F s.cnt s.B a4) c=some (if rows.all rowOk=true then .ok (.nx,E5 R s'.F s'.cnt s'.B b4) else .ex (1,[]),c)
 | [],i,s,s',a4,h,_,_,_,_=>by
  cases h
  exact⟨a4,by simp;rfl⟩
 | r::rows,i,s,s',a4,h,hw,ha,hF,hB=>by
  rw [rd] at h
  rw [zlc] at hF hB
  cases r with
  | nil=>
   obtain⟨b4,e⟩:=b_all (R:=R) c rows (i+1) s s' a4 h hw (fun x m=>ha x (.tail _ m)) (by omega) (by omega)
   exact⟨b4,by rw [List.filter_cons_of_neg (by simp [neR]),e];rfl⟩
  | cons w0 ws=>
   cases e:step (w0::ws) s with
   | none=>rw [e] at h;cases h
   | some s1=>
    rw [e] at h
    obtain⟨h1,h2⟩:=ha _ zms
    have sl:=step_len e
    have st:=b_step (R:=R) h1 (by rw [zlc] at h2;omega) hw (by omega) (by omega) e c
    rw [List.filter_cons_of_pos (by simp [neR]),zmc,List.all_cons]
    cases ho:rowOk (w0::ws) with
    | false=>
     rw [ho] at st
     exact⟨a4,pfor_ex (v1:=E5 R s.F s.cnt s.B (some (.v (rwE (w0::ws))))) rfl st⟩
    | true=>
     rw [ho] at st
     obtain⟨b4,e2⟩:=b_all (R:=R) c rows (i+1) s1 s' (some (.v (rwE (w0::ws)))) h (step_wf e hw) (fun x m=>ha x (.tail _ m)) (by omega) (by omega)
     exact⟨b4,(pfor_nx (v1:=E5 R s.F s.cnt s.B (some (.v (rwE (w0::ws))))) rfl st).trans e2⟩
theorem build_g {rows:List Row}{s:Sp}(h:rd 0 Sp.nil rows=.inr s)(ha:∀r∈rows,AscR r∧r.length≤90000)(hl:rows.length≤90000)(c:Cs):g_build [.lst ((rows.filter neR).map rwE)] c=some (if rows.all rowOk=true then .ok (.tup (s.F.map El.e)) else .ex (1,[]),c):=by
 have s1:rAo 1 (yLst Zn) [some (.v (.lst ((rows.filter neR).map rwE))),none,none,none,none] c=some (.nx,[some (.v (.lst ((rows.filter neR).map rwE))),some (.o []),none,none,none],c):=ao_at (lst_at q_nil (by simp)) rfl
 have s2:rAs 2 (yC .non) [some (.v (.lst ((rows.filter neR).map rwE))),some (.o []),none,none,none] c=some (.nx,[some (.v (.lst ((rows.filter neR).map rwE))),some (.o []),some (.v .non),none,none],c):=as_at q_c rfl
 have s3:rAo 3 (yLst Zn) [some (.v (.lst ((rows.filter neR).map rwE))),some (.o []),some (.v .non),none,none] c=some (.nx,E5 (some (.v (.lst ((rows.filter neR).map rwE)))) [] none [] none,c):=ao_at (lst_at q_nil (by simp)) rfl
 obtain⟨b4,e4⟩:=b_all (R:=some (.v (.lst ((rows.filter neR).map rwE)))) c rows 0 Sp.nil s none h (fun _=>rfl) ha (by simp [Sp.nil];omega) (by simp [Sp.nil];omega)
 have it:jAny (Yv 0) (E5 (some (.v (.lst ((rows.filter neR).map rwE)))) [] none [] none) c=some ((rows.filter neR).map rwE,c):=rfl
 have s4:=(pfor_at (g:=qNm 4) (b:=l_build_0) it).trans e4
 cases ho:rows.all rowOk with
 | true=>
  rw [ho] at s4
  exact fnp_rt rfl ((psq_nx (ps_nx s1)).trans ((psq_nx (ps_nx s2)).trans ((psq_nx (ps_nx s3)).trans ((psq_nx s4).trans (ps_at (rt_at (y1_at (pko_at rfl) rfl)))))))
 | false=>
  rw [ho] at s4
  exact fnp_ex rfl ((psq_nx (ps_nx s1)).trans ((psq_nx (ps_nx s2)).trans ((psq_nx (ps_nx s3)).trans (psq_ex s4))))
def Li.ln (l:Li):Prop:=lnL l.1 l.2.2=some l.2.1
def El.ln:El→Prop
 | .ins l=>Li.ln l
 | .lp o b=>(∀l∈b,Li.ln l)∧∀k,o=.reg k→0≤k
def Sp.ln (s:Sp):Prop:=(∀l∈s.B,Li.ln l)∧(∀x∈s.F,x.ln)∧∀k,s.cnt=some (.reg k)→0≤k
theorem cls_nn {w:List Nat}{k:Int}(h:cls w=some (.reg k)):0≤k:=by
 unfold cls at h
 split at h
 ·cases h;omega
 ·obtain⟨n,_,e⟩:=zmm h
  cases e
theorem step_ln {r:Row}{s s':Sp}(h:step r s=some s')(w:s.ln):s'.ln:=by
 obtain⟨w1,w2,w3⟩:=w
 unfold step at h
 split at h
 ·cases h;exact⟨w1,w2,w3⟩
 ·split at h
  ·split at h
   ·obtain⟨o,ho,rfl⟩:=zmm h
    exact⟨fun l m=>(nomatch m),w2,fun k e=>cls_nn (by rw [ho];exact e)⟩
   ·cases h
  ·split at h
   ·split at h
    ·rename_i o e
     split at h
     ·cases h
     ·cases h
      refine⟨fun l m=>(nomatch m),fun x m=>?_,fun k e=>(nomatch e)⟩
      rcases zma m with m|m
      ·exact w2 x m
      ·obtain rfl:=zsg m
       exact⟨w1,fun k ek=>w3 k (by rw [e,ek])⟩
    ·cases h
   ·split at h
    ·rename_i bs eb
     split at h
     ·cases h
      refine⟨w1,fun x m=>?_,fun k e=>(nomatch e)⟩
      rcases zma m with m|m
      ·exact w2 x m
      ·obtain rfl:=zsg m
       exact eb
     ·rename_i o e
      cases h
      refine⟨fun l m=>?_,w2,fun k ek=>w3 k (by rw [e];exact ek)⟩
      rcases zma m with m|m
      ·exact w1 l m
      ·obtain rfl:=zsg m
       exact eb
    ·cases h
theorem rd_ln:∀ {rs:List Row} {i:Nat} {s s':Sp},rd i s rs=.inr s'→s.ln→s'.ln
 | [],_,_,_,h,w=>by cases h;exact w
 | r::rs,i,s,s',h,w=>by
  rw [rd] at h
  cases e:step r s with
  | none=>rw [e] at h;cases h
  | some s1=>
   rw [e] at h
   exact rd_ln h (step_ln e w)
theorem nil_ln:Sp.nil.ln:=⟨fun _ m=>(nomatch m),fun _ m=>(nomatch m),fun _ e=>(nomatch e)⟩
def El.big:El→Bool
 | .ins _=>false
 | .lp _ b=>decide (12<b.length)
theorem ln_ne {l:Li}(h:Li.ln l){k:List Nat}(hk:lkW k=none):l.1≠k:=by
 rintro rfl
 have:lnL l.1 l.2.2=some l.2.1:=h
 rw [lnL_none hk] at this
 cases this
theorem el_loop {x:El}(h:x.ln){v:Env2}{c:Cs}{i:Nat}(hv:v[i]?=some (some (.v x.e))):y2 V2.eqV (y2 ixV (yPk i) (yC (.int (0)))) (yC (.str "loop")) v c=some (.bl (match x with | .ins _=>false | .lp _ _=>true),c):=by
 cases x with
 | ins l=>
  refine y2_at (y2_at (pk_at hv) q_c (show ixV (insD l.1 l.2.1 l.2.2) (.int 0)=some (sW l.1) by unfold insD;rw [ixV_tup,atI_at (by decide)];rfl)) q_c ?_
  rw [l_loop,eqS,zdf (ln_ne h lk_loop)]
 | lp o b=>
  refine y2_at (y2_at (pk_at hv) q_c (show ixV (.tup [.str "loop",o.e,.tup (b.map liE)]) (.int 0)=some (.str "loop") by rw [ixV_tup,atI_at (by decide)];rfl)) q_c ?_
  rw [eqV_str]
  rfl
theorem el_len {o:Op}{b:List Li}{v:Env2}{c:Cs}{i:Nat}(hv:v[i]?=some (some (.v (El.lp o b).e))):y1 lenV (y2 ixV (yPk i) (yC (.int (2)))) v c=some (.int b.length,c):=by
 refine y1_at (y2_at (pk_at hv) q_c (show ixV (.tup [.str "loop",o.e,.tup (b.map liE)]) (.int 2)=some (.tup (b.map liE)) by rw [ixV_tup,atI_at (by decide)];rfl)) ?_
 show some (DV.int ((b.map liE).length:Nat))=_
 rw [zlm]
theorem gt12 (n:Nat):cmpV (fun i j=>decide (i>j)) (.int (n:Int)) (.int 12)=some (.bl (decide (12<n))):=by
 show some (DV.bl (decide ((n:Int)>12)))=_
 congr 2
 rw [decide_eq_decide]
 omega
theorem sizes_all {R:Option Sl}(c:Cs):∀(F:List El) (a1:Option Sl),(∀x∈F,x.ln)→∃b1,pFor.go (qNm 1) l_check_sizes_0 (F.map El.e) [R,a1] c=some (if F.any El.big=true then .ex (1,[]) else .ok (.nx,[R,b1]),c)
 | [],a1,_=>⟨a1,rfl⟩
 | x::F,a1,h=>by
  have hx:=h x zms
  obtain⟨b1,e⟩:=sizes_all (R:=R) c F (some (.v x.e)) fun y m=>h y (.tail _ m)
  have t:uAn (uBl (y2 V2.eqV (y2 ixV (yPk 1) (yC (.int (0)))) (yC (.str "loop")))) (uBl (y2 gtV (y1 lenV (y2 ixV (yPk 1) (yC (.int (2))))) (yC (.int (12))))) [R,some (.v x.e)] c=some (x.big,c):=by
   have t1:=el_loop (c:=c) (i:=1) hx (v:=[R,some (.v x.e)]) rfl
   cases x with
   | ins l=>exact uan_b (x:=false) (y:=false) (ubl_at t1) nofun
   | lp o b=>exact uan_b (x:=true) (ubl_at t1) fun _=>ubl_at (y2_at (el_len rfl) q_c (gt12 _))
  rw [zmc,List.any_cons]
  cases eb:x.big with
  | true=>
   rw [eb] at t
   exact⟨b1,pfor_ex (v1:=[R,some (.v x.e)]) rfl ((pif_t t).trans rfl)⟩
  | false=>
   rw [eb] at t
   exact⟨b1,(pfor_nx (v1:=[R,some (.v x.e)]) rfl ((pif_f t).trans rfl)).trans e⟩
def sizeB (F:List El):Bool:=decide (12<F.length)||F.any El.big
theorem sizes_g {F:List El}(h:∀x∈F,x.ln)(c:Cs):g_check_sizes [.tup (F.map El.e)] c=some (if sizeB F=true then .ex (1,[]) else .ok .non,c):=by
 have t:uBl (y2 gtV (y1 lenV (yPk 0)) (yC (.int (12)))) [some (.v (.tup (F.map El.e))),none] c=some (decide (12<F.length),c):=ubl_at (y2_at (y1_at (pk_at rfl) (show lenV (.tup (F.map El.e))=some (.int F.length) by show some (DV.int ((F.map El.e).length:Nat))=_;rw [zlm])) q_c (gt12 _))
 unfold sizeB
 cases h1:decide (12<F.length) with
 | true=>
  rw [h1] at t
  exact fnp_ex rfl (psq_ex ((pif_t t).trans rfl))
 | false=>
  rw [h1] at t
  rw [Bool.false_or]
  obtain⟨b1,e⟩:=sizes_all (R:=some (.v (.tup (F.map El.e)))) c F none h
  have s4:=(pfor_at (g:=qNm 1) (b:=l_check_sizes_0) (show jAny (Yv 0) [some (.v (.tup (F.map El.e))),none] c=some (F.map El.e,c) from rfl)).trans e
  cases h2:F.any El.big with
  | true=>
   rw [h2] at s4
   exact fnp_ex rfl ((psq_nx ((pif_f t).trans rfl)).trans s4)
  | false=>
   rw [h2] at s4
   exact fnp_nx rfl ((psq_nx ((pif_f t).trans rfl)).trans s4)
theorem large_str {n:Nat}(s:Str)(c:Cs):g_law_large_ (n+1) [.str s] c=some (.bl false,c):=by
 have t:uTru (y1 (isV "tuple") (yPk 0)) [some (.v (.str s)),none,none] c=some (false,c):=utru_at (y1_at (pk_at rfl) rfl) rfl
 have t2:∀b:T2,uAn (uTru (y1 (isV "tuple") (yPk 0))) b [some (.v (.str s)),none,none] c=some (false,c):=fun b=>by rw [q_uan,t];rfl
 exact fn_at rfl ((sq_nx ((rif_f (t2 _)).trans rfl)).trans ((sq_nx ((rif_f (t2 _)).trans rfl)).trans ((sq_nx ((rif_f t).trans rfl)).trans (rt_at q_c))))
theorem large_int {n:Nat}(i:Int)(c:Cs):g_law_large_ (n+1) [.int i] c=some (.bl false,c):=by
 have t:uTru (y1 (isV "tuple") (yPk 0)) [some (.v (.int i)),none,none] c=some (false,c):=utru_at (y1_at (pk_at rfl) rfl) rfl
 have t2:∀b:T2,uAn (uTru (y1 (isV "tuple") (yPk 0))) b [some (.v (.int i)),none,none] c=some (false,c):=fun b=>by rw [q_uan,t];rfl
 exact fn_at rfl ((sq_nx ((rif_f (t2 _)).trans rfl)).trans ((sq_nx ((rif_f (t2 _)).trans rfl)).trans ((sq_nx ((rif_f t).trans rfl)).trans (rt_at q_c))))
theorem large_op {n:Nat}{o:Op}(h:∀k,o=.reg k→0≤k)(c:Cs):g_law_large_ (n+1) [o.e] c=some (.bl (!okO o),c):=by
 cases o with
 | reg k=>
  have hk:=h k rfl
  have t:uAn (uTru (y1 (isV "tuple") (yPk 0))) (uAn (uBl (y2 V2.eqV (y1 lenV (yPk 0)) (yC (.int (2))))) (uBl (y2 V2.eqV (y2 ixV (yPk 0) (yC (.int (0)))) (yC (.str "reg"))))) [some (.v (Op.reg k).e),none,none] c=some (true,c):=
   uan_b (x:=true) (utru_at (y1_at (pk_at rfl) rfl) rfl) fun _=>uan_b (x:=true) (y:=true) (ubl_at (y2_at (y1_at (pk_at rfl) rfl) q_c (by rw [eqV_int];rfl))) fun _=>ubl_at (y2_at (y2_at (pk_at rfl) q_c rfl) q_c (by rw [eqV_str];rfl))
  refine fn_at rfl (sq_rt ((rif_t t).trans (rt_at (bl_eq (y2_at (y2_at (pk_at rfl) q_c rfl) q_c (show cmpV (fun i j=>decide (i>j)) (.int k) (.int 15)=some (.bl (decide (k>15))) from rfl)) ?_))))
  show decide (k>15) = !decide (0≤k∧k≤15)
  by_cases z:k>15
  ·rw [zdt z,zdf (by omega)];rfl
  ·rw [zdf z,zdt (by omega)];rfl
 | int k=>
  have t:uAn (uTru (y1 (isV "tuple") (yPk 0))) (uAn (uBl (y2 V2.eqV (y1 lenV (yPk 0)) (yC (.int (2))))) (uBl (y2 V2.eqV (y2 ixV (yPk 0) (yC (.int (0)))) (yC (.str "reg"))))) [some (.v (Op.int k).e),none,none] c=some (false,c):=
   uan_b (x:=true) (y:=false) (utru_at (y1_at (pk_at rfl) rfl) rfl) fun _=>uan_b (x:=true) (y:=false) (ubl_at (y2_at (y1_at (pk_at rfl) rfl) q_c (by rw [eqV_int];rfl))) fun _=>ubl_at (y2_at (y2_at (pk_at rfl) q_c rfl) q_c (by rw [eqV_str];rfl))
  have t2:uAn (uTru (y1 (isV "tuple") (yPk 0))) (uAn (uBl (y2 V2.eqV (y1 lenV (yPk 0)) (yC (.int (2))))) (uBl (y2 V2.eqV (y2 ixV (yPk 0) (yC (.int (0)))) (yC (.str "int"))))) [some (.v (Op.int k).e),none,none] c=some (true,c):=
   uan_b (x:=true) (y:=true) (utru_at (y1_at (pk_at rfl) rfl) rfl) fun _=>uan_b (x:=true) (y:=true) (ubl_at (y2_at (y1_at (pk_at rfl) rfl) q_c (by rw [eqV_int];rfl))) fun _=>ubl_at (y2_at (y2_at (pk_at rfl) q_c rfl) q_c (by rw [eqV_str];rfl))
  refine fn_at rfl ((sq_nx ((rif_f t).trans rfl)).trans (sq_rt ((rif_t t2).trans (rt_at (bl_eq (or_b (x:=decide (k<0-2147483648)) (y:=decide (k>2147483647)) (y2_at (y2_at (pk_at rfl) q_c rfl) (y2_at q_c q_c rfl) rfl) fun _=>y2_at (y2_at (pk_at rfl) q_c rfl) q_c rfl) ?_)))))
  unfold okO
  rw [Bool.eq_iff_iff]
  simp
theorem large_tup {n:Nat}{d0:DV}{ds:List DV}{f:DV→Bool}{wd:Bool}(c:Cs)(hl:(d0::ds).length≤100000)
  (h1:ds.length=1→V2.eqV d0 (.str "reg")=some (.bl false)) (h2:ds.length=1→V2.eqV d0 (.str "int")=some (.bl false))
  (hw:yAn (y2 gtV (y1 lenV (yPk 0)) (yC (.int (2)))) (yAn (y1 (isV "str") (y2 ixV (yPk 0) (yC (.int (0))))) (yAn (y1 (isV "int") (y2 ixV (yPk 0) (yC (.int (1))))) (y2 gtV (y2 ixV (yPk 0) (yC (.int (1)))) (yC (.int (15)))))) [some (.v (.tup (d0::ds))),none,none] c=some (.bl wd,c))
  (hf:∀d∈d0::ds,g_law_large_ n [d] c=some (.bl (f d),c)):g_law_large_ (n+1) [.tup (d0::ds)] c=some (.bl (wd||(d0::ds).any f),c):=by
 have lenE:lenV (.tup (d0::ds))=some (.int ((ds.length:Int)+1)):=by
  show some (DV.int ((d0::ds).length:Nat))=_
  rw [zlc,Int.natCast_add]
  rfl
 have hix:ixV (.tup (d0::ds)) (.int 0)=some d0:=by rw [ixV_tup,atI_at (by decide)];rfl
 have t0:uTru (y1 (isV "tuple") (yPk 0)) [some (.v (.tup (d0::ds))),none,none] c=some (true,c):=utru_at (y1_at (pk_at rfl) rfl) rfl
 have tl:uBl (y2 V2.eqV (y1 lenV (yPk 0)) (yC (.int (2)))) [some (.v (.tup (d0::ds))),none,none] c=some (decide (ds.length=1),c):=ubl_at (y2_at (y1_at (pk_at rfl) lenE) q_c (by
  rw [eqV_int]
  congr 2
  rw [decide_eq_decide]
  omega))
 have t1:uAn (uTru (y1 (isV "tuple") (yPk 0))) (uAn (uBl (y2 V2.eqV (y1 lenV (yPk 0)) (yC (.int (2))))) (uBl (y2 V2.eqV (y2 ixV (yPk 0) (yC (.int (0)))) (yC (.str "reg"))))) [some (.v (.tup (d0::ds))),none,none] c=some (true&&(decide (ds.length=1)&&false),c):=
  uan_b t0 fun _=>uan_b tl fun z=>ubl_at (y2_at (y2_at (pk_at rfl) q_c hix) q_c (h1 (of_decide_eq_true z)))
 have t2:uAn (uTru (y1 (isV "tuple") (yPk 0))) (uAn (uBl (y2 V2.eqV (y1 lenV (yPk 0)) (yC (.int (2))))) (uBl (y2 V2.eqV (y2 ixV (yPk 0) (yC (.int (0)))) (yC (.str "int"))))) [some (.v (.tup (d0::ds))),none,none] c=some (true&&(decide (ds.length=1)&&false),c):=
  uan_b t0 fun _=>uan_b tl fun z=>ubl_at (y2_at (y2_at (pk_at rfl) q_c hix) q_c (h2 (of_decide_eq_true z)))
 rw [Bool.and_false,Bool.and_false] at t1 t2
 have s3:rAs 1 (yAn (y2 gtV (y1 lenV (yPk 0)) (yC (.int (2)))) (yAn (y1 (isV "str") (y2 ixV (yPk 0) (yC (.int (0))))) (yAn (y1 (isV "int") (y2 ixV (yPk 0) (yC (.int (1))))) (y2 gtV (y2 ixV (yPk 0) (yC (.int (1)))) (yC (.int (15))))))) [some (.v (.tup (d0::ds))),none,none] c=some (.nx,[some (.v (.tup (d0::ds))),some (.v (.bl wd)),none],c):=as_at hw rfl
 have a4:y1 anyV (yLc [2] (jAny (yPk 0)) (qNm 2) uYs (Yc 1 (g_law_large_ n) (zCons (Yv 2) Zn))) [some (.v (.tup (d0::ds))),some (.v (.bl wd)),none] c=some (.bl ((d0::ds).any f),c):=by
  have hall:=lc_all (g:=qNm 2) (a:=Yc 1 (g_law_large_ n) (zCons (Yv 2) Zn)) (v:=[some (.v (.tup (d0::ds))),some (.v (.bl wd)),none]) (c:=c) id (fun d=>DV.bl (f d)) (d0::ds) fun d m=>⟨_,rfl,(Caa (zcons_at (Vaa rfl) q_nil) rfl).trans (hf d m)⟩
  rw [List.map_id] at hall
  refine y1_at (lc_at (jany_at (pk_at rfl) rfl) hl rfl hall) ?_
  show(blsD ((d0::ds).map fun d=>DV.bl (f d))).map _=_
  rw [blsD_map]
  show some (DV.bl (((d0::ds).map f).any id))=_
  rw [List.any_map]
  rfl
 exact fn_at rfl ((sq_nx ((rif_f t1).trans rfl)).trans ((sq_nx ((rif_f t2).trans rfl)).trans (sq_rt ((rif_t t0).trans ((sq_nx s3).trans (rt_at (or_b (Vaa rfl) fun _=>a4)))))))
theorem large_nil {n:Nat}(c:Cs):g_law_large_ (n+1) [.tup []] c=some (.bl false,c):=by
 have t0:uTru (y1 (isV "tuple") (yPk 0)) [some (.v (.tup [])),none,none] c=some (true,c):=utru_at (y1_at (pk_at rfl) rfl) rfl
 have tl:uBl (y2 V2.eqV (y1 lenV (yPk 0)) (yC (.int (2)))) [some (.v (.tup [])),none,none] c=some (false,c):=ubl_at (y2_at (y1_at (pk_at rfl) rfl) q_c (by rw [eqV_int];rfl))
 have t1:∀b:T2,uAn (uTru (y1 (isV "tuple") (yPk 0))) (uAn (uBl (y2 V2.eqV (y1 lenV (yPk 0)) (yC (.int (2))))) b) [some (.v (.tup [])),none,none] c=some (false,c):=fun b=>uan_b (x:=true) (y:=false) t0 fun _=>uan_b (x:=false) (y:=false) tl nofun
 have s3:rAs 1 (yAn (y2 gtV (y1 lenV (yPk 0)) (yC (.int (2)))) (yAn (y1 (isV "str") (y2 ixV (yPk 0) (yC (.int (0))))) (yAn (y1 (isV "int") (y2 ixV (yPk 0) (yC (.int (1))))) (y2 gtV (y2 ixV (yPk 0) (yC (.int (1)))) (yC (.int (15))))))) [some (.v (.tup [])),none,none] c=some (.nx,[some (.v (.tup [])),some (.v (.bl false)),none],c):=as_at (an_b (x:=false) (y:=false) (y2_at (y1_at (pk_at rfl) rfl) q_c rfl) nofun) rfl
 exact fn_at rfl ((sq_nx ((rif_f (t1 _)).trans rfl)).trans ((sq_nx ((rif_f (t1 _)).trans rfl)).trans (sq_rt ((rif_t t0).trans ((sq_nx s3).trans (rt_at (or_b (x:=false) (y:=false) (Vaa rfl) fun _=>y1_at (lc_at (ds:=[]) (jany_at (pk_at rfl) rfl) (by simp) rfl rfl) rfl)))))))
def fL (n:Nat)(c:Cs)(d:DV):Bool:=match g_law_large_ n [d] c with
 | some (.bl b,_)=>b
 | _=>false
theorem fL_of {n:Nat}{c:Cs}{d:DV}{b:Bool}(h:g_law_large_ n [d] c=some (.bl b,c)):fL n c d=b:=by
 unfold fL
 rw [h]
theorem fL_at {n:Nat}{c:Cs}{d:DV}{b:Bool}(h:g_law_large_ n [d] c=some (.bl b,c)):g_law_large_ n [d] c=some (.bl (fL n c d),c):=by rw [fL_of h];exact h
abbrev wideT:E2:=yAn (y2 gtV (y1 lenV (yPk 0)) (yC (.int (2)))) (yAn (y1 (isV "str") (y2 ixV (yPk 0) (yC (.int (0))))) (yAn (y1 (isV "int") (y2 ixV (yPk 0) (yC (.int (1))))) (y2 gtV (y2 ixV (yPk 0) (yC (.int (1)))) (yC (.int (15))))))
theorem ix0_tup {d:DV}{ds:List DV}:ixV (.tup (d::ds)) (.int 0)=some d:=by rw [ixV_tup,atI_at (by decide)];rfl
theorem ix1_tup {d e:DV}{ds:List DV}:ixV (.tup (d::e::ds)) (.int 1)=some e:=by rw [ixV_tup,atI_at (by decide)];rfl
theorem len_gt2 {ds:List DV}{v:Env2}{c:Cs}(hv:v[0]?=some (some (.v (.tup ds)))):y2 gtV (y1 lenV (yPk 0)) (yC (.int (2))) v c=some (.bl (decide (2<ds.length)),c):=by
 refine y2_at (y1_at (pk_at hv) (show lenV (.tup ds)=some (.int ds.length) from rfl)) q_c ?_
 show some (DV.bl (decide ((ds.length:Int)>2)))=_
 congr 2
 rw [decide_eq_decide]
 omega
theorem y2_at_is {ty:String}{d x r:DV}{k:Int}{v:Env2}{c:Cs}(h:ixV d (.int k)=some x)(h2:isV ty x=some r)(hv:v[0]?=some (some (.v d)):=by rfl):y1 (isV ty) (y2 ixV (yPk 0) (yC (.int k))) v c=some (r,c):=y1_at (y2_at (pk_at hv) q_c h) h2
theorem wide_int {s:Str}{k:Int}{e:DV}{r:List DV}(c:Cs):wideT [some (.v (.tup (.str s::.int k::e::r))),none,none] c=some (.bl (decide (k>15)),c):=
 bl_eq (an_b (len_gt2 rfl) fun _=>an_b (x:=true) (y2_at_is (ix0_tup) rfl) fun _=>an_b (x:=true) (y2_at_is ix1_tup rfl) fun _=>y2_at (y2_at (pk_at rfl) q_c ix1_tup) q_c rfl) (by simp)
theorem wide_tup {s:Str}{t:List DV}{r:List DV}(c:Cs):wideT [some (.v (.tup (.str s::.tup t::r))),none,none] c=some (.bl false,c):=
 bl_eq (an_b (y:=false) (len_gt2 rfl) fun _=>an_b (x:=true) (y:=false) (y2_at_is (ix0_tup) rfl) fun _=>an_b (x:=false) (y:=false) (y2_at_is ix1_tup rfl) nofun) (by simp)
theorem wide_tt {t:List DV}{r:List DV}(c:Cs):wideT [some (.v (.tup (.tup t::r))),none,none] c=some (.bl false,c):=
 bl_eq (an_b (y:=false) (len_gt2 rfl) fun _=>an_b (x:=false) (y:=false) (y2_at_is (ix0_tup) rfl) nofun) (by simp)
theorem tab_shapes:∀p∈T_FORMS,p.2.map tgB=[true,false,false]∨p.2.map tgB=[true,false]∨p.2.map tgB=[false,false]∨p.2.map tgB=[false]:=by decide
theorem rv_t {w:List Nat}(h:wrt true w=true):∃k:Int,0≤k∧rv true w=.int k∧okW w=decide (k≤15):=by
 obtain⟨o,ho,hr,hk⟩:=wrt_cls h
 obtain⟨k,rfl⟩:=hk rfl
 have hn:=cls_nn ho
 refine⟨k,hn,hr,?_⟩
 unfold okW
 rw [ho]
 show decide (0≤k∧k≤15)=_
 rw [decide_eq_decide]
 omega
theorem rv_f {w:List Nat}(h:wrt false w=true):∃o:Op,rv false w=o.e∧okW w=okO o∧(∀k,o=.reg k→0≤k)∧∃t,o.e=.tup t:=by
 obtain⟨o,ho,hr,_⟩:=wrt_cls h
 refine⟨o,hr,by unfold okW;rw [ho],fun k e=>cls_nn (by rw [ho,e]),?_⟩
 cases o<;>exact⟨_,rfl⟩
theorem lk_no {k:List Nat}{bs:List Bool}(h:lkW k=some bs):k≠[114,101,103]∧k≠[105,110,116]:=by
 constructor
 ·rintro rfl
  rw [show lkW [114,101,103]=none by decide] at h
  cases h
 ·rintro rfl
  rw [show lkW [105,110,116]=none by decide] at h
  cases h
theorem l_reg:("reg":Str)=TS' [114,101,103]:=by decide
theorem l_int:("int":Str)=TS' [105,110,116]:=by decide
theorem large_ins {n:Nat}{l:Li}(h:Li.ln l)(c:Cs):g_law_large_ (n+2) [liE l] c=some (.bl (!liOk l),c):=by
 obtain⟨w0,bs,ws⟩:=l
 have h:lnL w0 ws=some bs:=h
 cases e0:lkW w0 with
 | none=>rw [lnL_none e0] at h;cases h
 | some bs'=>
  rw [lnL_some e0] at h
  split at h
  ·rename_i cond
   cases h
   obtain⟨hl,hw⟩:=cond
   obtain⟨p,hp,_,hbs,_⟩:=lk_mem e0
   obtain⟨n1,n2⟩:=lk_no e0
   have q1:V2.eqV (sW w0) (.str "reg")=some (.bl false):=by rw [l_reg,eqS,zdf n1]
   have q2:V2.eqV (sW w0) (.str "int")=some (.bl false):=by rw [l_int,eqS,zdf n2]
   have f0:g_law_large_ (n+1) [sW w0] c=some (.bl false,c):=large_str _ c
   show g_law_large_ (n+2) [insD w0 bs ws] c=some (.bl (!okL bs ws),c)
   unfold insD okL
   have sh:=tab_shapes p hp
   rw [←hbs] at sh
   rcases sh with rfl|rfl|rfl|rfl
   ·match ws,hl with
    | [a,b,d],_=>
     simp only [List.zip_cons_cons,List.zip_nil_right,List.all_cons,List.all_nil,Bool.and_true,Bool.and_eq_true] at hw
     obtain⟨ha,hb,hd⟩:=hw
     obtain⟨k,k0,ek,ok⟩:=rv_t ha
     obtain⟨o,eo,oo,on,t,et⟩:=rv_f hb
     obtain⟨o2,eo2,oo2,on2,t2,et2⟩:=rv_f hd
     have fa:=large_int (n:=n) k c
     have fb:=large_op (n:=n) on c
     have fd:=large_op (n:=n) on2 c
     simp only [List.zip_cons_cons,List.zip_nil_right,zmc,List.map_nil,List.all_cons,List.all_nil,Bool.and_true,ek,eo,eo2,ok,oo,oo2]
     refine bl_eq (large_tup (f:=fL (n+1) c) c (by simp) (fun _=>q1) (fun _=>q2) (wide_int c) fun d m=>?_) ?_
     ·simp only [List.mem_cons,List.not_mem_nil,or_false] at m
      rcases m with rfl|rfl|rfl|rfl
      ·exact fL_at f0
      ·exact fL_at fa
      ·exact fL_at fb
      ·exact fL_at fd
     ·simp only [List.any_cons,List.any_nil,fL_of f0,fL_of fa,fL_of fb,fL_of fd,Bool.false_or,Bool.or_false,Bool.not_and]
      congr 1
      rw [Bool.eq_iff_iff]
      simp
   ·match ws,hl with
    | [a,b],_=>
     simp only [List.zip_cons_cons,List.zip_nil_right,List.all_cons,List.all_nil,Bool.and_true,Bool.and_eq_true] at hw
     obtain⟨ha,hb⟩:=hw
     obtain⟨k,k0,ek,ok⟩:=rv_t ha
     obtain⟨o,eo,oo,on,t,et⟩:=rv_f hb
     have fa:=large_int (n:=n) k c
     have fb:=large_op (n:=n) on c
     simp only [List.zip_cons_cons,List.zip_nil_right,zmc,List.map_nil,List.all_cons,List.all_nil,Bool.and_true,ek,eo,ok,oo]
     refine bl_eq (large_tup (f:=fL (n+1) c) c (by simp) (fun _=>q1) (fun _=>q2) (wide_int c) fun d m=>?_) ?_
     ·simp only [List.mem_cons,List.not_mem_nil,or_false] at m
      rcases m with rfl|rfl|rfl
      ·exact fL_at f0
      ·exact fL_at fa
      ·exact fL_at fb
     ·simp only [List.any_cons,List.any_nil,fL_of f0,fL_of fa,fL_of fb,Bool.false_or,Bool.or_false,Bool.not_and]
      congr 1
      rw [Bool.eq_iff_iff]
      simp
   ·match ws,hl with
    | [a,b],_=>
     simp only [List.zip_cons_cons,List.zip_nil_right,List.all_cons,List.all_nil,Bool.and_true,Bool.and_eq_true] at hw
     obtain⟨ha,hb⟩:=hw
     obtain⟨o2,eo2,oo2,on2,t2,et2⟩:=rv_f ha
     obtain⟨o,eo,oo,on,t,et⟩:=rv_f hb
     have fa:=large_op (n:=n) on2 c
     have fb:=large_op (n:=n) on c
     simp only [List.zip_cons_cons,List.zip_nil_right,zmc,List.map_nil,List.all_cons,List.all_nil,Bool.and_true,eo,eo2,oo,oo2]
     refine bl_eq (large_tup (f:=fL (n+1) c) c (by simp) (fun _=>q1) (fun _=>q2) (by rw [et2];exact wide_tup c) fun d m=>?_) ?_
     ·simp only [List.mem_cons,List.not_mem_nil,or_false] at m
      rcases m with rfl|rfl|rfl
      ·exact fL_at f0
      ·exact fL_at fa
      ·exact fL_at fb
     ·simp only [List.any_cons,List.any_nil,fL_of f0,fL_of fa,fL_of fb,Bool.false_or,Bool.or_false,Bool.not_and]
   ·match ws,hl with
    | [b],_=>
     simp only [List.zip_cons_cons,List.zip_nil_right,List.all_cons,List.all_nil,Bool.and_true] at hw
     obtain⟨o,eo,oo,on,t,et⟩:=rv_f hw
     have fb:=large_op (n:=n) on c
     simp only [List.zip_cons_cons,List.zip_nil_right,zmc,List.map_nil,List.all_cons,List.all_nil,Bool.and_true,eo,oo]
     refine bl_eq (large_tup (f:=fL (n+1) c) c (by simp) (fun _=>q1) (fun _=>q2) (by rw [et];exact wide_tup c) fun d m=>?_) ?_
     ·simp only [List.mem_cons,List.not_mem_nil,or_false] at m
      rcases m with rfl|rfl
      ·exact fL_at f0
      ·exact fL_at fb
     ·simp only [List.any_cons,List.any_nil,fL_of f0,fL_of fb,Bool.false_or,Bool.or_false]
  ·cases h
open PySem PyData in
theorem eq_ts {n:Nat}{ds:List DV}(h:Good n (.tup ds))(hn:n≤60){s:Str}(hs:PySem.PyData.strOk s=true):V2.eqV (.tup ds) (.str s)=some (.bl false):=by
 obtain⟨x,h1,h2,h3⟩:=h
 have s1:SeqAt.shaped x=true:=by
  unfold SeqAt.shaped
  rw [Bool.and_eq_true]
  exact⟨h2,zdt (by omega)⟩
 have s2:SeqAt.shaped (.str s)=true:=by
  unfold SeqAt.shaped
  rw [Bool.and_eq_true]
  exact⟨by simp [canLay0,hs],zdt (by simp only [depth];omega)⟩
 obtain⟨xs,e,rfl⟩:=zmm (show(toDVs ds).map PyData.tuple=some x from h1)
 have:eqVB (.tup ds) (.str s)=some false:=by
  show eqVBg _ _=_
  unfold eqVBg
  rw [show toDVm (.tup ds)=some (.tuple xs) from h1,show toDVm (.str s)=some (.str s) from rfl]
  simp only [zob]
  rw [if_pos ⟨s1,s2⟩]
  rfl
 unfold V2.eqV
 rw [this]
 rfl
theorem tab_ok:∀p∈T_FORMS,PySem.PyData.strOk p.1=true:=by decide +kernel
theorem li_good {l:Li}(h:Li.ln l):Good 2 (liE l):=by
 obtain⟨w0,bs,ws⟩:=l
 have h:lnL w0 ws=some bs:=h
 cases e0:lkW w0 with
 | none=>rw [lnL_none e0] at h;cases h
 | some bs'=>
  obtain⟨p,hp,hs,_,_⟩:=lk_mem e0
  show Good 2 (insD w0 bs ws)
  refine good_tup fun d m=>?_
  rcases zmo m with rfl|m
  ·refine(good_str ?_).up (by decide)
   rw [hs]
   exact tab_ok p hp
  ·obtain⟨q,_,rfl⟩:=List.mem_map.mp m
   exact rv_good _ _
theorem lis_good {b:List Li}(h:∀l∈b,Li.ln l):Good 3 (.tup (b.map liE)):=good_tup fun d m=>by
 obtain⟨l,hl,rfl⟩:=List.mem_map.mp m
 exact li_good (h l hl)
theorem el_good {x:El}(h:x.ln):Good 4 x.e:=by
 cases x with
 | ins l=>exact(li_good h).up (by decide)
 | lp o b=>
  refine good_tup fun d m=>?_
  simp only [List.mem_cons,List.not_mem_nil,or_false] at m
  rcases m with rfl|rfl|rfl
  ·exact(good_str (by decide +kernel)).up (by decide)
  ·exact o.good.up (by decide)
  ·exact lis_good h.1
theorem ok_reg:PySem.PyData.strOk "reg"=true:=by decide +kernel
theorem ok_int:PySem.PyData.strOk "int"=true:=by decide +kernel
theorem any_fL {α:Type}{n:Nat}{c:Cs}(e:α→DV)(g:α→Bool):∀(xs:List α),(∀x∈xs,g_law_large_ n [e x] c=some (.bl (!g x),c))→(xs.map e).any (fL n c) = !xs.all g
 | [],_=>rfl
 | x::xs,h=>by
  rw [zmc,List.any_cons,List.all_cons,fL_of (h x zms),any_fL e g xs fun y m=>h y (.tail _ m),Bool.not_and]
theorem large_lis {n:Nat}(c:Cs){b:List Li}(h:∀l∈b,Li.ln l)(hl:b.length≤100000):g_law_large_ (n+3) [.tup (b.map liE)] c=some (.bl (!b.all liOk),c):=by
 cases b with
 | nil=>exact large_nil c
 | cons l r=>
  obtain⟨t,et⟩:∃t,liE l=.tup t:=⟨_,rfl⟩
  have hg:=li_good (h l zms)
  rw [et] at hg
  refine bl_eq (large_tup (n:=n+2) (d0:=liE l) (ds:=r.map liE) (f:=fL (n+2) c) (wd:=false) c (by rw [zlc,zlm];simpa using hl) (fun _=>by rw [et];exact eq_ts hg (by decide) ok_reg) (fun _=>by rw [et];exact eq_ts hg (by decide) ok_int) (by rw [et];exact wide_tt c) fun d m=>?_) ?_
  ·obtain⟨x,hx,rfl⟩:=List.mem_map.mp (show d∈(l::r).map liE from m)
   exact fL_at (large_ins (h x hx) c)
  ·rw [Bool.false_or]
   exact any_fL liE liOk (l::r) fun x hx=>large_ins (h x hx) c
theorem large_el {n:Nat}(c:Cs){x:El}(h:x.ln)(hb:∀o b,x=.lp o b→b.length≤100000):g_law_large_ (n+4) [x.e] c=some (.bl (!x.okb),c):=by
 cases x with
 | ins l=>exact large_ins h c
 | lp o b=>
  have f0:=large_str (n:=n+2) "loop" c
  have f1:=large_op (n:=n+2) h.2 c
  have f2:=large_lis (n:=n) c h.1 (hb o b rfl)
  obtain⟨t,et⟩:∃t,o.e=.tup t:=by cases o<;>exact⟨_,rfl⟩
  refine bl_eq (large_tup (n:=n+3) (d0:=.str "loop") (ds:=[o.e,.tup (b.map liE)]) (f:=fL (n+3) c) (wd:=false) c (by simp) (fun z=>by simp at z) (fun z=>by simp at z) (by rw [et];exact wide_tup c) fun d m=>?_) ?_
  ·simp only [List.mem_cons,List.not_mem_nil,or_false] at m
   rcases m with rfl|rfl|rfl
   ·exact fL_at f0
   ·exact fL_at f1
   ·exact fL_at f2
  ·simp only [List.any_cons,List.any_nil,fL_of f0,fL_of f1,fL_of f2,Bool.false_or,Bool.or_false,El.okb,Bool.not_and]
theorem large_prog (c:Cs){F:List El}(h:∀x∈F,x.ln)(hl:F.length≤100000)(hb:∀o b,El.lp o b∈F→b.length≤100000):g_law_large [.tup (F.map El.e)] c=some (.bl (!F.all El.okb),c):=by
 show g_law_large_ (15+5) _ c=_
 cases F with
 | nil=>exact large_nil c
 | cons x r=>
  obtain⟨t,et⟩:∃t,x.e=.tup t:=by cases x<;>exact⟨_,rfl⟩
  have hg:=el_good (h x zms)
  rw [et] at hg
  have hh:∀y∈x::r,g_law_large_ (15+4) [y.e] c=some (.bl (!y.okb),c):=fun y m=>large_el c (h y m) fun o b e=>hb o b (e▸m)
  refine bl_eq (large_tup (n:=15+4) (d0:=x.e) (ds:=r.map El.e) (f:=fL (15+4) c) (wd:=false) c (by rw [zlc,zlm];simpa using hl) (fun _=>by rw [et];exact eq_ts hg (by decide) ok_reg) (fun _=>by rw [et];exact eq_ts hg (by decide) ok_int) (by rw [et];exact wide_tt c) fun d m=>?_) ?_
  ·obtain⟨y,hy,rfl⟩:=List.mem_map.mp (show d∈(x::r).map El.e from m)
   exact fL_at (hh y hy)
  ·rw [Bool.false_or]
   exact any_fL El.e El.okb (x::r) hh
inductive Tell where
 | parse (k:Nat)|limit|good (F:List El)
def Tell.e:Tell→DV
 | .parse k=>.lst [.str "parse",.int (k:Int),.bl true]
 | .limit=>.lst [.str "limit",.bl true]
 | .good F=>.lst [.str "good",.tup (F.map El.e)]
def tellOf (rows:List Row):Tell:=match rd 0 Sp.nil rows with
 | .inl k=>.parse k
 | .inr s=>match s.cnt with
  | some _=>.parse rows.length
  | none=>if rows.all rowOk=true∧sizeB s.F=false then .good s.F else .limit
def tell (t:List Nat)(rows:List Row):Tell:=if 4000<t.length then .limit else tellOf rows
def Tell.r:Tell→R2 DV
 | .parse k=>.ex (2,[("line",(k:Int))])
 | .limit=>.ex (1,[])
 | .good F=>.ok (.tup (F.map El.e))
theorem pex_ok {a:E2W}{v:Env2}{c c1:Cs}{d:DV}(h:a v c=some (.ok d,c1)):pEx a v c=some (.ok (.nx,v),c1):=by
 unfold pEx
 rw [h]
 rfl
theorem pex_ex {a:E2W}{v:Env2}{c c1:Cs}{x:X2}(h:a v c=some (.ex x,c1)):pEx a v c=some (.ex x,c1):=by
 unfold pEx
 rw [h]
 rfl
theorem gt4000 (n:Nat):cmpV (fun i j=>decide (i>j)) (.int (n:Int)) (.int 4000)=some (.bl (decide (4000<n))):=by
 show some (DV.bl (decide ((n:Int)>4000)))=_
 congr 2
 rw [decide_eq_decide]
 omega
theorem filt_rw (rows:List Row):rows.filterMap (fun r=>if neR r=true then some (rwE r) else none)=(rows.filter neR).map rwE:=by
 induction rows with
 | nil=>rfl
 | cons w ws ih=>
  rw [List.filterMap_cons,List.filter_cons]
  cases neR w
  ·simpa using ih
  ·simpa using ih
theorem parse_g {t:List Nat}(h1:t.length≤80000)(ht:∀x∈TL.spl [10] 0 [] t,Okt x)(c:Cs):g_parse [sW t] c=some ((tell t ((TL.spl [10] 0 [] t).map wordsOf)).r,c):=by
 have hlen:=(spl_len 10 t []).1
 generalize hL:TL.spl [10] 0 [] t=L at *
 have hrows:∀r∈L.map wordsOf,AscR r∧r.length≤90000:=fun r m=>by
  obtain⟨x,hx,rfl⟩:=List.mem_map.mp m
  exact⟨(ht x hx).2.1,(ht x hx).2.2⟩
 have hn:(L.map wordsOf).length≤90000:=by rw [zlm];omega
 have t1:uBl (y2 gtV (y1 lenV (yPk 0)) (yC (.int (4000)))) [some (.v (sW t)),none,none,none,none] c=some (decide (4000<t.length),c):=ubl_at (y2_at (y1_at (pk_at rfl) (lenS (by omega))) q_c (gt4000 _))
 unfold tell
 by_cases h4:4000<t.length
 ·rw [zdt h4] at t1
  rw [if_pos h4]
  exact fnp_ex rfl (psq_ex ((pif_t t1).trans rfl))
 ·rw [zdf h4] at t1
  rw [if_neg h4]
  have s2:rAs 1 (yLc [3] (jAny (y2 splitV (yPk 0) (yC (.str "\n")))) (qNm 3) uYs (Yc 1 g_words_of (zCons (Yv 3) Zn))) [some (.v (sW t)),none,none,none,none] c=some (.nx,[some (.v (sW t)),some (.v (.lst ((L.map wordsOf).map rwE))),none,none,none],c):=by
   refine as_at (lc_at (ds:=L.map sW) (jany_at (y2_at (pk_at rfl) q_c (by rw [l_n];exact(show splitV (sW t) (sW [10])=some (.lst (L.map sW)) by rw [split_V (by decide) (by omega),hL]))) rfl) (by rw [zlm];omega) rfl ?_) rfl
   have hall:=lc_all (g:=qNm 3) (a:=Yc 1 g_words_of (zCons (Yv 3) Zn)) (v:=wipe2 [some (.v (sW t)),none,none,none,none] [3]) (c:=c) sW (fun x=>rwE (wordsOf x)) L fun x m=>⟨[some (.v (sW t)),none,none,some (.v (sW x)),none],rfl,(Caa (ds:=[sW x]) (zcons_at (Vaa rfl) q_nil) rfl).trans (words_g (ht x m).1 c)⟩
   rw [hall,List.map_map]
   rfl
  generalize hR:L.map wordsOf=rows at *
  have fg:=forms_g hrows hn c
  have c3:pCall 1 g_check_forms (zCons (Yv 1) Zn) [some (.v (sW t)),some (.v (.lst (rows.map rwE))),none,none,none] c=some (formsR rows.length (rd 0 Sp.nil rows),c):=(pcall_at (ds:=[.lst (rows.map rwE)]) (zcons_at (Vaa rfl) q_nil) rfl).trans fg
  have pre:pS (rAs 1 (yLc [3] (jAny (y2 splitV (yPk 0) (yC (.str "\n")))) (qNm 3) uYs (Yc 1 g_words_of (zCons (Yv 3) Zn)))) [some (.v (sW t)),none,none,none,none] c=some (.ok (.nx,[some (.v (sW t)),some (.v (.lst (rows.map rwE))),none,none,none]),c):=ps_at s2
  unfold tellOf
  cases er:rd 0 Sp.nil rows with
  | inl k=>
   rw [er] at c3
   exact fnp_ex rfl ((psq_nx ((pif_f t1).trans rfl)).trans ((psq_nx pre).trans (psq_ex (pex_ex c3))))
  | inr s=>
   rw [er] at c3
   cases hc:s.cnt with
   | some o=>
    have c3:pCall 1 g_check_forms (zCons (Yv 1) Zn) [some (.v (sW t)),some (.v (.lst (rows.map rwE))),none,none,none] c=some (.ex (2,[("line",(rows.length:Int))]),c):=by rw [c3];unfold formsR;simp only [hc]
    simp only [hc]
    exact fnp_ex rfl ((psq_nx ((pif_f t1).trans rfl)).trans ((psq_nx pre).trans (psq_ex (pex_ex c3))))
   | none=>
    have c3:pCall 1 g_check_forms (zCons (Yv 1) Zn) [some (.v (sW t)),some (.v (.lst (rows.map rwE))),none,none,none] c=some (.ok .non,c):=by rw [c3];unfold formsR;simp only [hc]
    simp only [hc]
    have bg:=build_g er hrows hn c
    have fl:yLc [4] (jAny (yPk 1)) (qNm 4) (uTru (yPk 4)) (Yv 4) [some (.v (sW t)),some (.v (.lst (rows.map rwE))),none,none,none] c=some (.lst ((rows.filter neR).map rwE),c):=by
     refine lc_at (ds:=rows.map rwE) (jany_at (pk_at rfl) rfl) (by rw [zlm];omega) rfl ?_
     rw [←filt_rw]
     refine lc_map rwE (fun r=>if neR r=true then some (rwE r) else none) _ fun r m=>?_
     have htr:∀v:Env2,v[4]?=some (some (.v (rwE r)))→uTru (yPk 4) v c=some (neR r,c):=fun v hv=>utru_at (pk_at hv) (by cases r<;>rfl)
     refine⟨_,q_qnm,?_⟩
     cases hr:neR r with
     | false=>exact .inl ⟨rfl,by rw [←hr];exact htr _ rfl⟩
     | true=>exact .inr ⟨rwE r,rfl,by rw [←hr];exact htr _ rfl,Vaa rfl⟩
    have c4:pCall 1 g_build (zCons (yLc [4] (jAny (yPk 1)) (qNm 4) (uTru (yPk 4)) (Yv 4)) Zn) [some (.v (sW t)),some (.v (.lst (rows.map rwE))),none,none,none] c=some (if rows.all rowOk=true then .ok (.tup (s.F.map El.e)) else .ex (1,[]),c):=(pcall_at (ds:=[.lst ((rows.filter neR).map rwE)]) (zcons_at fl q_nil) rfl).trans bg
    cases ho:rows.all rowOk with
    | false=>
     rw [ho] at c4
     rw [if_neg (fun z=>nomatch z.1)]
     exact fnp_ex rfl ((psq_nx ((pif_f t1).trans rfl)).trans ((psq_nx pre).trans ((psq_nx (pex_ok c3)).trans (psq_ex (pset_ex c4)))))
    | true=>
     rw [ho] at c4
     have sg:=sizes_g (rd_ln er nil_ln).2.1 c
     have c5:pCall 1 g_check_sizes (zCons (Yv 2) Zn) [some (.v (sW t)),some (.v (.lst (rows.map rwE))),some (.v (.tup (s.F.map El.e))),none,none] c=some (if sizeB s.F=true then .ex (1,[]) else .ok .non,c):=(pcall_at (ds:=[.tup (s.F.map El.e)]) (zcons_at (Vaa rfl) q_nil) rfl).trans sg
     cases hz:sizeB s.F with
     | true=>
      rw [hz] at c5
      rw [if_neg (fun z=>nomatch z.2)]
      exact fnp_ex rfl ((psq_nx ((pif_f t1).trans rfl)).trans ((psq_nx pre).trans ((psq_nx (pex_ok c3)).trans ((psq_nx (pset_ok c4 rfl)).trans (psq_ex (pex_ex c5))))))
     | false=>
      rw [hz] at c5
      rw [if_pos ⟨rfl,rfl⟩]
      exact fnp_rt rfl ((psq_nx ((pif_f t1).trans rfl)).trans ((psq_nx pre).trans ((psq_nx (pex_ok c3)).trans ((psq_nx (pset_ok c4 rfl)).trans ((psq_nx (pex_ok c5)).trans (ps_at (rt_at (Vaa rfl))))))))
theorem plst2 {k:DV}{X:E2W}{v:Env2}{c:Cs}{r:R2 DV}(h:X v c=some (r,c)):pLst (V2.Pc (pE (yC k)) (V2.Pc X (pA Zn))) v c=some (mapR (fun d=>DV.lst [k,d]) r,c):=by
 have e:V2.Pc X (pA Zn) v c=some (mapR (fun d=>[d]) r,c):=by
  unfold V2.Pc
  rw [h]
  cases r<;>rfl
 unfold pLst
 show((((yC k v c).map fun r=>(R2.ok r.1,r.2)).bind (bp fun d c1=>(V2.Pc X (pA Zn) v c1).bind (bp fun ds c2=>some (.ok (d::ds),c2)))).bind _)=_
 rw [q_c]
 simp only [Option.map_some,zob,bp]
 rw [e]
 cases r with
 | ok d=>
  simp only [mapR,zob,bp]
  rw [if_pos (by simp [PySem.sizeLine])]
 | ex x=>rfl
theorem told_g {t:List Nat}(h1:t.length≤80000)(ht:∀x∈TL.spl [10] 0 [] t,Okt x)(c:Cs):g_law_told [sW t] c=some ((tell t ((TL.spl [10] 0 [] t).map wordsOf)).e,c):=by
 have P:=parse_g h1 ht c
 generalize tell t ((TL.spl [10] 0 [] t).map wordsOf)=T at *
 have P1:pCall 1 g_parse (zCons (Yv 0) Zn) [some (.v (sW t)),none] c=some (T.r,c):=(pcall_at (ds:=[sW t]) (zcons_at (Vaa rfl) q_nil) rfl).trans P
 have P2:=plst2 (k:=.str "good") P1
 refine fn_at (V:=[some (.v (sW t)),none]) (V':=[some (.v (sW t)),none]) (c1:=c) rfl ?_
 show rTry2 _ 2 1 "parse" "limit" [some (.v (sW t)),none] c=_
 unfold rTry2
 rw [P2]
 cases T with
 | parse k=>rfl
 | limit=>rfl
 | good F=>rfl
def Sp.bl (n:Nat)(s:Sp):Prop:=s.B.length≤n∧s.F.length≤n∧∀o b,El.lp o b∈s.F→b.length≤n
theorem step_bl {r:Row}{s s':Sp}{n:Nat}(h:step r s=some s')(w:s.bl n):s'.bl (n+1):=by
 obtain⟨w1,w2,w3⟩:=w
 have sl:=step_len h
 refine⟨by omega,by omega,?_⟩
 unfold step at h
 split at h
 ·cases h;exact fun o b m=>Nat.le_succ_of_le (w3 o b m)
 ·split at h
  ·split at h
   ·obtain⟨o,ho,rfl⟩:=zmm h
    exact fun o b m=>Nat.le_succ_of_le (w3 o b m)
   ·cases h
  ·split at h
   ·split at h
    ·split at h
     ·cases h
     ·cases h
      intro o b m
      rcases zma m with m|m
      ·exact Nat.le_succ_of_le (w3 o b m)
      ·have e:=zsg m
       cases e
       omega
    ·cases h
   ·split at h
    ·split at h
     ·cases h
      intro o b m
      rcases zma m with m|m
      ·exact Nat.le_succ_of_le (w3 o b m)
      ·have e:=zsg m
       cases e
     ·cases h
      exact fun o b m=>Nat.le_succ_of_le (w3 o b m)
    ·cases h
theorem rd_bl:∀ {rs:List Row} {i n:Nat} {s s':Sp},rd i s rs=.inr s'→s.bl n→s'.bl (n+rs.length)
 | [],_,_,_,_,h,w=>by cases h;exact w
 | r::rs,i,n,s,s',h,w=>by
  rw [rd] at h
  cases e:step r s with
  | none=>rw [e] at h;cases h
  | some s1=>
   rw [e] at h
   have:=rd_bl h (step_bl e w)
   rw [zlc]
   rwa [show n+(rs.length+1)=n+1+rs.length by omega]
theorem due_g {t:List Nat}(h1:t.length≤80000)(ht:∀x∈TL.spl [10] 0 [] t,Okt x)(c:Cs):g_law_due [sW t] c=some ((tell t ((TL.spl [10] 0 [] t).map wordsOf)).e,c):=by
 have hlen:=(spl_len 10 t []).1
 have sp:splitV (sW t) (.str (TS' [10]))=some (.lst ((TL.spl [10] 0 [] t).map sW)):=split_V (by decide) (by omega)
 generalize hL:TL.spl [10] 0 [] t=L at *
 have s1:rAs 1 (y2 splitV (yPk 0) (yC (.str "\n"))) [some (.v (sW t)),none,none,none] c=some (.nx,[some (.v (sW t)),some (.v (.lst (L.map sW))),none,none],c):=as_at (y2_at (pk_at rfl) q_c (by rw [l_n];exact sp)) rfl
 have t2:uBl (y2 gtV (y1 lenV (yPk 0)) (yC (.int (4000)))) [some (.v (sW t)),some (.v (.lst (L.map sW))),none,none] c=some (decide (4000<t.length),c):=ubl_at (y2_at (y1_at (pk_at rfl) (lenS (by omega))) q_c (gt4000 _))
 unfold tell
 by_cases h4:4000<t.length
 ·rw [zdt h4] at t2
  rw [if_pos h4]
  exact fn_at rfl ((sq_nx s1).trans (sq_rt ((rif_t t2).trans (rt_at (lst_at (zcons_at q_c (zcons_at q_c q_nil)) (by simp))))))
 ·rw [zdf h4] at t2
  rw [if_neg h4]
  have rg:=read_g ht (by omega) c
  have s3:rAs 2 (Yc 1 g_law_read (zCons (Yv 1) Zn)) [some (.v (sW t)),some (.v (.lst (L.map sW))),none,none] c=some (.nx,[some (.v (sW t)),some (.v (.lst (L.map sW))),some (.v (readE L.length (rd 0 Sp.nil (L.map wordsOf)))),none],c):=as_at ((Caa (zcons_at (Vaa rfl) q_nil) rfl).trans rg) rfl
  have hrl:(L.map wordsOf).length=L.length:=zlm ..
  generalize L.map wordsOf=rows at *
  have bad:∀k:Nat,readE L.length (rd 0 Sp.nil rows)=.lst [.str "parse",.int (k:Int)]→g_law_due [sW t] c=some ((Tell.parse k).e,c):=fun k e=>by
   rw [e] at s3
   have t4:uBl (y2 V2.eqV (y2 ixV (yPk 2) (yC (.int (0)))) (yC (.str "parse"))) [some (.v (sW t)),some (.v (.lst (L.map sW))),some (.v (.lst [.str "parse",.int (k:Int)])),none] c=some (true,c):=ubl_at (y2_at (y2_at (pk_at rfl) q_c ix_head) q_c (by rw [eqV_str];rfl))
   exact fn_at rfl ((sq_nx s1).trans ((sq_nx ((rif_f t2).trans rfl)).trans ((sq_nx s3).trans (sq_rt ((rif_t t4).trans (rt_at (y2_at (pk_at rfl) (lst_at (zcons_at q_c q_nil) (by simp)) (by rfl))))))))
  unfold tellOf
  cases er:rd 0 Sp.nil rows with
  | inl k=>exact bad k (by rw [er];rfl)
  | inr s=>
   cases hc:s.cnt with
   | some o=>
    simp only [hc]
    rw [hrl]
    refine bad L.length ?_
    rw [er]
    unfold readE
    simp only [hc]
   | none=>
    simp only [hc]
    have er2:readE L.length (rd 0 Sp.nil rows)=.lst [.str "good",.tup (s.F.map El.e)]:=by
     rw [er]
     unfold readE
     simp only [hc]
    rw [er2] at s3
    have t4:uBl (y2 V2.eqV (y2 ixV (yPk 2) (yC (.int (0)))) (yC (.str "parse"))) [some (.v (sW t)),some (.v (.lst (L.map sW))),some (.v (.lst [.str "good",.tup (s.F.map El.e)])),none] c=some (false,c):=ubl_at (y2_at (y2_at (pk_at rfl) q_c ix_head) q_c (by rw [eqV_str];rfl))
    obtain⟨b1,b2,b3⟩:=rd_bl (n:=0) er ⟨znr _,znr _,fun _ _ m=>nomatch m⟩
    have ln:=(rd_ln er nil_ln).2.1
    obtain⟨wf,gd⟩:=rd_inr er (fun _=>rfl)
    have hB:=wf hc
    have go:s.F.all El.okb=rows.all rowOk:=by
     unfold Sp.good at gd
     rw [hB,hc] at gd
     simpa [Sp.nil] using gd
    have lg:=large_prog c ln (by omega) (fun o b m=>znt (b3 o b m) (by omega))
    rw [go] at lg
    have hix:ixV (.lst [.str "good",.tup (s.F.map El.e)]) (.int 1)=some (.tup (s.F.map El.e)):=by rw [ixV_lst,atI_at (by decide)];rfl
    have u1:uTru (Yc 1 g_law_large (zCons (y2 ixV (yPk 2) (yC (.int (1)))) Zn)) [some (.v (sW t)),some (.v (.lst (L.map sW))),some (.v (.lst [.str "good",.tup (s.F.map El.e)])),none] c=some (!rows.all rowOk,c):=utru_at ((Caa (zcons_at (y2_at (pk_at rfl) q_c hix) q_nil) rfl).trans lg) (truB _)
    have u2:uBl (y2 gtV (y1 lenV (y2 ixV (yPk 2) (yC (.int (1))))) (yC (.int (12)))) [some (.v (sW t)),some (.v (.lst (L.map sW))),some (.v (.lst [.str "good",.tup (s.F.map El.e)])),none] c=some (decide (12<s.F.length),c):=ubl_at (y2_at (y1_at (y2_at (pk_at rfl) q_c hix) (show lenV (.tup (s.F.map El.e))=some (.int s.F.length) by show some (DV.int ((s.F.map El.e).length:Nat))=_;rw [zlm])) q_c (gt12 _))
    have an:yLc [3] (jAny (y2 ixV (yPk 2) (yC (.int (1))))) (qNm 3) uYs (yAn (y2 V2.eqV (y2 ixV (yPk 3) (yC (.int (0)))) (yC (.str "loop"))) (y2 gtV (y1 lenV (y2 ixV (yPk 3) (yC (.int (2))))) (yC (.int (12))))) [some (.v (sW t)),some (.v (.lst (L.map sW))),some (.v (.lst [.str "good",.tup (s.F.map El.e)])),none] c=some (.lst (s.F.map fun x=>DV.bl x.big),c):=by
     have hall:=lc_all (g:=qNm 3) (a:=yAn (y2 V2.eqV (y2 ixV (yPk 3) (yC (.int (0)))) (yC (.str "loop"))) (y2 gtV (y1 lenV (y2 ixV (yPk 3) (yC (.int (2))))) (yC (.int (12))))) (v:=[some (.v (sW t)),some (.v (.lst (L.map sW))),some (.v (.lst [.str "good",.tup (s.F.map El.e)])),none]) (c:=c) El.e (fun x=>DV.bl x.big) s.F fun x m=>⟨[some (.v (sW t)),some (.v (.lst (L.map sW))),some (.v (.lst [.str "good",.tup (s.F.map El.e)])),some (.v x.e)],rfl,by
      have t1:=el_loop (c:=c) (i:=3) (ln x m) (v:=[some (.v (sW t)),some (.v (.lst (L.map sW))),some (.v (.lst [.str "good",.tup (s.F.map El.e)])),some (.v x.e)]) rfl
      cases x with
      | ins l=>exact an_b (x:=false) (y:=false) t1 nofun
      | lp o b=>exact an_b (x:=true) t1 fun _=>y2_at (el_len rfl) q_c (gt12 _)⟩
     exact lc_at (jany_at (y2_at (pk_at rfl) q_c hix) rfl) (by rw [zlm];omega) rfl hall
    have u3:=utru_at (y1_at an (show anyV (.lst (s.F.map fun x=>DV.bl x.big))=some (.bl (s.F.any El.big)) by
     show(blsD (s.F.map fun x=>DV.bl x.big)).map _=_
     rw [blsD_map]
     show some (DV.bl ((s.F.map El.big).any id))=_
     rw [List.any_map]
     rfl)) (truB _)
    have t5:=uor_b u1 fun _=>uor_b u2 fun _=>u3
    cases hcond:(!rows.all rowOk||(decide (12<s.F.length)||s.F.any El.big)) with
    | true=>
     rw [hcond] at t5
     rw [if_neg (fun z=>by
      obtain⟨z1,z2⟩:=z
      unfold sizeB at z2
      rw [z1,z2] at hcond
      cases hcond)]
     exact fn_at rfl ((sq_nx s1).trans ((sq_nx ((rif_f t2).trans rfl)).trans ((sq_nx s3).trans ((sq_nx ((rif_f t4).trans rfl)).trans (sq_rt ((rif_t t5).trans (rt_at (lst_at (zcons_at q_c (zcons_at q_c q_nil)) (by simp)))))))))
    | false=>
     rw [hcond] at t5
     rw [if_pos (by
      rw [Bool.or_eq_false_iff] at hcond
      exact⟨by simpa using hcond.1,hcond.2⟩)]
     exact fn_at rfl ((sq_nx s1).trans ((sq_nx ((rif_f t2).trans rfl)).trans ((sq_nx s3).trans ((sq_nx ((rif_f t4).trans rfl)).trans ((sq_nx ((rif_f t5).trans rfl)).trans (rt_at (Vaa rfl)))))))
open PySem PyData in
theorem good_bl (b:Bool):Good 0 (.bl b):=⟨_,rfl,by simp [canLay0],by simp [depth]⟩
open PySem PyData in
theorem eq_lst {n:Nat}{ds:List DV}(h:∀d∈ds,Good n d)(hn:n≤60):V2.eqV (.lst ds) (.lst ds)=some (.bl true):=by
 obtain⟨xs,g1,g2,g3⟩:=good_all n ds h
 have hs:SeqAt.shaped (.list xs)=true:=by
  unfold SeqAt.shaped
  rw [Bool.and_eq_true]
  exact⟨by simpa [canLay0] using g2,zdt (by simp only [depth];omega)⟩
 have:eqVB (.lst ds) (.lst ds)=some true:=by
  show eqVBg _ _=_
  unfold eqVBg
  rw [show toDVm (.lst ds)=some (.list xs) by show(toDVs ds).map _=_;rw [g1];rfl]
  simp only [zob]
  rw [if_pos ⟨hs,hs⟩,SeqAt.eqv_refl _ (SeqAt.canLay_of_shaped hs)]
 unfold V2.eqV
 rw [this]
 rfl
theorem tell_eq (t:List Nat)(rows:List Row):V2.eqV (tell t rows).e (tell t rows).e=some (.bl true):=by
 have hp:∀k:Nat,V2.eqV (Tell.parse k).e (Tell.parse k).e=some (.bl true):=fun k=>eq_lst (n:=0) (fun d m=>by
  simp only [List.mem_cons,List.not_mem_nil,or_false] at m
  rcases m with rfl|rfl|rfl
  ·exact good_str (by decide +kernel)
  ·exact good_int _
  ·exact good_bl _) (by decide)
 have hl:V2.eqV Tell.limit.e Tell.limit.e=some (.bl true):=eq_lst (n:=0) (fun d m=>by
  simp only [List.mem_cons,List.not_mem_nil,or_false] at m
  rcases m with rfl|rfl
  ·exact good_str (by decide +kernel)
  ·exact good_bl _) (by decide)
 unfold tell
 split
 ·exact hl
 ·unfold tellOf
  split
  ·exact hp _
  ·rename_i s er
   split
   ·exact hp _
   ·split
    ·refine eq_lst (n:=5) (fun d m=>?_) (by decide)
     simp only [List.mem_cons,List.not_mem_nil,or_false] at m
     rcases m with rfl|rfl
     ·exact(good_str (by decide +kernel)).up (by decide)
     ·refine good_tup fun d m=>?_
      obtain⟨x,hx,rfl⟩:=List.mem_map.mp m
      exact el_good ((rd_ln er nil_ln).2.1 x hx)
    ·exact hl
def Ch (x:List Nat):Prop:=∀c∈x,c<128∧c≠10
def Lk (n:Nat)(x:List Nat):Prop:=x.length≤n∧Ch x
theorem Ch.no10 {x:List Nat}(h:Ch x):10∉x:=fun m=>(h 10 m).2 rfl
theorem split_at (s:Nat):∀t:List Nat,s∉t∨∃p rest,t=p++s::rest∧s∉p
 | []=>.inl nofun
 | c::t=>by
  by_cases h:c=s
  ·exact .inr ⟨[],t,by rw [h];rfl,nofun⟩
  ·rcases split_at s t with h2|⟨p,r,e,h2⟩
   ·exact .inl fun m=>by
     rcases zmo m with m|m
     ·exact h m.symm
     ·exact h2 m
   ·refine .inr ⟨c::p,r,by rw [e];rfl,fun m=>?_⟩
    rcases zmo m with m|m
    ·exact h m.symm
    ·exact h2 m
theorem spl_all (s:Nat)(P:List Nat→List (List Nat)→Prop)(h1:∀t,s∉t→P t [t])(h2:∀p rest R,s∉p→P rest R→P (p++s::rest) (p::R)):∀(n:Nat) (t:List Nat),t.length≤n→P t (TL.spl [s] 0 [] t)
 | 0,t,h=>by
  have:t=[]:=List.eq_nil_of_length_eq_zero (by omega)
  subst this
  exact h1 [] nofun
 | n+1,t,h=>by
  rcases split_at s t with hs|⟨p,rest,rfl,hs⟩
  ·rw [spl_one hs]
   exact h1 t hs
  ·rw [spl_head hs]
   refine h2 p rest _ hs (spl_all s P h1 h2 n rest ?_)
   rw [zla,zlc] at h
   omega
theorem spl_sum (s:Nat)(t:List Nat):((TL.spl [s] 0 [] t).map fun w=>w.length+1).sum=t.length+1:=
 spl_all s (fun t R=>(R.map fun w=>w.length+1).sum=t.length+1) (fun t _=>by simp) (fun p rest R _ ih=>by
  rw [zmc,List.sum_cons,ih,zla,zlc]
  omega) t.length t (znr _)
theorem spl_sub (s:Nat)(t:List Nat):∀w∈TL.spl [s] 0 [] t,∀c∈w,c∈t:=
 spl_all s (fun t R=>∀w∈R,∀c∈w,c∈t) (fun t _ w m=>by rw [zsg m];exact fun _ h=>h) (fun p rest R _ ih w m c hc=>by
  rcases zmo m with rfl|m
  ·exact List.mem_append_left _ hc
  ·exact List.mem_append_right _ (.tail _ (ih w m c hc))) t.length t (znr _)
def cutF (x:List Nat):List Nat:=(TL.spl [35] 0 [] x).headD []
theorem cutF_sub (x:List Nat):∀c∈cutF x,c∈x:=fun c hc=>by
 obtain⟨a,r,e⟩:=spl_ne 35 x []
 unfold cutF at hc
 rw [e] at hc
 exact spl_sub 35 x a (by rw [e];exact zms) c hc
theorem cutF_hash (x:List Nat)(n:Nat):cutF (x++List.replicate n 35)=cutF x:=by
 unfold cutF
 rcases split_at 35 x with hs|⟨p,rest,rfl,hs⟩
 ·have e1:=head_cut (p:=x) (r:=[]) hs (.inl rfl)
  rw [List.append_nil] at e1
  rw [e1,head_cut hs]
  cases n with
  | zero=>exact .inl rfl
  | succ n=>exact .inr ⟨List.replicate n 35,rfl⟩
 ·rw [head_cut hs (.inr ⟨rest,rfl⟩),List.append_assoc]
  exact head_cut hs (.inr ⟨rest++List.replicate n 35,rfl⟩)
theorem spl_len1 {t:List Nat}{w:List Nat}(s:Nat)(m:w∈TL.spl [s] 0 [] t):w.length≤t.length:=by
 have:=(spl_len s t []).2 w m
 rw [List.length_nil] at this
 omega
theorem okt_of {x:List Nat}(h1:x.length≤80000)(h2:(cutF x).length≤600)(h3:∀c∈x,c<128):Okt x:=by
 refine⟨by omega,fun w m=>?_,?_⟩
 ·have m2:w∈TL.spl [32] 0 [] (cutF x):=(List.mem_filter.mp m).1
  exact⟨fun c hc=>h3 c (cutF_sub x c (spl_sub 32 _ w m2 c hc)),by have:=spl_len1 32 m2;omega⟩
 ·have:=(spl_len 32 (cutF x) []).1
  have l2:(wordsOf x).length≤(TL.spl [32] 0 [] (cutF x)).length:=List.length_filter_le _ _
  omega
theorem pieces (h:List Nat)(hh:10∉h):∀T:List (List Nat),(∀x∈T,10∉x)→∀y∈TL.spl [10] 0 [] (TL.joinL [10] T++h),y∈T∨y=h∨∃x∈T,y=x++h
 | [],_,y,m=>by
  rw [show TL.joinL [10] []++h=h from rfl,spl_one hh] at m
  exact .inr (.inl (zsg m))
 | [x],hT,y,m=>by
  have hx:=hT x zms
  rw [show TL.joinL [10] [x]=x from rfl,spl_one (fun z=>(zma z).elim hx hh)] at m
  exact .inr (.inr ⟨x,zms,zsg m⟩)
 | x::x2::T,hT,y,m=>by
  have hx:=hT x zms
  rw [show TL.joinL [10] (x::x2::T)++h=x++10::(TL.joinL [10] (x2::T)++h) by show(x++([10]++TL.joinL [10] (x2::T)))++h=_;simp,spl_head hx] at m
  rcases zmo m with rfl|m
  ·exact .inl zms
  ·rcases pieces h hh (x2::T) (fun z mz=>hT z (.tail _ mz)) y m with r|r|⟨z,mz,r⟩
   ·exact .inl (.tail _ r)
   ·exact .inr (.inl r)
   ·exact .inr (.inr ⟨z,.tail _ mz,r⟩)
theorem text_ok {T:List (List Nat)}{n:Nat}(hT:∀x∈T,Lk 600 x)(hn:n≤10000):∀y∈TL.spl [10] 0 [] (TL.joinL [10] T++List.replicate n 35),Okt y:=fun y m=>by
 have hh:10∉List.replicate n 35:=fun z=>by have:=List.eq_of_mem_replicate z;cases this
 rcases pieces _ hh T (fun x mx=>(hT x mx).2.no10) y m with r|rfl|⟨x,mx,rfl⟩
 ·obtain⟨h1,h2⟩:=hT y r
  have:(cutF y).length≤y.length:=cut_len (znr _)
  exact okt_of (by omega) (by omega) fun c hc=>(h2 c hc).1
 ·refine okt_of (by rw [List.length_replicate];omega) ?_ fun c hc=>by rw [List.eq_of_mem_replicate hc];decide
  have:=cutF_hash [] n
  rw [List.nil_append] at this
  rw [this]
  decide
 ·obtain⟨h1,h2⟩:=hT x mx
  refine okt_of (by rw [zla,List.length_replicate];omega) ?_ fun c hc=>?_
  ·rw [cutF_hash]
   have:(cutF x).length≤x.length:=cut_len (znr _)
   omega
  ·rcases zma hc with hc|hc
   ·exact(h2 c hc).1
   ·rw [List.eq_of_mem_replicate hc];decide
theorem ch_join {sep:List Nat}(hs:Ch sep):∀ws:List (List Nat),(∀w∈ws,Ch w)→Ch (TL.joinL sep ws)
 | [],_=>nofun
 | [w],h=>h w zms
 | w::w2::ws,h=>fun c hc=>by
  rcases zma (show c∈w++(sep++TL.joinL sep (w2::ws)) from hc) with hc|hc
  ·exact h w zms c hc
  ·rcases zma hc with hc|hc
   ·exact hs c hc
   ·exact ch_join hs (w2::ws) (fun x m=>h x (.tail _ m)) c hc
theorem okc_ch {c:Nat}(h:okc c):c<128∧c≠10:=by
 unfold okc at h
 omega
theorem lnw_ch {l:List Nat}{ws:Row}(h:LnW l ws):Ch l:=by
 obtain⟨⟨a,rfl⟩,_,hw,_⟩:=h
 intro c hc
 rcases zma hc with hc|hc
 ·rw [List.eq_of_mem_replicate hc];decide
 ·exact ch_join (sep:=List.replicate 1 32) (fun c m=>by rw [List.eq_of_mem_replicate m];decide) ws (fun w m c hc=>okc_ch ((hw w m).2.2 c hc)) c hc
theorem lns_lk {ps:List St}(h:∀s∈ps,s.ok):∀l∈lnsOf ps,Lk 54 l:=fun l m=>by
 refine⟨lns_mem h m,?_⟩
 rw [←prs_lns] at m
 obtain⟨p,hp,rfl⟩:=List.mem_map.mp m
 exact lnw_ch (prs_ok h p hp)
def cd (s:Str):List Nat:=s.cps.toList
theorem cd_s (s:Str):DV.str s=sW (cd s):=by
 show DV.str s=DV.str (TS' s.cps.toList)
 congr 1
def lkb (s:Str):Bool:=decide ((cd s).length≤22)&&(cd s).all fun c=>decide (c<128)&&decide (c≠10)
theorem lkb_ok {s:Str}(h:lkb s=true):Lk 22 (cd s):=by
 unfold lkb at h
 rw [Bool.and_eq_true,decide_eq_true_eq,List.all_eq_true] at h
 refine⟨h.1,fun c hc=>?_⟩
 have:=h.2 c hc
 rw [Bool.and_eq_true,decide_eq_true_eq,decide_eq_true_eq] at this
 exact this
def ro1:List Str:=["end","loop 3","loop r1","loop","loop 1 2","foo r1","add r1 r2","add 1 r2 r3","out 5","out","store 1","","# loop"]
def ro2:List Str:=["ADD r1 r2 5","Out 5","LOOP 3","END","adds r1 r2 5","loop3","ending","out --5","out -007","out -99999999999"]
def ro3:List Str:=["load r1 2 3","end end","and r1 1 2 3","add r1 r2 5","mul r15 r16 1","out -0","out 2147483648","out -2147483649"]
def ro4:List Str:=["r16","r015","r","R1","r-1","-0","007","-5","r00","+1","1.5","2147483647"]
def ro5:List Str:=["-007","-00","-05","--5","-","5-","-r1","- 5","-99999999999","-2147483648","-2147483649","2147483648","99999999999999999999","r99999999999","x","end"]
def zLits (l:List Str):A2:=l.foldr (fun s r=>zCons (yC (.str s)) r) Zn
theorem lits_at {v:Env2}{c:Cs}:∀l:List Str,zLits l v c=some (l.map .str,c)
 | []=>rfl
 | s::l=>zcons_at q_c (lits_at l)
theorem ylits {v:Env2}{c:Cs}(l:List Str)(h:l.length≤1000):yLst (zLits l) v c=some (.lst (l.map .str),c):=lst_at (lits_at l) (by rw [zlm];exact h)
theorem cut_to (T:List (List Nat))(k:Nat):cutD (T.map sW) none (some (k:Int))=(T.take k).map sW:=by
 unfold cutD
 rw [HT.sIx_none,HT.sIx_nat,zlm,List.drop_zero,Nat.sub_zero,List.map_take,List.take_eq_take_iff]
 simp
theorem cut_from (T:List (List Nat))(k:Nat):cutD (T.map sW) (some (k:Int)) none=(T.drop k).map sW:=by
 unfold cutD
 rw [HT.sIx_none,HT.sIx_nat,zlm,List.map_drop]
 rw [List.take_of_length_le (by simp)]
 by_cases h:k≤T.length
 ·rw [Nat.min_eq_left h]
 ·rw [Nat.min_eq_right (by omega),List.drop_of_length_le (by simp),List.drop_of_length_le (by simp;omega)]
theorem cut_mid (T:List (List Nat))(k:Nat):cutD (T.map sW) (some (k:Int)) (some ((k:Int)+1))=((T.drop k).take 1).map sW:=by
 unfold cutD
 rw [show(k:Int)+1=((k+1:Nat):Int) by omega,HT.sIx_nat,HT.sIx_nat,zlm,List.map_take,List.map_drop]
 by_cases h:k<T.length
 ·rw [Nat.min_eq_left (by omega),Nat.min_eq_left (by omega),show k+1-k=1 by omega]
 ·rw [Nat.min_eq_right (by omega),Nat.min_eq_right (by omega),Nat.sub_self,List.drop_of_length_le (by simp),List.drop_of_length_le (by simp;omega)]
  simp
theorem os_at {a:E2}{v:Env2}{c c1:Cs}{i:Int}(h:a v c=some (.int i,c1)):oS2 a v c=some (some i,c1):=by
 rw [q_os,h]
 rfl
theorem ix_at {l:List DV}{k:Int}{d:DV}(h0:0≤k)(h:l[k.toNat]?=some d):ixV (.lst l) (.int k)=some d:=by
 rw [ixV_lst,atI_at h0]
 exact h
theorem pick_at {l:List Str}{i:Nat}{v:Env2}{c:Cs}(hl:l≠[])(hl2:l.length≤1000)(hv:v[i]?=some (some (.v (.lst (l.map .str)))))(h0:v[0]?=some (some (.v .tok))):∃s∈l,∃c',y2 ixV (yPk i) (Yc 2 g_law_take (zCons (Yv 0) (zCons (y1 lenV (yPk i)) Zn))) v c=some (.str s,c'):=by
 have hp:0<l.length:=List.length_pos_iff.mpr hl
 obtain⟨d,c',e,d0,d1⟩:=take2 c (many:=(l.length:Int)) (by omega) (by omega)
 have hk:d.toNat<l.length:=by omega
 refine⟨l[d.toNat],List.getElem_mem hk,c',y2_at (pk_at hv) ((Caa (ds:=[.tok,.int l.length]) (zcons_at (Vaa h0) (zcons_at (y1_at (pk_at hv) (show lenV (.lst (l.map DV.str))=some (.int l.length) by show some (DV.int ((l.map DV.str).length:Nat))=_;rw [zlm])) q_nil)) rfl).trans e) (ix_at d0 ?_)⟩
 rw [List.getElem?_map,List.getElem?_eq_getElem hk]
 rfl
def wsum (W:List (List Nat)):Nat:=(W.map fun w=>w.length+1).sum
theorem wsum_filter (p:List Nat→Bool)(W:List (List Nat)):wsum (W.filter p)≤wsum W:=by
 induction W with
 | nil=>exact znr _
 | cons w W ih=>
  rw [List.filter_cons]
  unfold wsum at *
  split
  ·simp only [zmc,List.sum_cons];omega
  ·simp only [zmc,List.sum_cons];omega
theorem wsum_app (A B:List (List Nat)):wsum (A++B)=wsum A+wsum B:=by
 unfold wsum
 rw [zmq,List.sum_append]
theorem wsum_set (m:List Nat):∀(W:List (List Nat)) (j:Nat),wsum (W.set j m)≤wsum W+m.length
 | [],j=>by simp [wsum]
 | w::W,0=>by simp only [List.set_cons_zero,wsum,zmc,List.sum_cons];omega
 | w::W,j+1=>by
  have:=wsum_set m W j
  simp only [List.set_cons_succ,wsum,zmc,List.sum_cons] at *
  omega
theorem wsum_cut (W:List (List Nat))(j:Nat):wsum (W.take j++W.drop (j+1))≤wsum W:=by
 conv=>rhs;rw [←List.take_append_drop j W]
 rw [wsum_app,wsum_app]
 have:wsum (W.drop (j+1))≤wsum (W.drop j):=by
  rw [show W.drop (j+1)=(W.drop j).drop 1 by rw [List.drop_drop]]
  cases W.drop j with
  | nil=>exact znr _
  | cons a b=>simp only [List.drop_succ_cons,List.drop_zero,wsum,zmc,List.sum_cons];omega
 omega
theorem wsum_len (W:List (List Nat)):(W.map List.length).sum+W.length=wsum W:=by
 induction W with
 | nil=>rfl
 | cons w W ih=>
  unfold wsum at *
  simp only [zmc,List.sum_cons,zlc]
  omega
theorem join_wsum (W:List (List Nat)):(TL.joinL [32] W).length≤wsum W:=by
 have:=joinL_len [32] W
 have h2:=wsum_len W
 simp only [zlc,List.length_nil] at this
 omega
theorem ro_ok:(ro1++ro2++ro3).all lkb=true:=by decide +kernel
theorem me_ok:(ro4++ro5).all lkb=true:=by decide +kernel
theorem lits_lk {l:List Str}(h:l.all lkb=true){s:Str}(m:s∈l):Lk 22 (cd s):=lkb_ok (List.all_eq_true.mp h s m)
theorem Lk.up {n m:Nat}{x:List Nat}(h:Lk n x)(hm:n≤m):Lk m x:=⟨znt h.1 hm,h.2⟩
structure Spl (T:List (List Nat)) (n:Nat) (T':List (List Nat)):Prop where
 lk:∀x∈T',Lk (n+24) x
 len:T'.length≤T.length+1
theorem spl_mk {T:List (List Nat)}{n k k2:Nat}(hT:∀x∈T,Lk n x)(M:List (List Nat))(hM:∀x∈M,Lk (n+24) x)(hl:(T.take k).length+M.length+(T.drop k2).length≤T.length+1):Spl T n (T.take k++M++T.drop k2):=by
 refine⟨fun x m=>?_,by rw [zla,zla];exact hl⟩
 rcases zma m with m|m
 ·rcases zma m with m|m
  ·exact(hT x (List.mem_of_mem_take m)).up (by omega)
  ·exact hM x m
 ·exact(hT x (List.mem_of_mem_drop m)).up (by omega)
theorem cat3 {T:List (List Nat)}{k k2:Nat}{M:List (List Nat)}{v:Env2}{c c1:Cs}{a b d:E2}(hl:T.length≤3000)(hm:M.length≤1000)(ha:a v c=some (.lst ((T.take k).map sW),c))(hb:b v c=some (.lst (M.map sW),c1))(hd:d v c1=some (.lst ((T.drop k2).map sW),c1)):y2 catV (y2 catV a b) d v c=some (.lst ((T.take k++M++T.drop k2).map sW),c1):=by
 have l1:(T.take k).length≤T.length:=by rw [List.length_take];omega
 have l2:(T.drop k2).length≤T.length:=by rw [List.length_drop];omega
 rw [zmq,zmq]
 exact y2_at (y2_at ha hb (catL (by rw [zlm,zlm];omega))) hd (catL (by rw [zla,zlm,zlm,zlm];omega))
def rowsT:List Str:=ro1++ro2++ro3
def menuT:List Str:=ro4++ro5
abbrev E6 (T:List (List Nat))(k:Int)(kind:Int)(a6 a7:Option Sl):Env2:=[some (.v .tok),some (.v (.lst (T.map sW))),some (.v (.int k)),some (.v (.lst (rowsT.map .str))),some (.v (.lst (menuT.map .str))),some (.v (.int kind)),a6,a7,none]
theorem words8 {x:List Nat}(h:x.length≤90000){a:E2}{v:Env2}(c:Cs)(hv:v.length=9)(ha:a v c=some (sW x,c)):yLc [8] (jAny (y2 splitV a (yC (.str " ")))) (qNm 8) (uBl (y2 neV (yPk 8) (yC (.str "")))) (Yv 8) v c=some (.lst (((TL.spl [32] 0 [] x).filter nonE).map sW),c):=by
 have h4:=spl_len 32 x []
 refine lc_at (ds:=(TL.spl [32] 0 [] x).map sW) (jany_at (y2_at ha q_c (by rw [l_s];exact split_V (by decide) (by omega))) rfl) (by rw [zlm];omega) rfl ?_
 rw [←filt_ne]
 refine lc_map sW (fun w=>if nonE w=true then some (sW w) else none) _ fun w m=>?_
 have hv2:((wipe2 v [8]).set 8 (some (.v (sW w))))[8]?=some (some (.v (sW w))):=by
  rw [zss]
  show 8<(v.set 8 none).length
  rw [List.length_set,hv]
  decide
 refine⟨_,q_qnm,?_⟩
 have e0:("":Str)=TS' []:=by decide
 have ht:uBl (y2 neV (yPk 8) (yC (.str ""))) ((wipe2 v [8]).set 8 (some (.v (sW w)))) c=some (nonE w,c):=by
  refine ubl_at (y2_at (pk_at hv2) q_c ?_)
  rw [e0]
  refine(neS w []).trans ?_
  cases w<;>rfl
 cases hn:nonE w with
 | false=>exact .inl ⟨rfl,by rw [←hn];exact ht⟩
 | true=>exact .inr ⟨sW w,rfl,by rw [←hn];exact ht,Vaa hv2⟩
theorem si_at {i:Nat}{k a:E2}{v v':Env2}{c c1 c2:Cs}{d:DV}{ds:List DV}{j:Nat}(h1:a v c=some (d,c1))(h2:k v c1=some (.int (j:Int),c2))(hv:v[i]?=some (some (.o ds)))(hj:j<ds.length)(hs:v.set i (some (.o (ds.set j d)))=v'):rSi i k a v c=some (.nx,v',c2):=by
 unfold rSi
 rw [h1]
 simp only [zob]
 rw [h2]
 simp only [zob,hv]
 rw [show L2.ixN ds.length (j:Int)=some j by unfold L2.ixN;rw [if_pos (by omega)];simp;omega]
 simp only [Option.map_some,hs]
noncomputable abbrev Sp1:S2:=(rSq (rIf (uOr (uBl (y2 V2.eqV (yPk 5) (yC (.int (0))))) (uNt (uTru (yPk 1)))) (rRt (y2 catV (y2 catV (ySf (yPk 1) oN2 (oS2 (Yv 2))) (yLst (zCons (y2 ixV (yPk 3) (Yc 2 g_law_take (zCons (Yv 0) (zCons (y1 lenV (yPk 3)) Zn)))) Zn))) (ySf (yPk 1) (oS2 (Yv 2)) oN2))) rNx) (rSq (rAs 2 (y2 min2 (yPk 2) (y2 subV (y1 lenV (yPk 1)) (yC (.int (1)))))) (rSq (rIf (uBl (y2 V2.eqV (yPk 5) (yC (.int (1))))) (rRt (y2 catV (ySf (yPk 1) oN2 (oS2 (Yv 2))) (ySf (yPk 1) (oS2 (y2 addV (yPk 2) (yC (.int (1))))) oN2))) rNx) (rSq (rIf (uBl (y2 V2.eqV (yPk 5) (yC (.int (2))))) (rRt (y2 catV (y2 catV (ySf (yPk 1) oN2 (oS2 (Yv 2))) (ySf (yPk 1) (oS2 (Yv 2)) (oS2 (y2 addV (yPk 2) (yC (.int (1))))))) (ySf (yPk 1) (oS2 (Yv 2)) oN2))) rNx) (rSq (rAo 6 (y2 catV (yLc [8] (jAny (y2 splitV (y2 ixV (yPk 1) (yPk 2)) (yC (.str " ")))) (qNm 8) (uBl (y2 neV (yPk 8) (yC (.str "")))) (Yv 8)) (yLst (zCons (yC (.str "")) Zn)))) (rSq (rAs 7 (Yc 2 g_law_take (zCons (Yv 0) (zCons (y1 lenV (yPk 6)) Zn)))) (rSq (rSi 6 (Yv 7) (y2 ixV (yPk 4) (Yc 2 g_law_take (zCons (Yv 0) (zCons (y1 lenV (yPk 4)) Zn))))) (rSq (rIf (uBl (y2 V2.eqV (yPk 5) (yC (.int (4))))) (rAo 6 (y2 catV (ySf (yPk 6) oN2 (oS2 (Yv 7))) (ySf (yPk 6) (oS2 (y2 addV (yPk 7) (yC (.int (1))))) oN2))) rNx) (rRt (y2 catV (y2 catV (ySf (yPk 1) oN2 (oS2 (Yv 2))) (yLst (zCons (y2 joinV (yC (.str " ")) (yPk 6)) Zn))) (ySf (yPk 1) (oS2 (y2 addV (yPk 2) (yC (.int (1))))) oN2)))))))))))
noncomputable abbrev Sp2:S2:=(rSq (rIf (uBl (y2 V2.eqV (yPk 5) (yC (.int (1))))) (rRt (y2 catV (ySf (yPk 1) oN2 (oS2 (Yv 2))) (ySf (yPk 1) (oS2 (y2 addV (yPk 2) (yC (.int (1))))) oN2))) rNx) (rSq (rIf (uBl (y2 V2.eqV (yPk 5) (yC (.int (2))))) (rRt (y2 catV (y2 catV (ySf (yPk 1) oN2 (oS2 (Yv 2))) (ySf (yPk 1) (oS2 (Yv 2)) (oS2 (y2 addV (yPk 2) (yC (.int (1))))))) (ySf (yPk 1) (oS2 (Yv 2)) oN2))) rNx) (rSq (rAo 6 (y2 catV (yLc [8] (jAny (y2 splitV (y2 ixV (yPk 1) (yPk 2)) (yC (.str " ")))) (qNm 8) (uBl (y2 neV (yPk 8) (yC (.str "")))) (Yv 8)) (yLst (zCons (yC (.str "")) Zn)))) (rSq (rAs 7 (Yc 2 g_law_take (zCons (Yv 0) (zCons (y1 lenV (yPk 6)) Zn)))) (rSq (rSi 6 (Yv 7) (y2 ixV (yPk 4) (Yc 2 g_law_take (zCons (Yv 0) (zCons (y1 lenV (yPk 4)) Zn))))) (rSq (rIf (uBl (y2 V2.eqV (yPk 5) (yC (.int (4))))) (rAo 6 (y2 catV (ySf (yPk 6) oN2 (oS2 (Yv 7))) (ySf (yPk 6) (oS2 (y2 addV (yPk 7) (yC (.int (1))))) oN2))) rNx) (rRt (y2 catV (y2 catV (ySf (yPk 1) oN2 (oS2 (Yv 2))) (yLst (zCons (y2 joinV (yC (.str " ")) (yPk 6)) Zn))) (ySf (yPk 1) (oS2 (y2 addV (yPk 2) (yC (.int (1))))) oN2)))))))))
noncomputable abbrev Sp3:S2:=(rSq (rAo 6 (y2 catV (yLc [8] (jAny (y2 splitV (y2 ixV (yPk 1) (yPk 2)) (yC (.str " ")))) (qNm 8) (uBl (y2 neV (yPk 8) (yC (.str "")))) (Yv 8)) (yLst (zCons (yC (.str "")) Zn)))) (rSq (rAs 7 (Yc 2 g_law_take (zCons (Yv 0) (zCons (y1 lenV (yPk 6)) Zn)))) (rSq (rSi 6 (Yv 7) (y2 ixV (yPk 4) (Yc 2 g_law_take (zCons (Yv 0) (zCons (y1 lenV (yPk 4)) Zn))))) (rSq (rIf (uBl (y2 V2.eqV (yPk 5) (yC (.int (4))))) (rAo 6 (y2 catV (ySf (yPk 6) oN2 (oS2 (Yv 7))) (ySf (yPk 6) (oS2 (y2 addV (yPk 7) (yC (.int (1))))) oN2))) rNx) (rRt (y2 catV (y2 catV (ySf (yPk 1) oN2 (oS2 (Yv 2))) (yLst (zCons (y2 joinV (yC (.str " ")) (yPk 6)) Zn))) (ySf (yPk 1) (oS2 (y2 addV (yPk 2) (yC (.int (1))))) oN2)))))))
theorem sp3 {T:List (List Nat)}{n k':Nat}{x:List Nat}(hx:T[k']?=some x)(hL:Lk n x)(hn:n≤500)(hl:T.length≤500)(kind:Int)(c5:Cs):∃T' c',(∃V,Sp3 (E6 T k' kind none none) c5=some (.rt (.lst (T'.map sW)),V,c'))∧((∀x∈T,Lk n x)→Spl T n T'):=by
 have hk:k'<T.length:=(zge hx).1
 have hix:y2 ixV (yPk 1) (yPk 2) (E6 T k' kind none none) c5=some (sW x,c5):=y2_at (pk_at rfl) (pk_at rfl) (ix_at (by omega) (by rw [Int.toNat_natCast,List.getElem?_map,hx];rfl))
 have w8:=words8 (by have:=hL.1;omega) c5 rfl hix
 have ws1:wsum ((TL.spl [32] 0 [] x).filter nonE)≤n+1:=by
  have:=wsum_filter nonE (TL.spl [32] 0 [] x)
  have h2:wsum (TL.spl [32] 0 [] x)=x.length+1:=spl_sum 32 x
  have:=hL.1
  omega
 have wch:∀w∈(TL.spl [32] 0 [] x).filter nonE,Ch w:=fun w m c hc=>hL.2 c (spl_sub 32 x w (List.mem_filter.mp m).1 c hc)
 generalize (TL.spl [32] 0 [] x).filter nonE=W at *
 have wl:W.length≤n+1:=by have:=wsum_len W;omega
 have s1:rAo 6 (y2 catV (yLc [8] (jAny (y2 splitV (y2 ixV (yPk 1) (yPk 2)) (yC (.str " ")))) (qNm 8) (uBl (y2 neV (yPk 8) (yC (.str "")))) (Yv 8)) (yLst (zCons (yC (.str "")) Zn))) (E6 T k' kind none none) c5=some (.nx,[some (.v .tok),some (.v (.lst (T.map sW))),some (.v (.int (k':Int))),some (.v (.lst (rowsT.map .str))),some (.v (.lst (menuT.map .str))),some (.v (.int kind)),some (.o ((W++[[]]).map sW)),none,none],c5):=by
  refine ao_at (y2_at w8 (lst_at (zcons_at q_c q_nil) (by simp)) (r:=.lst ((W++[[]]).map sW)) ?_) rfl
  rw [catL (by rw [zlm];simp;omega),zmq]
  rw [show("":Str)=TS' [] by decide]
  rfl
 have lw:(W++[[]]).length=W.length+1:=by simp
 have ws2:wsum (W++[[]])≤n+2:=by rw [wsum_app];simp only [wsum,zmc,List.map_nil,List.sum_cons,List.sum_nil,List.length_nil] at *;omega
 have wch2:∀w∈W++[[]],Ch w:=fun w m=>by
  rcases zma m with m|m
  ·exact wch w m
  ·rw [zsg m]
   exact nofun
 generalize W++[[]]=W2 at *
 obtain⟨d,c6,e6,d0,d1⟩:=take2 c5 (many:=(W2.length:Int)) (by omega) (by omega)
 obtain⟨j,rfl⟩:∃j:Nat,d=j:=⟨d.toNat,by omega⟩
 have s2:rAs 7 (Yc 2 g_law_take (zCons (Yv 0) (zCons (y1 lenV (yPk 6)) Zn))) [some (.v .tok),some (.v (.lst (T.map sW))),some (.v (.int (k':Int))),some (.v (.lst (rowsT.map .str))),some (.v (.lst (menuT.map .str))),some (.v (.int kind)),some (.o (W2.map sW)),none,none] c5=some (.nx,E6 T k' kind (some (.o (W2.map sW))) (some (.v (.int (j:Int)))),c6):=
  as_at ((Caa (ds:=[.tok,.int (W2.length:Int)]) (zcons_at (Vaa rfl) (zcons_at (y1_at (pko_at rfl) (show lenV (.lst (W2.map sW))=some (.int W2.length) by show some (DV.int ((W2.map sW).length:Nat))=_;rw [zlm])) q_nil)) rfl).trans e6) rfl
 obtain⟨s,ms,c7,e7⟩:=pick_at (l:=menuT) (i:=4) (v:=E6 T k' kind (some (.o (W2.map sW))) (some (.v (.int (j:Int))))) (c:=c6) (by decide) (by decide) rfl rfl
 have sl:=lits_lk me_ok ms
 have s3:rSi 6 (Yv 7) (y2 ixV (yPk 4) (Yc 2 g_law_take (zCons (Yv 0) (zCons (y1 lenV (yPk 4)) Zn)))) (E6 T k' kind (some (.o (W2.map sW))) (some (.v (.int (j:Int))))) c6=some (.nx,E6 T k' kind (some (.o ((W2.set j (cd s)).map sW))) (some (.v (.int (j:Int)))),c7):=
  si_at e7 (Vaa rfl) rfl (by rw [zlm];omega) (by rw [List.map_set,←cd_s];rfl)
 have ws3:wsum (W2.set j (cd s))≤n+24:=by have:=wsum_set (cd s) W2 j;have:=sl.1;omega
 have wch3:∀w∈W2.set j (cd s),Ch w:=fun w m=>by
  rcases List.mem_or_eq_of_mem_set m with m|rfl
  ·exact wch2 w m
  ·exact sl.2
 generalize W2.set j (cd s)=W3 at *
 have wl3:W3.length≤n+24:=by have:=wsum_len W3;omega
 have t4:uBl (y2 V2.eqV (yPk 5) (yC (.int (4)))) (E6 T k' kind (some (.o (W3.map sW))) (some (.v (.int (j:Int))))) c7=some (decide (kind=4),c7):=ubl_at (y2_at (pk_at rfl) q_c (eqV_int ..))
 obtain⟨W4,s4,ws4,wch4⟩:∃W4:List (List Nat),rIf (uBl (y2 V2.eqV (yPk 5) (yC (.int (4))))) (rAo 6 (y2 catV (ySf (yPk 6) oN2 (oS2 (Yv 7))) (ySf (yPk 6) (oS2 (y2 addV (yPk 7) (yC (.int (1))))) oN2))) rNx (E6 T k' kind (some (.o (W3.map sW))) (some (.v (.int (j:Int))))) c7=some (.nx,E6 T k' kind (some (.o (W4.map sW))) (some (.v (.int (j:Int)))),c7)∧wsum W4≤n+24∧∀w∈W4,Ch w:=by
  by_cases h4:kind=4
  ·rw [zdt h4] at t4
   refine⟨W3.take j++W3.drop (j+1),(rif_t t4).trans (ao_at (y2_at (d:=.lst ((W3.take j).map sW)) (e:=.lst ((W3.drop (j+1)).map sW)) (by rw [sf_at (pko_at rfl) rfl (os_at (Vaa rfl)),cut_to]) (by rw [sf_at (pko_at rfl) (os_at (y2_at (pk_at rfl) q_c (show addV (.int (j:Int)) (.int 1)=some (.int ((j+1:Nat):Int)) from rfl))) rfl,cut_from]) (by rw [catL (by rw [zlm,zlm,List.length_take,List.length_drop];omega),zmq])) rfl),?_,?_⟩
   ·have:=wsum_cut W3 j
    omega
   ·intro w m
    rcases zma m with m|m
    ·exact wch3 w (List.mem_of_mem_take m)
    ·exact wch3 w (List.mem_of_mem_drop m)
  ·rw [zdf h4] at t4
   exact⟨W3,(rif_f t4).trans rfl,ws3,wch3⟩
 have jn:y2 joinV (yC (.str " ")) (yPk 6) (E6 T k' kind (some (.o (W4.map sW))) (some (.v (.int (j:Int))))) c7=some (sW (TL.joinL [32] W4),c7):=y2_at q_c (pko_at rfl) (by rw [l_s];exact join_V (sep:=[32]) (ws:=W4) (by have:=wsum_len W4;simp;omega))
 have lo:ySf (yPk 1) oN2 (oS2 (Yv 2)) (E6 T k' kind (some (.o (W4.map sW))) (some (.v (.int (j:Int))))) c7=some (.lst ((T.take k').map sW),c7):=by
  rw [sf_at (pk_at rfl) rfl (os_at (Vaa rfl)),cut_to]
 have up:ySf (yPk 1) (oS2 (y2 addV (yPk 2) (yC (.int (1))))) oN2 (E6 T k' kind (some (.o (W4.map sW))) (some (.v (.int (j:Int))))) c7=some (.lst ((T.drop (k'+1)).map sW),c7):=by
  rw [sf_at (pk_at rfl) (os_at (y2_at (pk_at rfl) q_c (show addV (.int (k':Int)) (.int 1)=some (.int ((k'+1:Nat):Int)) from rfl))) rfl,cut_from]
 refine⟨T.take k'++[TL.joinL [32] W4]++T.drop (k'+1),c7,⟨_,(sq_nx s1).trans ((sq_nx s2).trans ((sq_nx s3).trans ((sq_nx s4).trans (rt_at (cat3 (by omega) (by simp) lo (lst_at (zcons_at jn q_nil) (by simp)) up)))))⟩,fun hT=>spl_mk hT _ (fun y m=>?_) (by rw [List.length_take,List.length_drop];simp;omega)⟩
 rw [zsg m]
 exact⟨znt (join_wsum W4) ws4,ch_join (sep:=[32]) (fun c m=>by rw [zsg m];decide) W4 wch4⟩
theorem spoilt_g {T:List (List Nat)}{n:Nat}(hT:∀x∈T,Lk n x)(hn:n≤500)(hl:T.length≤500)(c:Cs):∃T' c',g_law_spoilt_lines [.tok,.lst (T.map sW)] c=some (.lst (T'.map sW),c')∧Spl T n T':=by
 have lenT:lenV (.lst (T.map sW))=some (.int T.length):=by show some (DV.int ((T.map sW).length:Nat))=_;rw [zlm]
 obtain⟨d,c1,e1,d0,d1⟩:=take2 c (many:=(T.length:Int)+1) (by omega) (by omega)
 obtain⟨k,rfl⟩:∃k:Nat,d=k:=⟨d.toNat,by omega⟩
 obtain⟨kind,c5,e5,k0,k1⟩:=take2 c1 (many:=5) (by decide) (by decide)
 have s1:rAs 2 (Yc 2 g_law_take (zCons (Yv 0) (zCons (y2 addV (y1 lenV (yPk 1)) (yC (.int (1)))) Zn))) [some (.v .tok),some (.v (.lst (T.map sW))),none,none,none,none,none,none,none] c=some (.nx,[some (.v .tok),some (.v (.lst (T.map sW))),some (.v (.int (k:Int))),none,none,none,none,none,none],c1):=
  as_at ((Caa (ds:=[.tok,.int ((T.length:Int)+1)]) (zcons_at (Vaa rfl) (zcons_at (y2_at (y1_at (pk_at rfl) lenT) q_c rfl) q_nil)) rfl).trans e1) rfl
 have s2:rAs 3 (yLst (zLits ro1)) [some (.v .tok),some (.v (.lst (T.map sW))),some (.v (.int (k:Int))),none,none,none,none,none,none] c1=some (.nx,[some (.v .tok),some (.v (.lst (T.map sW))),some (.v (.int (k:Int))),some (.v (.lst (ro1.map .str))),none,none,none,none,none],c1):=as_at (ylits ro1 (by decide)) rfl
 have s3:rAs 3 (y2 catV (yPk 3) (yLst (zLits ro2))) [some (.v .tok),some (.v (.lst (T.map sW))),some (.v (.int (k:Int))),some (.v (.lst (ro1.map .str))),none,none,none,none,none] c1=some (.nx,[some (.v .tok),some (.v (.lst (T.map sW))),some (.v (.int (k:Int))),some (.v (.lst ((ro1++ro2).map .str))),none,none,none,none,none],c1):=as_at (y2_at (pk_at rfl) (ylits ro2 (by decide)) (catL (by decide))) rfl
 have s4:rAs 3 (y2 catV (yPk 3) (yLst (zLits ro3))) [some (.v .tok),some (.v (.lst (T.map sW))),some (.v (.int (k:Int))),some (.v (.lst ((ro1++ro2).map .str))),none,none,none,none,none] c1=some (.nx,[some (.v .tok),some (.v (.lst (T.map sW))),some (.v (.int (k:Int))),some (.v (.lst (rowsT.map .str))),none,none,none,none,none],c1):=as_at (y2_at (pk_at rfl) (ylits ro3 (by decide)) (catL (by decide))) rfl
 have s5:rAs 4 (yLst (zLits ro4)) [some (.v .tok),some (.v (.lst (T.map sW))),some (.v (.int (k:Int))),some (.v (.lst (rowsT.map .str))),none,none,none,none,none] c1=some (.nx,[some (.v .tok),some (.v (.lst (T.map sW))),some (.v (.int (k:Int))),some (.v (.lst (rowsT.map .str))),some (.v (.lst (ro4.map .str))),none,none,none,none],c1):=as_at (ylits ro4 (by decide)) rfl
 have s6:rAs 4 (y2 catV (yPk 4) (yLst (zLits ro5))) [some (.v .tok),some (.v (.lst (T.map sW))),some (.v (.int (k:Int))),some (.v (.lst (rowsT.map .str))),some (.v (.lst (ro4.map .str))),none,none,none,none] c1=some (.nx,[some (.v .tok),some (.v (.lst (T.map sW))),some (.v (.int (k:Int))),some (.v (.lst (rowsT.map .str))),some (.v (.lst (menuT.map .str))),none,none,none,none],c1):=as_at (y2_at (pk_at rfl) (ylits ro5 (by decide)) (catL (by decide))) rfl
 have s7:rAs 5 (Yc 2 g_law_take (zCons (Yv 0) (zCons (yC (.int (5))) Zn))) [some (.v .tok),some (.v (.lst (T.map sW))),some (.v (.int (k:Int))),some (.v (.lst (rowsT.map .str))),some (.v (.lst (menuT.map .str))),none,none,none,none] c1=some (.nx,E6 T k kind none none,c5):=as_at ((Caa (ds:=[.tok,.int 5]) (zcons_at (Vaa rfl) (zcons_at q_c q_nil)) rfl).trans e5) rfl
 have fin:∀ {T':List (List Nat)} {V:Env2} {c':Cs},Sp1 (E6 T k kind none none) c5=some (.rt (.lst (T'.map sW)),V,c')→g_law_spoilt_lines [.tok,.lst (T.map sW)] c=some (.lst (T'.map sW),c'):=fun e=>fnf_at rfl ((sq_nx s1).trans ((sq_nx s2).trans ((sq_nx s3).trans ((sq_nx s4).trans ((sq_nx s5).trans ((sq_nx s6).trans ((sq_nx s7).trans e)))))))
 have t8:uOr (uBl (y2 V2.eqV (yPk 5) (yC (.int (0))))) (uNt (uTru (yPk 1))) (E6 T k kind none none) c5=some (decide (kind=0)||T.isEmpty,c5):=uor_b (ubl_at (y2_at (pk_at rfl) q_c (eqV_int ..))) fun _=>(unt_at (b := !T.isEmpty) (utru_at (pk_at rfl) (by cases T<;>rfl))).trans (by cases T<;>rfl)
 cases hb:(decide (kind=0)||T.isEmpty) with
 | true=>
  rw [hb] at t8
  obtain⟨s,ms,c6,e6⟩:=pick_at (l:=rowsT) (i:=3) (v:=E6 T k kind none none) (c:=c5) (by decide) (by decide) rfl rfl
  refine⟨T.take k++[cd s]++T.drop k,c6,fin (sq_rt ((rif_t t8).trans (rt_at (cat3 (by omega) (by simp) (by rw [sf_at (pk_at rfl) rfl (os_at (Vaa rfl)),cut_to]) (lst_at (zcons_at (e6.trans (by rw [cd_s])) q_nil) (by simp)) (by rw [sf_at (pk_at rfl) (os_at (Vaa rfl)) rfl,cut_from]))))),spl_mk hT [cd s] (fun x m=>?_) (by rw [List.length_take,List.length_drop];simp;omega)⟩
  rw [zsg m]
  exact(lits_lk ro_ok ms).up (by omega)
 | false=>
  rw [hb] at t8
  have hne:T≠[]:=by
   rintro rfl
   rw [Bool.or_eq_false_iff] at hb
   exact nomatch hb.2
  have hp:0<T.length:=List.length_pos_iff.mpr hne
  obtain⟨k',ek,hk⟩:∃k':Nat,min2 (.int (k:Int)) (.int ((T.length:Int)-1))=some (.int (k':Int))∧k'<T.length:=by
   show ∃k':Nat,some (DV.int (if(T.length:Int)-1<k then(T.length:Int)-1 else k))=_∧_
   by_cases z:(T.length:Int)-1<k
   ·rw [if_pos z]
    exact⟨T.length-1,by congr 2;omega,by omega⟩
   ·rw [if_neg z]
    exact⟨k,rfl,by omega⟩
  have s9:rAs 2 (y2 min2 (yPk 2) (y2 subV (y1 lenV (yPk 1)) (yC (.int (1))))) (E6 T k kind none none) c5=some (.nx,E6 T k' kind none none,c5):=as_at (y2_at (pk_at rfl) (y2_at (y1_at (pk_at rfl) lenT) q_c rfl) ek) rfl
  have fin2:∀ {T':List (List Nat)} {V:Env2} {c':Cs},Sp2 (E6 T k' kind none none) c5=some (.rt (.lst (T'.map sW)),V,c')→g_law_spoilt_lines [.tok,.lst (T.map sW)] c=some (.lst (T'.map sW),c'):=fun e=>fin ((sq_nx ((rif_f t8).trans rfl)).trans ((sq_nx s9).trans e))
  have t10:uBl (y2 V2.eqV (yPk 5) (yC (.int (1)))) (E6 T k' kind none none) c5=some (decide (kind=1),c5):=ubl_at (y2_at (pk_at rfl) q_c (eqV_int ..))
  have t11:uBl (y2 V2.eqV (yPk 5) (yC (.int (2)))) (E6 T k' kind none none) c5=some (decide (kind=2),c5):=ubl_at (y2_at (pk_at rfl) q_c (eqV_int ..))
  have lo:∀ {a6 a7:Option Sl} {c':Cs},ySf (yPk 1) oN2 (oS2 (Yv 2)) (E6 T k' kind a6 a7) c'=some (.lst ((T.take k').map sW),c'):=by
   intro a6 a7 c'
   rw [sf_at (pk_at rfl) rfl (os_at (Vaa rfl)),cut_to]
  have up:∀ {a6 a7:Option Sl} {c':Cs},ySf (yPk 1) (oS2 (y2 addV (yPk 2) (yC (.int (1))))) oN2 (E6 T k' kind a6 a7) c'=some (.lst ((T.drop (k'+1)).map sW),c'):=by
   intro a6 a7 c'
   rw [sf_at (pk_at rfl) (os_at (y2_at (pk_at rfl) q_c (show addV (.int (k':Int)) (.int 1)=some (.int ((k'+1:Nat):Int)) from rfl))) rfl,cut_from]
  by_cases h1:kind=1
  ·rw [zdt h1] at t10
   refine⟨T.take k'++[]++T.drop (k'+1),c5,fin2 (sq_rt ((rif_t t10).trans (rt_at ?_))),spl_mk hT [] nofun (by rw [List.length_take,List.length_drop];simp;omega)⟩
   refine y2_at lo up ?_
   rw [catL (by rw [zlm,zlm,List.length_take,List.length_drop];omega),List.append_nil,zmq]
  ·rw [zdf h1] at t10
   by_cases h2:kind=2
   ·rw [zdt h2] at t11
    refine⟨T.take k'++(T.drop k').take 1++T.drop k',c5,fin2 ((sq_nx ((rif_f t10).trans rfl)).trans (sq_rt ((rif_t t11).trans (rt_at (cat3 (by omega) (by rw [List.length_take];omega) lo (by rw [sf_at (pk_at rfl) (os_at (Vaa rfl)) (os_at (y2_at (pk_at rfl) q_c (show addV (.int (k':Int)) (.int 1)=some (.int ((k':Int)+1)) from rfl))),cut_mid]) (by rw [sf_at (pk_at rfl) (os_at (Vaa rfl)) rfl,cut_from])))))),spl_mk hT _ (fun x m=>(hT x (List.mem_of_mem_drop (List.mem_of_mem_take m))).up (by omega)) (by rw [List.length_take,List.length_take,List.length_drop];omega)⟩
   ·rw [zdf h2] at t11
    have hx:T[k']?=some T[k']:=List.getElem?_eq_getElem hk
    generalize T[k']=x at hx
    obtain⟨T2,c9,⟨V9,e9⟩,hT2⟩:=sp3 hx (hT x (List.mem_of_getElem? hx)) hn hl kind c5
    exact⟨T2,c9,fin2 ((sq_nx ((rif_f t10).trans rfl)).trans ((sq_nx ((rif_f t11).trans rfl)).trans e9)),hT2 hT⟩
theorem rep_hash (n:Nat):∀acc:List Nat,(List.replicate n (#[35]:Array Nat)).foldl (· ++ ·) acc.toArray=(acc++List.replicate n 35).toArray:=by
 induction n with
 | zero=>intro acc;simp
 | succ n ih=>
  intro acc
  rw [List.replicate_succ,List.foldl_cons,show acc.toArray ++ #[35]=(acc++[35]).toArray by simp,ih,List.replicate_succ]
  simp
theorem hashes {k:Int}(h:k≤100000)(h2 : -(2 ^ 60)<k):smulV (.str "#") (.int k)=some (sW (List.replicate k.toNat 35)):=by
 show(if("#":Str).length=1 ∧ -(2 ^ 60)<k∧k≤100000 then some (DV.str (Rf.repS "#" k)) else none)=_
 rw [if_pos ⟨by decide,h2,h⟩]
 congr 2
 unfold Rf.repS
 have e:("#":Str).cps = #[35]:=by decide
 rw [e]
 have:=rep_hash k.toNat []
 rw [List.nil_append] at this
 show(⟨_⟩:Str)=⟨(List.replicate k.toNat 35).toArray⟩
 rw [←this]
abbrev G6 (T:List (List Nat))(a3 a4 a5:Option Sl):Env2:=[none,some (.v .tok),some (.v (.lst (T.map sW))),a3,a4,a5]
theorem sp_loop:∀(ds:List DV) (T:List (List Nat)) (n:Nat) (a3:Option Sl) (c:Cs),(∀x∈T,Lk n x)→n+24*ds.length≤500→T.length+ds.length≤500→
  ∃T' c' b3,forW (qNm 3) l_law_0 ds (G6 T a3 none none) c=some (.nx,G6 T' b3 none none,c')∧(∀x∈T',Lk (n+24*ds.length) x)∧T'.length≤T.length+ds.length
 | [],T,n,a3,c,hT,_,_=>⟨T,c,a3,rfl,hT,znr _⟩
 | d::ds,T,n,a3,c,hT,hn,hl=>by
  rw [zlc] at hn hl
  obtain⟨T1,c1,e1,s1⟩:=spoilt_g hT (by omega) (by omega) c
  have st:l_law_0 (G6 T (some (.v d)) none none) c=some (.nx,G6 T1 (some (.v d)) none none,c1):=as_at ((Caa (ds:=[.tok,.lst (T.map sW)]) (zcons_at (Vaa rfl) (zcons_at (Vaa rfl) q_nil)) rfl).trans e1) rfl
  obtain⟨T2,c2,b3,e2,h2,l2⟩:=sp_loop ds T1 (n+24) (some (.v d)) c1 s1.lk (by omega) (by have:=s1.len;omega)
  refine⟨T2,c2,b3,(forW_one (v1:=G6 T (some (.v d)) none none) rfl st).trans e2,fun x m=>(h2 x m).up (by rw [zlc];omega),?_⟩
  have:=s1.len
  rw [zlc]
  omega
theorem l_outs:("out ":Str)=TS' [111,117,116,32]:=by decide
def outL (i:Nat):List Nat:=[111,117,116,32]++numI ((0:Int)+i)
theorem outL_lk {i:Nat}(h:i≤100):Lk 600 (outL i):=by
 have hb:Bd ((0:Int)+i):=⟨by omega,by omega⟩
 have:=numI_len hb
 refine⟨by unfold outL;rw [zla];show 4+_≤600;omega,fun c hc=>?_⟩
 rcases zma hc with hc|hc
 ·simp only [List.mem_cons,List.not_mem_nil,or_false] at hc
  omega
 ·exact okc_ch (numI_ok _ c hc)
theorem lc_range {i:Nat}{a:E2}{v:Env2}{c:Cs}(f:Nat→DV)(m:Nat)(h:∀k,k<m→∃v',qNm i (.int ((0:Int)+k)) v=some v'∧a v' c=some (f k,c)):lcW (qNm i) uYs a v (rangeD 0 m) c=some ((List.range m).map f,c):=
 lc_all (fun k:Nat=>DV.int ((0:Int)+k)) f (List.range m) fun k hk=>h k (List.mem_range.mp hk)
def FinS (T:List (List Nat)):Prop:=(∀x∈T,Lk 600 x)∧T.length≤60
theorem fin_app {A B:List (List Nat)}(hA:∀x∈A,Lk 600 x)(hB:∀x∈B,Lk 600 x):∀x∈A++B,Lk 600 x:=fun x m=>(zma m).elim (hA x) (hB x)
theorem kind0 {T:List (List Nat)}{a3:Option Sl}{kind:Int}(hT:FinS T)(hl:T.length≤40)(c:Cs):∃T' c',rIf (uBl (y2 V2.eqV (yPk 4) (yC (.int (0))))) (rAs 2 (y2 catV (yPk 2) (yLc [3] (jRg1 (y2 subV (yC (.int (13))) (Yc 2 g_law_take (zCons (Yv 1) (zCons (yC (.int (3))) Zn))))) (qNm 3) uYs (y2 addV (yC (.str "out ")) (y1 strV (yPk 3)))))) rNx (G6 T a3 (some (.v (.int kind))) none) c=some (.nx,G6 T' a3 (some (.v (.int kind))) none,c')∧FinS T'∧(kind≠0→T'=T):=by
 have t:uBl (y2 V2.eqV (yPk 4) (yC (.int (0)))) (G6 T a3 (some (.v (.int kind))) none) c=some (decide (kind=0),c):=ubl_at (y2_at (pk_at rfl) q_c (eqV_int ..))
 by_cases h:kind=0
 ·rw [zdt h] at t
  obtain⟨d,c1,e1,d0,d1⟩:=take2 c (many:=3) (by decide) (by decide)
  have it:jRg1 (y2 subV (yC (.int (13))) (Yc 2 g_law_take (zCons (Yv 1) (zCons (yC (.int (3))) Zn)))) (G6 T a3 (some (.v (.int kind))) none) c=some (rangeD 0 (13-d).toNat,c1):=jrg1_at (by omega) (by omega) (y2_at q_c ((Caa (ds:=[.tok,.int 3]) (zcons_at (Vaa rfl) (zcons_at q_c q_nil)) rfl).trans e1) rfl)
  have hm:(13-d).toNat≤13:=by omega
  generalize (13-d).toNat=m at *
  have lc:lcW (qNm 3) uYs (y2 addV (yC (.str "out ")) (y1 strV (yPk 3))) (wipe2 (G6 T a3 (some (.v (.int kind))) none) [3]) (rangeD 0 m) c1=some ((List.range m).map fun k=>sW (outL k),c1):=
   lc_range (fun k=>sW (outL k)) m fun k hk=>⟨G6 T (some (.v (.int ((0:Int)+k)))) (some (.v (.int kind))) none,rfl,y2_at q_c (y1_at (pk_at rfl) (str_intV ⟨by omega,by omega⟩)) (by
    rw [l_outs]
    have:=numI_len (n:=(0:Int)+k) ⟨by omega,by omega⟩
    exact addW (by show 4+_≤900000;omega))⟩
  refine⟨T++(List.range m).map outL,c1,(rif_t t).trans (as_at (y2_at (pk_at rfl) (lc_at it (by rw [range_len];omega) rfl lc) (r:=.lst ((T++(List.range m).map outL).map sW)) ?_) rfl),⟨fin_app hT.1 fun x mx=>?_,by rw [zla,zlm,List.length_range];omega⟩,fun z=>absurd h z⟩
  ·rw [catL (by rw [zlm,zlm,List.length_range];omega),zmq,List.map_map]
   rfl
  ·obtain⟨k,hk,rfl⟩:=List.mem_map.mp mx
   exact outL_lk (by have:=List.mem_range.mp hk;omega)
 ·rw [zdf h] at t
  exact⟨T,c,(rif_f t).trans rfl,hT,fun _=>rfl⟩
theorem lk3:Lk 600 (cd "loop 2")∧Lk 600 (cd "  out 1")∧Lk 600 (cd "end"):=⟨(lkb_ok (by decide +kernel)).up (by decide),(lkb_ok (by decide +kernel)).up (by decide),(lkb_ok (by decide +kernel)).up (by decide)⟩
theorem flat_rep (n:Nat)(d:DV):(List.replicate n [d]).flatten=List.replicate n d:=by
 induction n with
 | zero=>rfl
 | succ n ih=>rw [List.replicate_succ,List.flatten_cons,ih,List.replicate_succ];rfl
theorem kind1 {T:List (List Nat)}{a3:Option Sl}{kind:Int}(hT:FinS T)(hl:kind≠0→T.length≤40)(c:Cs):∃T' c',rIf (uBl (y2 V2.eqV (yPk 4) (yC (.int (1))))) (rAs 2 (y2 catV (y2 catV (y2 catV (yPk 2) (yLst (zCons (yC (.str "loop 2")) Zn))) (y2 repV (yLst (zCons (yC (.str "  out 1")) Zn)) (y2 addV (yC (.int (11))) (Yc 2 g_law_take (zCons (Yv 1) (zCons (yC (.int (3))) Zn)))))) (yLst (zCons (yC (.str "end")) Zn)))) rNx (G6 T a3 (some (.v (.int kind))) none) c=some (.nx,G6 T' a3 (some (.v (.int kind))) none,c')∧FinS T':=by
 have t:uBl (y2 V2.eqV (yPk 4) (yC (.int (1)))) (G6 T a3 (some (.v (.int kind))) none) c=some (decide (kind=1),c):=ubl_at (y2_at (pk_at rfl) q_c (eqV_int ..))
 by_cases h:kind=1
 ·rw [zdt h] at t
  have hl2:=hl (by omega)
  obtain⟨d,c1,e1,d0,d1⟩:=take2 c (many:=3) (by decide) (by decide)
  obtain⟨k1,k2,k3⟩:=lk3
  refine⟨T++[cd "loop 2"]++List.replicate (11+d).toNat (cd "  out 1")++[cd "end"],c1,(rif_t t).trans (as_at (y2_at (y2_at (y2_at (pk_at rfl) (lst_at (zcons_at q_c q_nil) (by simp)) (r:=.lst ((T++[cd "loop 2"]).map sW)) ?_) (y2_at (lst_at (zcons_at q_c q_nil) (by simp)) (y2_at q_c ((Caa (ds:=[.tok,.int 3]) (zcons_at (Vaa rfl) (zcons_at q_c q_nil)) rfl).trans e1) (show addV (.int 11) (.int d)=some (.int (11+d)) from rfl)) (r:=.lst ((List.replicate (11+d).toNat (cd "  out 1")).map sW)) ?_) (r:=.lst ((T++[cd "loop 2"]++List.replicate (11+d).toNat (cd "  out 1")).map sW)) ?_) (lst_at (zcons_at q_c q_nil) (by simp)) (r:=.lst ((T++[cd "loop 2"]++List.replicate (11+d).toNat (cd "  out 1")++[cd "end"]).map sW)) ?_) rfl),?_,?_⟩
  ·rw [catL (by rw [zlm];simp;omega),zmq]
   rfl
  ·show(if _ then _ else _)=_
   rw [if_pos ?_]
   ·rw [flat_rep,List.map_replicate]
    rfl
   ·refine⟨by omega,by omega,?_⟩
    rw [PySem.sizeLine_eq]
    simp
    omega
  ·rw [catL (by rw [zlm,zlm];simp;omega),←zmq]
  ·rw [catL (by rw [zlm];simp;omega),zmq (l₂:=[cd "end"])]
   rfl
  ·refine fin_app (fin_app (fin_app hT.1 fun x m=>?_) fun x m=>?_) fun x m=>?_
   ·rw [zsg m];exact k1
   ·rw [List.eq_of_mem_replicate m];exact k2
   ·rw [zsg m];exact k3
  ·simp
   omega
 ·rw [zdf h] at t
  exact⟨T,c,(rif_f t).trans rfl,hT⟩
theorem sum_lk {T:List (List Nat)}(h:∀x∈T,Lk 600 x):(T.map List.length).sum≤600*T.length:=sum_len fun x m=>(h x m).1
theorem final02 (c:Cs):∃v c',gb_law (none::some (.v .tok)::List.replicate (6-2) none) c=some (.rt (.bl true),v,c'):=by
 obtain⟨ps,c1,e1,h,hl,hn⟩:=program2 c
 have L:=lines2 h hl c1
 have s1:rAs 2 (Yc 1 g_law_lines (zCons (Yc 3 g_law_program (zCons (Yv 1) (zCons (yC (.int (16))) (zCons (yC (.int (6))) Zn)))) Zn)) [none,some (.v .tok),none,none,none,none] c=some (.nx,G6 (lnsOf ps) none none none,c1):=
  as_at ((Caa (ds:=[.tup (ps.map St.e)]) (zcons_at ((Caa (ds:=[.tok,.int 16,.int 6]) (c1:=c) rfl rfl).trans e1) q_nil) rfl).trans L) rfl
 obtain⟨d,c2,e2,d0,d1⟩:=take2 c1 (many:=3) (by decide) (by decide)
 have it:jRg1 (y2 addV (yC (.int (1))) (Yc 2 g_law_take (zCons (Yv 1) (zCons (yC (.int (3))) Zn)))) (G6 (lnsOf ps) none none none) c1=some (rangeD 0 (1+d).toNat,c2):=jrg1_at (by omega) (by omega) (y2_at q_c ((Caa (ds:=[.tok,.int 3]) (zcons_at (Vaa rfl) (zcons_at q_c q_nil)) rfl).trans e2) rfl)
 have rl:(rangeD 0 (1+d).toNat).length≤3:=by rw [range_len];omega
 obtain⟨T1,c3,b3,e3,hT1,lT1⟩:=sp_loop (rangeD 0 (1+d).toNat) (lnsOf ps) 54 none c2 (lns_lk h) (by omega) (by omega)
 have s2:=(for_at (g:=qNm 3) (r:=l_law_0) it).trans e3
 have f1:FinS T1:=⟨fun x m=>(hT1 x m).up (by omega),by omega⟩
 obtain⟨kind,c4,e4,k0,k1⟩:=take2 c3 (many:=8) (by decide) (by decide)
 have s3:rAs 4 (Yc 2 g_law_take (zCons (Yv 1) (zCons (yC (.int (8))) Zn))) (G6 T1 b3 none none) c3=some (.nx,G6 T1 b3 (some (.v (.int kind))) none,c4):=as_at ((Caa (ds:=[.tok,.int 8]) (zcons_at (Vaa rfl) (zcons_at q_c q_nil)) rfl).trans e4) rfl
 obtain⟨T2,c5,s4,f2,k2⟩:=kind0 (a3:=b3) (kind:=kind) f1 (by omega) c4
 obtain⟨T3,c6,s5,f3⟩:=kind1 (T:=T2) (a3:=b3) (kind:=kind) f2 (fun z=>by rw [k2 z];omega) c5
 have hs:=sum_lk f3.1
 have s6:rAs 5 (y2 joinV (yC (.str "\n")) (yPk 2)) (G6 T3 b3 (some (.v (.int kind))) none) c6=some (.nx,G6 T3 b3 (some (.v (.int kind))) (some (.v (sW (TL.joinL [10] T3)))),c6):=as_at (y2_at q_c (pk_at rfl) (by rw [l_n];exact join_V (sep:=[10]) (ws:=T3) (by have:=f3.2;simp;omega))) rfl
 have jl:(TL.joinL [10] T3).length≤40000:=by
  have:=joinL_len [10] T3
  have:=f3.2
  simp at *
  omega
 obtain⟨n,c7,hn7,s7⟩:∃n c7,n≤10000∧rIf (uBl (y2 V2.eqV (yPk 4) (yC (.int (2))))) (rAs 5 (y2 addV (yPk 5) (y2 smulV (yC (.str "#")) (y2 subV (y2 addV (yC (.int (3998))) (Yc 2 g_law_take (zCons (Yv 1) (zCons (yC (.int (5))) Zn)))) (y1 lenV (yPk 5)))))) rNx (G6 T3 b3 (some (.v (.int kind))) (some (.v (sW (TL.joinL [10] T3))))) c6=some (.nx,G6 T3 b3 (some (.v (.int kind))) (some (.v (sW (TL.joinL [10] T3++List.replicate n 35)))),c7):=by
  have t:uBl (y2 V2.eqV (yPk 4) (yC (.int (2)))) (G6 T3 b3 (some (.v (.int kind))) (some (.v (sW (TL.joinL [10] T3))))) c6=some (decide (kind=2),c6):=ubl_at (y2_at (pk_at rfl) q_c (eqV_int ..))
  by_cases hk:kind=2
  ·rw [zdt hk] at t
   obtain⟨d7,c7,e7,q0,q1⟩:=take2 c6 (many:=5) (by decide) (by decide)
   refine⟨((3998+d7)-((TL.joinL [10] T3).length:Int)).toNat,c7,by omega,(rif_t t).trans (as_at (y2_at (pk_at rfl) (y2_at q_c (y2_at (y2_at q_c ((Caa (ds:=[.tok,.int 5]) (zcons_at (Vaa rfl) (zcons_at q_c q_nil)) rfl).trans e7) rfl) (y1_at (pk_at rfl) (lenS (by omega))) rfl) (hashes (k:=(3998+d7)-((TL.joinL [10] T3).length:Int)) (by omega) (by omega))) (addW (by rw [List.length_replicate];omega))) rfl)⟩
  ·rw [zdf hk] at t
   refine⟨0,c6,by omega,(rif_f t).trans ?_⟩
   rw [List.replicate_zero,List.append_nil]
   rfl
 have ht:=text_ok f3.1 hn7
 have h1:(TL.joinL [10] T3++List.replicate n 35).length≤80000:=by rw [zla,List.length_replicate];omega
 generalize TL.joinL [10] T3++List.replicate n 35=t at *
 have A:=told_g h1 ht c7
 have B:=due_g h1 ht c7
 have E:=tell_eq t ((TL.spl [10] 0 [] t).map wordsOf)
 have s8:rRt (y2 V2.eqV (Yc 1 g_law_told (zCons (Yv 5) Zn)) (Yc 1 g_law_due (zCons (Yv 5) Zn))) (G6 T3 b3 (some (.v (.int kind))) (some (.v (sW t)))) c7=some (.rt (.bl true),G6 T3 b3 (some (.v (.int kind))) (some (.v (sW t))),c7):=
  rt_at (y2_at ((Caa (ds:=[sW t]) (zcons_at (Vaa rfl) q_nil) rfl).trans A) ((Caa (ds:=[sW t]) (zcons_at (Vaa rfl) q_nil) rfl).trans B) E)
 refine⟨G6 T3 b3 (some (.v (.int kind))) (some (.v (sW t))),c7,?_⟩
 unfold gb_law
 exact(sq_nx s1).trans ((sq_nx s2).trans ((sq_nx s3).trans ((sq_nx s4).trans ((sq_nx s5).trans ((sq_nx s6).trans ((sq_nx s7).trans s8))))))
end Gen
end
section
theorem Gen.law_true (ns:List Int)(h:ns.length≤63):∃m,Gen.f_law [.ref 0] [.rol (ns.map Rf.PV.int)]=some (.bl true,m):=Gen.law_of (fun c=>Gen.final02 c) ns h
end
open PySem PySem.W PyProof.Rows
set_option maxRecDepth 100000 in
set_option maxHeartbeats 0 in
theorem PySem.Challenge.cw_trireme_k02_errors_of_texts_holds : PySem.Challenge.rw_trireme_k02_errors_of_texts.Holds := by
 refine hdk02 ?_
 k_fill
 refine L2.walk_ofK (l:=PySem.Challenge.rw_trireme_k02_errors_of_texts) (n:=63) (k:=23) (x:="script") (CX:=L2.CX0) (sp:=fun K vs H Q E=>Rf.SpLaw K vs H Q E) rfl (by decide) rfl ⟨rfl,by decide,by decide⟩ (fun w h Y=>PySem.W.kIn_of Y) ?F (fun _ _ a ns hl hO hS=>⟨a,ns,rfl,hS,hO,hl,fun _=>rfl⟩) (fun _ _ _ _ h=>h)
 case F=>
  intro w mg fa h KX G hmg
  refine' Gen.all_mk Gen.law_true KX G hmg ?aC1 ?aC2 ?aC0 ?xx1q ?xx1kp ?xx1su ?xx1ty ?xy1ga ?xy1gk ?xy1su ?xy1hd ?xy1ca ?xy1cn ?xy1ct ?xy1cm ?xy1ty ?xy1sf ?xy2ga ?xy2gk ?xy2su ?xy2hd ?xy2ca ?xy2cn ?xy2ct ?xy2cm ?xy2ty ?xy2sf ?xw2cls ?xw2ref ?xw2sa ?xw2ga ?xw2gg ?xw2noN ?xw2iC ?xw2tC ?xw2kC ?xw2exC ?xw2vaC ?xw2tyC ?xw2hdC ?xw2sf ?xw2op ?xw2su ?xw2ei ?xw2mr ?xw2fl ?xw2cd ?xw2co ?xw2vs ?xw2fi ?xw2ce ?xw2tp ?xnf2 ?xne1_2 ?xt1_ParseError ?xt1_TriremeError ?xt2_LimitError ?xt2_TriremeError ?zz_ValueError ?xt2_ValueError ?a0 ?l0 ?c0 ?k0 ?a1 ?l1 ?c1 ?k1 ?a2 ?l2 ?c2 ?k2 ?a3 ?l3 ?c3 ?k3 ?a4 ?l4 ?c4 ?k4 ?a5 ?l5 ?c5 ?k5 ?a6 ?l6 ?c6 ?k6 ?a7 ?l7 ?c7 ?k7 ?a8 ?l8 ?c8 ?k8 ?a9 ?l9 ?c9 ?k9 ?a10 ?l10 ?c10 ?k10 ?a11 ?l11 ?c11 ?k11 ?a12 ?l12 ?c12 ?k12 ?a13 ?l13 ?c13 ?k13 ?a14 ?l14 ?c14 ?k14 ?a15 ?l15 ?c15 ?k15 ?a16 ?l16 ?c16 ?k16 ?a17 ?l17 ?c17 ?k17 ?a18 ?l18 ?c18 ?k18 ?a19 ?l19 ?c19 ?k19 ?a20 ?l20 ?c20 ?k20 ?a21 ?l21 ?c21 ?k21 ?a22 ?l22 ?c22 ?k22 ?a23 ?l23 ?c23 ?k23 ?a24 ?l24 ?c24 ?k24 ?a25 ?l25 ?c25 ?k25 ?a26 ?l26 ?c26 ?k26 ?a27 ?l27 ?c27 ?k27 ?a28 ?l28 ?c28 ?k28 ?a29 ?l29 ?c29 ?k29 ?a30 ?l30 ?c30 ?k30 ?a31 ?l31 ?c31 ?k31 ?a32 ?l32 ?c32 ?k32 ?a33 ?l33 ?c33 ?k33 ?a34 ?l34 ?c34 ?k34 ?a35 ?l35 ?c35 ?k35 ?a36 ?l36 ?c36 ?k36 ?g_HIGHEST ?g_LOWEST ?g_MOST_INSTRUCTIONS ?g_MOST_SIGNS ?g_MOST_STATEMENTS ?g_REGISTERS ?z_all ?z_any ?z_enumerate ?z_int ?z_isinstance ?z_len ?z_list ?z_min ?z_range ?z_str ?z_super ?z_tuple ?z_zip ?g_FORMS ?l_FORMS ?q_FORMS ?y_FORMS ?v_FORMS_0 ?w_FORMS_0 ?e_FORMS_0 ?s_FORMS_0 ?v_FORMS_1 ?w_FORMS_1 ?e_FORMS_1 ?s_FORMS_1 ?v_FORMS_2 ?w_FORMS_2 ?e_FORMS_2 ?s_FORMS_2 ?v_FORMS_3 ?w_FORMS_3 ?e_FORMS_3 ?s_FORMS_3 ?v_FORMS_4 ?w_FORMS_4 ?e_FORMS_4 ?s_FORMS_4 ?v_FORMS_5 ?w_FORMS_5 ?e_FORMS_5 ?s_FORMS_5 ?v_FORMS_6 ?w_FORMS_6 ?e_FORMS_6 ?s_FORMS_6 ?v_FORMS_7 ?w_FORMS_7 ?e_FORMS_7 ?s_FORMS_7 ?kx_FORMS
  (case aC1=>k_is)
  (case aC2=>k_is)
  (case aC0=>k_is)
  (case xx1q=>k_exc)
  (case xx1kp=>k_is)
  (case xx1su=>k_is)
  (case xx1ty=>k_is)
  (case xy1ga=>k_is)
  (case xy1gk=>k_is)
  (case xy1su=>k_is)
  (case xy1hd=>k_is)
  (case xy1ca=>k_is)
  (case xy1cn=>k_is)
  (case xy1ct=>k_is)
  (case xy1cm=>k_is)
  (case xy1ty=>k_is)
  (case xy1sf=>k_is)
  (case xy2ga=>k_is)
  (case xy2gk=>k_is)
  (case xy2su=>k_is)
  (case xy2hd=>k_is)
  (case xy2ca=>k_is)
  (case xy2cn=>k_is)
  (case xy2ct=>k_is)
  (case xy2cm=>k_is)
  (case xy2ty=>k_is)
  (case xy2sf=>k_is)
  (case xw2cls=>k_is)
  (case xw2ref=>first|rfl|decide +kernel)
  (case xw2sa=>k_is)
  (case xw2ga=>k_is)
  (case xw2gg=>k_is)
  (case xw2noN=>k_is)
  (case xw2iC=>k_is)
  (case xw2tC=>k_is)
  (case xw2kC=>k_is)
  (case xw2exC=>k_is)
  (case xw2vaC=>k_is)
  (case xw2tyC=>k_is)
  (case xw2hdC=>k_is)
  (case xw2sf=>k_is)
  (case xw2op=>k_is)
  (case xw2su=>first|ks_is|kx_is|k_is|decide +kernel)
  (case xw2ei=>first|kx_is|k_is|decide +kernel)
  (case xw2mr=>k_is)
  (case xw2fl=>k_is)
  (case xw2cd=>k_is)
  (case xw2co=>k_is)
  (case xw2vs=>first|rfl|decide +kernel)
  (case xw2fi=>first|rfl|decide +kernel)
  (case xw2ce=>k_is)
  (case xw2tp=>first|rfl|decide +kernel)
  (case xnf2=>k_is)
  (case xne1_2=>k_is)
  (case xt1_ParseError=>kit_is)
  (case xt1_TriremeError=>kit_is)
  (case xt2_LimitError=>kit_is)
  (case xt2_TriremeError=>kit_is)
  (case zz_ValueError=>k_is)
  (case xt2_ValueError=>kit_is)
  (case a0=>k_is)
  (case l0=>k_is)
  (case c0=>k_is)
  (case k0=>k_is)
  (case a1=>k_is)
  (case l1=>k_is)
  (case c1=>k_is)
  (case k1=>k_is)
  (case a2=>k_is)
  (case l2=>k_is)
  (case c2=>k_is)
  (case k2=>k_is)
  (case a3=>k_is)
  (case l3=>k_is)
  (case c3=>k_is)
  (case k3=>k_is)
  (case a4=>k_is)
  (case l4=>k_is)
  (case c4=>k_is)
  (case k4=>k_is)
  (case a5=>k_is)
  (case l5=>k_is)
  (case c5=>k_is)
  (case k5=>k_is)
  (case a6=>k_is)
  (case l6=>k_is)
  (case c6=>k_is)
  (case k6=>k_is)
  (case a7=>k_is)
  (case l7=>k_is)
  (case c7=>k_is)
  (case k7=>k_is)
  (case a8=>k_is)
  (case l8=>k_is)
  (case c8=>k_is)
  (case k8=>k_is)
  (case a9=>k_is)
  (case l9=>k_is)
  (case c9=>k_is)
  (case k9=>k_is)
  (case a10=>k_is)
  (case l10=>k_is)
  (case c10=>k_is)
  (case k10=>k_is)
  (case a11=>k_is)
  (case l11=>k_is)
  (case c11=>k_is)
  (case k11=>k_is)
  (case a12=>k_is)
  (case l12=>k_is)
  (case c12=>k_is)
  (case k12=>k_is)
  (case a13=>k_is)
  (case l13=>k_is)
  (case c13=>k_is)
  (case k13=>k_is)
  (case a14=>k_is)
  (case l14=>k_is)
  (case c14=>k_is)
  (case k14=>k_is)
  (case a15=>k_is)
  (case l15=>k_is)
  (case c15=>k_is)
  (case k15=>k_is)
  (case a16=>k_is)
  (case l16=>k_is)
  (case c16=>k_is)
  (case k16=>k_is)
  (case a17=>k_is)
  (case l17=>k_is)
  (case c17=>k_is)
  (case k17=>k_is)
  (case a18=>k_is)
  (case l18=>k_is)
  (case c18=>k_is)
  (case k18=>k_is)
  (case a19=>k_is)
  (case l19=>k_is)
  (case c19=>k_is)
  (case k19=>k_is)
  (case a20=>k_is)
  (case l20=>k_is)
  (case c20=>k_is)
  (case k20=>k_is)
  (case a21=>k_is)
  (case l21=>k_is)
  (case c21=>k_is)
  (case k21=>k_is)
  (case a22=>k_is)
  (case l22=>k_is)
  (case c22=>k_is)
  (case k22=>k_is)
  (case a23=>k_is)
  (case l23=>k_is)
  (case c23=>k_is)
  (case k23=>k_is)
  (case a24=>k_is)
  (case l24=>k_is)
  (case c24=>k_is)
  (case k24=>k_is)
  (case a25=>k_is)
  (case l25=>k_is)
  (case c25=>k_is)
  (case k25=>k_is)
  (case a26=>k_is)
  (case l26=>k_is)
  (case c26=>k_is)
  (case k26=>k_is)
  (case a27=>k_is)
  (case l27=>k_is)
  (case c27=>k_is)
  (case k27=>k_is)
  (case a28=>k_is)
  (case l28=>k_is)
  (case c28=>k_is)
  (case k28=>k_is)
  (case a29=>k_is)
  (case l29=>k_is)
  (case c29=>k_is)
  (case k29=>k_is)
  (case a30=>k_is)
  (case l30=>k_is)
  (case c30=>k_is)
  (case k30=>k_is)
  (case a31=>k_is)
  (case l31=>k_is)
  (case c31=>k_is)
  (case k31=>k_is)
  (case a32=>k_is)
  (case l32=>k_is)
  (case c32=>k_is)
  (case k32=>k_is)
  (case a33=>k_is)
  (case l33=>k_is)
  (case c33=>k_is)
  (case k33=>k_is)
  (case a34=>k_is)
  (case l34=>k_is)
  (case c34=>k_is)
  (case k34=>k_is)
  (case a35=>k_is)
  (case l35=>k_is)
  (case c35=>k_is)
  (case k35=>k_is)
  (case a36=>k_is)
  (case l36=>k_is)
  (case c36=>k_is)
  (case k36=>k_is)
  (case g_HIGHEST=>k_is)
  (case g_LOWEST=>k_is)
  (case g_MOST_INSTRUCTIONS=>k_is)
  (case g_MOST_SIGNS=>k_is)
  (case g_MOST_STATEMENTS=>k_is)
  (case g_REGISTERS=>k_is)
  (case z_all=>k_is)
  (case z_any=>k_is)
  (case z_enumerate=>k_is)
  (case z_int=>k_is)
  (case z_isinstance=>k_is)
  (case z_len=>k_is)
  (case z_list=>k_is)
  (case z_min=>k_is)
  (case z_range=>k_is)
  (case z_str=>k_is)
  (case z_super=>k_is)
  (case z_tuple=>k_is)
  (case z_zip=>k_is)
  (case g_FORMS=>k_is)
  (case l_FORMS=>k_is)
  (case q_FORMS=>k_keys)
  (case y_FORMS=>exact rfl)
  (case v_FORMS_0=>k_is)
  (case w_FORMS_0=>k_is)
  (case e_FORMS_0=>repeat' (first|exact .nil|refine .cons ⟨_,rfl⟩ ?_))
  (case s_FORMS_0=>decide)
  (case v_FORMS_1=>k_is)
  (case w_FORMS_1=>k_is)
  (case e_FORMS_1=>repeat' (first|exact .nil|refine .cons ⟨_,rfl⟩ ?_))
  (case s_FORMS_1=>decide)
  (case v_FORMS_2=>k_is)
  (case w_FORMS_2=>k_is)
  (case e_FORMS_2=>repeat' (first|exact .nil|refine .cons ⟨_,rfl⟩ ?_))
  (case s_FORMS_2=>decide)
  (case v_FORMS_3=>k_is)
  (case w_FORMS_3=>k_is)
  (case e_FORMS_3=>repeat' (first|exact .nil|refine .cons ⟨_,rfl⟩ ?_))
  (case s_FORMS_3=>decide)
  (case v_FORMS_4=>k_is)
  (case w_FORMS_4=>k_is)
  (case e_FORMS_4=>repeat' (first|exact .nil|refine .cons ⟨_,rfl⟩ ?_))
  (case s_FORMS_4=>decide)
  (case v_FORMS_5=>k_is)
  (case w_FORMS_5=>k_is)
  (case e_FORMS_5=>repeat' (first|exact .nil|refine .cons ⟨_,rfl⟩ ?_))
  (case s_FORMS_5=>decide)
  (case v_FORMS_6=>k_is)
  (case w_FORMS_6=>k_is)
  (case e_FORMS_6=>repeat' (first|exact .nil|refine .cons ⟨_,rfl⟩ ?_))
  (case s_FORMS_6=>decide)
  (case v_FORMS_7=>k_is)
  (case w_FORMS_7=>k_is)
  (case e_FORMS_7=>repeat' (first|exact .nil|refine .cons ⟨_,rfl⟩ ?_))
  (case s_FORMS_7=>decide)
  (case kx_FORMS=>first|rfl|decide +kernel)
