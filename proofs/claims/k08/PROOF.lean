import PyProof.Rows.All
import Wide.All
import OpenK.AllK
import Wide.FinOn
import Lean
import PyProof.EqAt
import PyProof.EqKinds
import PyProof.TupleCall
import PyProof.NeKinds
import PyProof.ZipIter
import PyProof.StrLoop
import PyProof.StrWalks
import PyProof.StrCalls
import PyProof.StrCalls2
import PyProof.StrLawsIn
import PyProof.SliceStr2
import PyProof.StrBlock
import PyProof.Rows.StrFirst
import KE.KIntText
import PyProof.StrLawsChain
import PyProof.StrLawsTight
import PyProof.CallStr
import PyProof.Rows.FStr
import PySem.SetTable
import PyProof.TupleKey
import PyProof.SetKind
import PyProof.IsRules
import PyProof.Rows.SetFrom
import PyProof.WalksMore
import PyProof.TupleIter
import KE.KSortTup
import KE.KTryMore
import PySem.Challenge.RW_dipright_k08_facts_read_or_refused
set_option Elab.async false
set_option genInjectivity false
set_option genSizeOf false
set_option backward.eqns.nonrecursive false
set_option linter.all false
set_option maxRecDepth 100000
set_option maxHeartbeats 4000000
open PySem.W renaming Frag→Qqq,mg_none_of→Qqm,nsIn→Qqp,keepIn→Qzw,of_hideAll→Qzy,mg_of→Qze,hideAll_get→Qz6,cellsFrom_some→Qx2,excIn→Qjx
open List renaming getElem?_cons_zero→Qqz,getElem?_cons_succ→Qqx,length_map→Qqj,length_cons→Qqv,mem_cons→Qqw,mem_cons_of_mem→Qqy,size_toArray→Qqa,getElem?_eq_some_iff→Qqd,mem_cons_self→Qqe,append_nil→Qqh,getElem?_eq_getElem→Qqi,getElem?_map→Qqn,not_mem_nil→Qqo,mem_append_right→Qqs,map_cons→Qqt,length_append→Qqu,any_cons→Qq2,all_eq_true→Qq3,mem_map→Qq5,map_map→Qq6,getElem?_append_left→Qq7,getElem?_append_right→Qq8,find?_cons→Qzq,take_of_length_le→Qzz,lookup_cons→Qzj,mem_singleton→Qzk,getElem?_set_self→Qzv,getElem?_set_ne→Qza,mem_of_getElem?→Qzb,length_take→Qzf,length_replicate→Qzh,length_singleton→Qzi,getD_eq_getElem?_getD→Qzm,mem_range→Qzn,length_drop→Qzp,any_nil→Qzr,any_eq_true→Qzs,filterMap_cons→Qzt,map_append→Qzu,length_set→Qz0,getElem?_eq_none→Qz1,mem_append_left→Qz2,getElem_mem→Qz3,mem_append→Qz7,length_nil→Qz8,mem_of_find?_eq_some→Qz9,getElem?_eq_none_iff→Qxq,getElem?_replicate→Qxx,length_eq_zero_iff→Qxk,cons_append→Qxv,mem_filter→Qxy,nodup_cons→Qxb,map_congr_left→Qxd,mem_filterMap→Qxf,take_add_one→Qxm,append_assoc→Qxn,findIdx?_eq_none_iff→Qxo,drop_eq_getElem_cons→Qxp,map_nil→Qxr,of_mem_zip→Qxu,find?_cons_of_pos→Qx3,find?_cons_of_neg→Qx4,drop_zero→Qx8,all_cons→Qjq
open Bool renaming and_eq_true→Qqk,false_ne_true→Qqg,false_eq_true→Qq0,eq_iff_iff→Qq1,not_eq_true'→Qzc,or_false→Qzl,and_eq_false_iff→Qxw,not_false→Qxe,false_or→Qxg,not_true→Qxh,true_and→Qxi,not_eq_true→Qxs,or_eq_true→Qx1,and_false→Qx7,and_true→Qjz
open PySem.Heap renaming get?_push_of_some→Qqb,lt_size→Qqf,get?_push_size→Qqr,get?_update_other→Qzg,size_push→Qx6
open Nat renaming le_refl→Qqc,lt_of_lt_of_le→Qql,ne_of_lt→Qq4,le_trans→Qq9,lt_irrefl→Qzd,lt_succ_self→Qzo,zero_le→Qz5,le_of_lt→Qxa,toDigits_of_lt_base→Qxt,min_eq_left→Qx0,le_succ→Qx5,not_le→Qx9
open Option renaming map_eq_some_iff→Qzx,isSome_iff_exists→Qxz,bind_eq_some_iff→Qxj,isSome_map→Qxl
open Array renaming getElem?_eq_some_iff→Qz4,length_toList→Qxc
section
universe u v
theorem oBs{α:Type u}{β:Type v}(a:α)(f:α→Option β):(some a).bind f=f a:=rfl
theorem oMs{α:Type u}{β:Type v}(a:α)(f:α→β):(some a).map f=some (f a):=rfl
end
section
namespace L2
open PySem PySem.Spec PyProof.Rows
abbrev Key:=Sum Int Str
noncomputable def qdb:Key→Value→Bool
 |.inl k,v=>Value.isInt k v
 |.inr x,v=>Value.isStrOf x v
noncomputable def keyH(w:World):Key→Int
 |.inl k=>hashInt k
 |.inr x=>hashStr w x
theorem qzp:∀ {k:Key}{v:Value},qdb k v=true→(∃ i t,k=Sum.inl i∧v=Value.int i t)∨(∃ x t,k=Sum.inr x∧v=Value.str x t)
 |.inl i,v,h=>by
  obtain⟨t,e⟩:=Value.isInt_shape (k:=i) (v:=v) h
  exact .inl ⟨i,t,rfl,e⟩
 |.inr x,v,h=>by
  obtain⟨t,e⟩:=Value.isStrOf_shape (x:=x) (v:=v) h
  exact .inr ⟨x,t,rfl,e⟩
theorem qfd(i:Int)(t:Tok):qdb (.inl i) (.int i t)=true:=by simp[qdb,Value.isInt]
theorem qfc(x:Str)(t:Tok):qdb (.inr x) (.str x t)=true:=by simp[qdb,Value.isStrOf]
theorem key_ll(a b:Int):decide ((Sum.inl a:Key)=Sum.inl b)=(a==b):=by
 by_cases e:a=b
 ·subst e; simp
 ·have h:¬ (Sum.inl a:Key)=Sum.inl b:=fun q=>e (Sum.inl.inj q)
  rw[decide_eq_false h]
  exact(beq_eq_false_iff_ne.mpr e).symm
theorem key_rr(a b:Str):decide ((Sum.inr a:Key)=Sum.inr b)=decide (a=b):=by
 by_cases e:a=b
 ·subst e; simp
 ·have h:¬ (Sum.inr a:Key)=Sum.inr b:=fun q=>e (Sum.inr.inj q)
  rw[decide_eq_false h,decide_eq_false e]
theorem key_lr(a:Int)(b:Str):decide ((Sum.inl a:Key)=Sum.inr b)=false:=decide_eq_false (fun q=>nomatch q)
theorem key_rl(a:Str)(b:Int):decide ((Sum.inr a:Key)=Sum.inl b)=false:=decide_eq_false (fun q=>nomatch q)
noncomputable def mixKind(prog:Program)(w:World):PySem.KeyKind prog w Key where
 is:=qdb
 hash:=keyH w
 inj:=fun v a b ha hb=>by
  rcases qzp ha with⟨i,t,rfl,rfl⟩|⟨x,t,rfl,rfl⟩
  ·rcases qzp hb with⟨j,u,rfl,e⟩|⟨y,u,rfl,e⟩
   ·injection e with e1 _; rw[e1]
   ·exact nomatch e
  ·rcases qzp hb with⟨j,u,rfl,e⟩|⟨y,u,rfl,e⟩
   ·exact nomatch e
   ·injection e with e1 _; rw[e1]
 byValue:=fun k v h=>by
  rcases qzp h with⟨i,t,rfl,rfl⟩|⟨x,t,rfl,rfl⟩<;>rfl
 pyHash:=fun hv h=>by
  rcases qzp hv with⟨i,t,rfl,rfl⟩|⟨x,t,rfl,rfl⟩
  ·exact wpAny_pyHash_int h
  ·exact wpAny_pyHash_str h
 eqBool:=fun hu hv h=>by
  rcases qzp hu with⟨i,t,rfl,rfl⟩|⟨x,t,rfl,rfl⟩
  ·rcases qzp hv with⟨j,u,rfl,rfl⟩|⟨y,u,rfl,rfl⟩
   ·rw[key_ll]at h; exact wpAny_eqBool_int h
   ·rw[key_lr]at h; exact SeqAt.EqAt.int_str i t y u _ _ _ _ h
  ·rcases qzp hv with⟨j,u,rfl,rfl⟩|⟨y,u,rfl,rfl⟩
   ·rw[key_rl]at h; exact SeqAt.EqAt.str_int x t j u _ _ _ _ h
   ·rw[key_rr]at h; exact wpAny_eqBool_str h
 «strs»:=fun k x t v h=>by
  rcases qzp h with⟨i,u,rfl,e⟩|⟨y,u,rfl,e⟩
  ·exact nomatch e
  ·injection e with e1 _
   subst e1
   cases v<;>rfl
theorem qbv(prog:Program)(w:World)(i:Int)(t:Tok):(mixKind prog w).is (.inl i) (.int i t)=true:=qfd i t
theorem qjx(prog:Program)(w:World)(x:Str)(t:Tok):(mixKind prog w).is (.inr x) (.str x t)=true:=qfc x t
end L2
namespace L2
open PySem PySem.Spec PyProof.Rows
inductive V where
 |non|bl (b:Bool)|int (i:Int)|str (x:Str)|byt (b:Array UInt8)|flt (b:UInt64)|ref (a:Addr)|ty (n:String)
 deriving DecidableEq
noncomputable def RelV:V→Value→Prop
 |.non,u=>u=Value.none
 |.bl b,u=>u=Value.bool b
 |.int i,u=>∃ t,u=Value.int i t
 |.str x,u=>∃ t,u=Value.str x t
 |.byt b,u=>∃ t,u=Value.bytes b t
 |.flt b,u=>∃ t,u=Value.float b t
 |.ref a,u=>u=Value.ref a
 |.ty n,u=>u=Value.type n
abbrev Vals:List V→List Value→Prop:=Paired RelV
theorem Vals.length{xs:List V}{us:List Value}(r:Vals xs us):xs.length=us.length:=Paired.length r
theorem Vals.get:∀ {xs:List V}{us:List Value}{i:Nat}{x:V},Vals xs us→xs[i]?=some x→∃ u,us[i]?=some u∧RelV x u
 |_,_,_,_,.nil,e=>by simp at e
 |_,_,0,_,.cons r _,e=>by simp at e; subst e; exact⟨_,rfl,r⟩
 |_,_,i+1,x,.cons _ t,e=>by
  obtain⟨u,h1,h2⟩:=Vals.get (i:=i) (x:=x) t (by simpa using e)
  exact⟨u,by simpa using h1,h2⟩
theorem Vals.set{x:V}{u:Value}(r:RelV x u):∀ {xs:List V}{us:List Value}(i:Nat),Vals xs us→Vals (xs.set i x) (us.set i u)
 |_,_,_,.nil=>.nil
 |_,_,0,.cons _ t=>.cons r t
 |_,_,i+1,.cons q t=>.cons q (Vals.set r i t)
theorem Vals.append:∀ {xs ys:List V}{us ws:List Value},Vals xs us→Vals ys ws→Vals (xs++ys) (us++ws)
 |_,_,_,_,.nil,s=>s
 |_,_,_,_,.cons r t,s=>.cons r (Vals.append t s)
theorem Vals.take:∀ {xs:List V}{us:List Value}(n:Nat),Vals xs us→Vals (xs.take n) (us.take n)
 |_,_,0,_=>.nil
 |_,_,_+1,.nil=>.nil
 |_,_,n+1,.cons r t=>.cons r (Vals.take n t)
theorem Vals.drop:∀ {xs:List V}{us:List Value}(n:Nat),Vals xs us→Vals (xs.drop n) (us.drop n)
 |_,_,0,r=>r
 |_,_,_+1,.nil=>.nil
 |_,_,n+1,.cons _ t=>Vals.drop n t
noncomputable def RelO:Option V→Option Value→Prop
 |some v,some u=>RelV v u
 |none,none=>True
 |_,_=>False
def KV{κ:Type}:List (κ×V)→List (κ×Value)→Prop:=Paired fun(p:κ×V) (q:κ×Value)=>p.1=q.1∧RelV p.2 q.2
noncomputable def kV:Key→V
 |.inl i=>.int i
 |.inr x=>.str x
inductive HO where
 /-- a list -/
 |lst (xs:List V)
 /-- a tuple (never changes) -/
 |tup (xs:List V)
 /-- a dict whose keys are ints and texts; one whose keys are tuples of ints and texts (the empty one is both) -/
 |dK (kvs:List (Key×V))|dT (kvs:List (List Key×V))
 /-- a set of ints: its members,its size -/
 |set (S:Int→Bool) (n:Nat)
 /-- an instance of the class at C,its dict at dx,its attributes -/
 |ins (C dx:Addr) (fs:List (Str×V))
 /-- the dict of the instance at x -/
 |own (x:Addr)
 /-- the dict of an exception -/
 |xd (fs:List (Str×V))
 /-- a bound method,f of x -/
 |met (f x:Addr)
 /-- a range object lo,lo+1,.. below hi -/
 |rng (lo hi:Int)
 /-- a thing that is known to the object (the script; a dict while a loop walks it): read,never written while it is so -/
 |frz (o:Obj) (u:HO)
 /-- a code object's table -/
 |tbl (ps:Array Value)
 /-- any other thing,by what is true of its one object (a def of one's own: SetO a S n:=HO.ext fun h=>..) -/
 |ext (φ:Heap→Prop)
abbrev Hp:=Addr→Option HO
noncomputable def upd(H:Hp)(a:Addr)(o:HO):Hp:=fun b=>if b=a then some o else H b
theorem qzn{H:Hp}{a:Addr}{o:HO}:upd H a o a=some o:=by unfold upd; rw[if_pos rfl]
theorem qzy{H:Hp}{a b:Addr}{o:HO}(h:b≠a):upd H a o b=H b:=by unfold upd; rw[if_neg h]
theorem qjh{H:Hp}{a b:Addr}{o u:HO}(h:H a=some o)(h':H b=some u)(d:o≠u):a≠b:=by
 intro e; subst e; rw[h]at h'; exact d (Option.some.inj h')
theorem qzi{H:Hp}{a b:Addr}{o:HO}(h:H a=some o)(h':H b=none):a≠b:=by
 intro e; subst e; rw[h]at h'; cases h'
section
variable (P:Program)(w:World)
noncomputable def ObjOk(H:Hp)(h:Heap)(a:Addr):HO→Prop
 |.lst xs=>xs.length≤sizeLine∧∃ (its:List Value) (n:Nat),Vals xs its∧h.get? a=some { cls:=.type "list",data:=.seq its.toArray n }
 |.tup xs=>xs.length≤sizeLine∧∃ its:List Value,Vals xs its∧IsTup h a its.toArray
 |.dK kvs=>kvs.length≤sizeLine∧(a==sysModules)=false∧∃ vs,KV kvs vs∧h.DictOf (mixKind P w) a vs
 |.dT kvs=>kvs.length≤sizeLine∧(a==sysModules)=false∧∃ xs:List (List Key×Addr×Value),
   Paired (fun(p:List Key×V) (q:List Key×Addr×Value)=>p.1=q.1∧H q.2.1=some (.tup (p.1.map kV))∧RelV p.2 q.2.2) kvs xs∧
   ∃ o es ep,h.get? a=some o∧o.ExactDict∧o.data=.dict es ep∧es.toList=xs.map (entryOfKey (tupleKind (mixKind P w)))∧(xs.map (·.1)).Nodup
 |.set S n=>h.SetOf (intKind P w) a S n
 |.ins C dx fs=>H dx=some (.own a)∧fs.length≤1000∧dx≠a∧h.get? a=some (PySem.W.instObj C dx)∧
   ∃ mA,h.Ns1 dx mA∧(∀ f,RelO (fs.lookup f) (mA f))∧PySem.Within mA (fs.map (·.1))
 |.own _=>∃ o,h.get? a=some o
 |.xd fs=>∃ mA,h.Ns1 a mA∧∀ f,RelO (fs.lookup f) (mA f)
 |.rng lo hi=>∃ t u v,h.get? a=some { cls:=.type "range",data:=.fields #[.int lo t,.int hi u,.int 1 v] }
 |.frz o u=>h.get? a=some o∧ObjOk H h a u
 |.tbl ps=>h.get? a=some { cls:=.none,data:=.fields ps }
 |.met f x=>h.get? a=some (PySem.W.methodObj (.ref f) (.ref x))
 |.ext φ=>φ h∧(∃ o,h.get? a=some o)∧∀ h1 h2:Heap,φ h1→(∀ o,h1.get? a=some o→h2.get? a=some o)→φ h2
def HOk(H:Hp)(h:Heap):Prop:=∀ a o,H a=some o→ObjOk P w H h a o
end
section
variable {P:Program}{w:World}{H H':Hp}{h h':Heap}{a:Addr}{o:HO}
theorem ObjOk.lt(x:ObjOk P w H h a o):a<h.objs.size:=by
 cases o with
 |lst xs=>obtain⟨_,_,_,_,e⟩:=x; exact Qqf e
 |tup xs=>obtain⟨_,_,_,p⟩:=x; exact p.lt
 |dK kvs=>obtain⟨_,_,_,_,o,_,_,e,_⟩:=x; exact Qqf e
 |dT kvs=>obtain⟨_,_,_,_,o,_,_,e,_⟩:=x; exact Qqf e
 |set S n=>obtain⟨o,_,_,_,e,_⟩:=x; exact Qqf e
 |ins C dx fs=>obtain⟨_,_,_,e,_⟩:=x; exact Qqf e
 |own y=>obtain⟨_,e⟩:=x; exact Qqf e
 |xd fs=>obtain⟨_,⟨_,_,_,e,_⟩,_⟩:=x; exact Qqf e
 |rng lo hi=>obtain⟨_,_,_,e⟩:=x; exact Qqf e
 |frz ob u=>obtain⟨e,_⟩:=x; exact Qqf e
 |tbl ps=>exact Qqf (show h.get? a=some _ from x)
 |met f y=>exact Qqf (show h.get? a=some _ from x)
 |ext φ=>obtain⟨_,⟨_,e⟩,_⟩:=x; exact Qqf e
theorem Paired.mapP{α β:Type}{F G:α→β→Prop}:∀ {l₁:List α}{l₂:List β},Paired F l₁ l₂→(∀ a b,F a b→G a b)→Paired G l₁ l₂
 |_,_,.nil,_=>.nil
 |_,_,.cons r t,f=>.cons (f _ _ r) (Paired.mapP t f)
theorem ObjOk.stay(x:ObjOk P w H h a o)(k:∀ b u,(b=a∨H b=some (.own a))→h.get? b=some u→h'.get? b=some u)
  (ho:∀ b,H b=some (.own a)→H' b=some (.own a)) (ht:∀ b xs,H b=some (.tup xs)→H' b=some (.tup xs)):ObjOk P w H' h' a o:=by
 induction o with
 |lst xs=>obtain⟨z,its,n,r,e⟩:=x; exact⟨z,its,n,r,k _ _ (.inl rfl) e⟩
 |tup xs=>obtain⟨z,its,r,ob,e,c⟩:=x; exact⟨z,its,r,ob,k _ _ (.inl rfl) e,c⟩
 |dK kvs=>obtain⟨z,y,vs,r,ob,es,ep,e,c⟩:=x; exact⟨z,y,vs,r,ob,es,ep,k _ _ (.inl rfl) e,c⟩
 |dT kvs=>
  obtain⟨z,y,xs,r,ob,es,ep,e,c⟩:=x
  exact⟨z,y,xs,Paired.mapP r fun p q z=>⟨z.1,ht _ _ z.2.1,z.2.2⟩,ob,es,ep,k _ _ (.inl rfl) e,c⟩
 |set S n=>obtain⟨ob,es,ep,t,e,c⟩:=x; exact⟨ob,es,ep,t,k _ _ (.inl rfl) e,c⟩
 |ins C dx fs=>
  obtain⟨d,z,ne,e,mA,⟨od,es,ep,e2,c⟩,r⟩:=x
  exact⟨ho _ d,z,ne,k _ _ (.inl rfl) e,mA,⟨od,es,ep,k _ _ (.inr d) e2,c⟩,r⟩
 |own y=>obtain⟨ob,e⟩:=x; exact⟨ob,k _ _ (.inl rfl) e⟩
 |xd fs=>obtain⟨mA,⟨od,es,ep,e,c⟩,r⟩:=x; exact⟨mA,⟨od,es,ep,k _ _ (.inl rfl) e,c⟩,r⟩
 |rng lo hi=>obtain⟨t,u,v,e⟩:=x; exact⟨t,u,v,k _ _ (.inl rfl) e⟩
 |frz ob u ih=>obtain⟨e,q⟩:=x; exact⟨k _ _ (.inl rfl) e,ih q⟩
 |tbl ps=>
  have e:h.get? a=some { cls:=.none,data:=.fields ps }:=x
  show h'.get? a=some { cls:=.none,data:=.fields ps }
  exact k a _ (.inl rfl) e
 |met f y=>
  have e:h.get? a=some (PySem.W.methodObj (.ref f) (.ref y)):=x
  show h'.get? a=some (PySem.W.methodObj (.ref f) (.ref y))
  exact k a _ (.inl rfl) e
 |ext φ=>obtain⟨p,⟨o,e⟩,st⟩:=x; exact⟨st _ _ p fun o q=>k _ _ (.inl rfl) q,⟨o,k _ _ (.inl rfl) e⟩,st⟩
theorem HOk.lt(x:HOk P w H h)(e:H a=some o):a<h.objs.size:=(x a o e).lt
theorem HOk.fresh(x:HOk P w H h)(e:h.objs.size≤a):H a=none:=by
 cases q:H a with
 |none=>rfl
 |some u=>exact absurd (Qql (x.lt q) e) (Qzd _)
theorem HOk.kept(x:HOk P w H h)(k:∀ b u,h.get? b=some u→h'.get? b=some u):HOk P w H h':=fun a o e=>
 (x a o e).stay (fun b u _ q=>k b u q) (fun _ q=>q) fun _ _ q=>q
theorem HOk.laid(x:HOk P w H h)(k:∀ b u,h.get? b=some u→h'.get? b=some u)(hp:h.objs.size≤a)(new:ObjOk P w (upd H a o) h' a o):HOk P w (upd H a o) h':=fun b u e=>by
 have hn:=x.fresh hp
 by_cases hb:b=a
 ·subst hb; rw[qzn]at e; cases e; exact new
 ·rw[qzy hb]at e
  exact(x b u e).stay (fun c v _ q=>k c v q) (fun c q=>by rw[qzy (qzi q hn)]; exact q) fun c xs q=>by rw[qzy (qzi q hn)]; exact q
end
def Rd(H:Hp)(a:Addr)(u:HO):Prop:=H a=some u∨∃ o,H a=some (.frz o u)
theorem Rd.of{H:Hp}{a:Addr}{u:HO}(h:H a=some u):Rd H a u:=.inl h
theorem Rd.ok{P:Program}{w:World}{H:Hp}{h:Heap}{a:Addr}{u:HO}(r:Rd H a u)(x:HOk P w H h):ObjOk P w H h a u:=by
 rcases r with r|⟨o,r⟩
 ·exact x a u r
 ·obtain⟨_,q⟩:=x a _ r
  exact q
noncomputable def Mut:Option HO→Prop
 |some (.lst _)=>True
 |some (.dK _)=>True
 |some (.dT _)=>True
 |some (.set _ _)=>True
 |some (.ins _ _ _)=>True
 |some (.ext _)=>True
 |_=>False
section
variable {P:Program}{w:World}{H:Hp}{h h':Heap}{x e:Addr}{o':HO}
theorem HOk.write(ok:HOk P w H h)(mu:Mut (H x))(he:e=x∨H e=some (.own x))(k:∀ b u,b≠e→h.get? b=some u→h'.get? b=some u)(heo:∃ u,h'.get? e=some u)
  (new:ObjOk P w (upd H x o') h' x o'):HOk P w (upd H x o') h':=fun b u q=>by
 have nown:∀ c y,H c=some (.own y)→c≠x:=fun c y r z=>by subst z; rw[r]at mu; exact mu
 have ntup:∀ c xs,H c=some (.tup xs)→c≠x:=fun c xs r z=>by subst z; rw[r]at mu; exact mu
 by_cases hb:b=x
 ·subst hb; rw[qzn]at q; cases q; exact new
 ·rw[qzy hb]at q
  by_cases hbe:b=e
  ·have q':H b=some (.own x):=by
    rcases he with z|z
    ·exact absurd (hbe.trans z) hb
    ·rw[hbe]; exact z
   rw[q]at q'; cases q'
   obtain⟨v,hv⟩:=heo
   exact⟨v,by rw[hbe]; exact hv⟩
  ·refine(ok b u q).stay (fun c v hc r=>k c v ?_ r) (fun c r=>by rw[qzy (nown c b r)]; exact r) fun c xs r=>by rw[qzy (ntup c xs r)]; exact r
   rcases hc with rfl|hc
   ·exact hbe
   ·rintro rfl
    rcases he with z|z
    ·exact nown c b hc z
    ·rw[hc]at z; cases z; exact hb rfl
end
structure Un (fs ex:List Addr) (H H':Hp) (h h':Heap):Prop where
 keep:∀ b o,h.get? b=some o→H b=none→b ∉ fs→b ∉ ex→h'.get? b=some o
 slot:∀ b o,h.get? b=some o→H b=none→b∈fs→b ∉ ex→∃ sl,h'.get? b=some { o with slots:=sl }
 free:∀ b o,h.get? b=some o→H b=none→b ∉ ex→H' b=none
 there:∀ b o,h.get? b=some o→b ∉ ex→∃ o',h'.get? b=some o'
 tups:∀ b xs,H b=some (.tup xs)→H' b=some (.tup xs)
 frzs:∀ b o u,H b=some (.frz o u)→H' b=some (.frz o u)
 tbls:∀ b ps,H b=some (.tbl ps)→∃ more,H' b=some (.tbl (ps++more))
section
variable {fs fs' ex ex':List Addr}{H H1 H2:Hp}{h h1 h2 h':Heap}{a x e:Addr}{o:HO}
theorem Un.any(u:Un fs ex H H1 h h1){b:Addr}{ob:Obj}(q:h.get? b=some ob)(n:H b=none)(hx:b ∉ ex):∃ sl,h1.get? b=some { ob with slots:=sl }:=by
 by_cases hb:b∈fs
 ·exact u.slot b ob q n hb hx
 ·exact⟨ob.slots,u.keep b ob q n hb hx⟩
theorem Un.trans(a:Un fs ex H H1 h h1)(b:Un fs ex H1 H2 h1 h2):Un fs ex H H2 h h2 where
 keep:=fun c ob q n hc hx=>b.keep c ob (a.keep c ob q n hc hx) (a.free c ob q n hx) hc hx
 slot:=fun c ob q n hc hx=>by
  obtain⟨sl,e1⟩:=a.slot c ob q n hc hx
  obtain⟨sl',e2⟩:=b.slot c _ e1 (a.free c ob q n hx) hc hx
  exact⟨sl',e2⟩
 free:=fun c ob q n hx=>by
  obtain⟨o',e1⟩:=a.there c ob q hx
  exact b.free c o' e1 (a.free c ob q n hx) hx
 there:=fun c ob q hx=>by
  obtain⟨o',e1⟩:=a.there c ob q hx
  exact b.there c o' e1 hx
 tups:=fun c xs q=>b.tups c xs (a.tups c xs q)
 frzs:=fun c ob xs q=>b.frzs c ob xs (a.frzs c ob xs q)
 tbls:=fun c ps q=>by
  obtain⟨m1,e1⟩:=a.tbls c ps q
  obtain⟨m2,e2⟩:=b.tbls c _ e1
  exact⟨m1++m2,by rw[e2,Array.append_assoc]⟩
theorem Un.kept(k:∀ b u,h.get? b=some u→h'.get? b=some u):Un fs ex H H h h':=
 ⟨fun b ob q _ _ _=>k b ob q,fun b ob q _ _ _=>⟨ob.slots,k b ob q⟩,fun _ _ _ n _=>n,fun b ob q _=>⟨ob,k b ob q⟩,fun _ _ q=>q,fun _ _ _ q=>q,fun _ ps q=>⟨#[],by rw[q]; simp⟩⟩
theorem Un.refl:Un fs ex H H h h:=Un.kept fun _ _ q=>q
theorem Un.laid(k:∀ b u,h.get? b=some u→h'.get? b=some u)(hp:h.objs.size≤a)(hn:H a=none):Un fs ex H (upd H a o) h h' where
 keep:=fun b u q _ _ _=>k b u q
 slot:=fun b u q _ _ _=>⟨u.slots,k b u q⟩
 free:=fun b u q n _=>by rw[qzy (Qq4 (Qql (Qqf q) hp))]; exact n
 there:=fun b u q _=>⟨u,k b u q⟩
 tups:=fun b xs q=>by rw[qzy (qzi q hn)]; exact q
 frzs:=fun b u xs q=>by rw[qzy (qzi q hn)]; exact q
 tbls:=fun b ps q=>⟨#[],by rw[qzy (qzi q hn),q]; simp⟩
theorem Un.write(mu:Mut (H x))(he:e=x∨H e=some (.own x))(k:∀ b u,b≠e→h.get? b=some u→h'.get? b=some u)(heo:∃ u,h'.get? e=some u):Un fs ex H (upd H x o) h h':=by
 have hx:∀ b,H b=none→b≠x:=fun b n z=>by subst z; rw[n]at mu; exact mu
 have hb:∀ b,H b=none→b≠e:=fun b n z=>by
  subst z
  rcases he with r|r
  ·exact hx b n r
  ·rw[n]at r; cases r
 have hm:∀ b u,H b=some u→¬ Mut (some u)→b≠x:=fun b u q nm z=>by subst z; rw[q]at mu; exact nm mu
 refine⟨fun b u q n _ _=>k b u (hb b n) q,fun b u q n _ _=>⟨u.slots,k b u (hb b n) q⟩,fun b u q n _=>by rw[qzy (hx b n)]; exact n,fun b u q _=>?_,
  fun b xs q=>by rw[qzy (hm b _ q fun z=>z)]; exact q,fun b u xs q=>by rw[qzy (hm b _ q fun z=>z)]; exact q,fun b ps q=>⟨#[],by rw[qzy (hm b _ q fun z=>z),q]; simp⟩⟩
 by_cases hbe:b=e
 ·subst hbe; exact heo
 ·exact⟨u,k b u hbe q⟩
theorem Un.mono(u:Un fs ex H H1 h h1)(hs:∀ b∈fs,b∈fs')(hx:∀ b∈ex,b∈ex'):Un fs' ex' H H1 h h1:=
 ⟨fun b ob q n hb he=>u.keep b ob q n (fun z=>hb (hs b z)) fun z=>he (hx b z),fun _ _ q n _ he=>u.any q n fun z=>he (hx _ z),fun b ob q n he=>u.free b ob q n fun z=>he (hx b z),fun b ob q he=>u.there b ob q fun z=>he (hx b z),u.tups,u.frzs,u.tbls⟩
end
noncomputable def trk(h:Heap)(H:Hp):List Addr:=(List.range h.objs.size).filter fun a=>(H a).isSome
noncomputable def hidT(h:Heap)(H:Hp):Heap:=PySem.W.hideAll h (trk h H)
theorem qfl(h:Heap)(H:Hp):(hidT h H).objs.size=h.objs.size:=PySem.W.hideAll_size _ _
theorem qhf{h:Heap}{H:Hp}{b:Addr}{o:Obj}(e:h.get? b=some o)(n:H b=none):(hidT h H).get? b=some o:=
 Qz6 _ e fun hm=>by
  have q:(H b).isSome=true:=(Qxy.mp hm).2
  rw[n]at q; simp at q
theorem ql8{h:Heap}{H:Hp}{b:Addr}{o:Obj}(e:(hidT h H).get? b=some o):h.get? b=some o∧H b=none:=by
 have e':h.get? b=some o:=Qzy (trk h H) e
 refine⟨e',?_⟩
 cases q:H b with
 |none=>rfl
 |some x=>
  have hm:b∈trk h H:=Qxy.mpr ⟨Qzn.mpr (Qqf e'),by simp[q]⟩
  have z:(hidT h H).get? b=none:=PySem.W.hideAll_none (trk h H) hm
  rw[z]at e; cases e
noncomputable def qmt(g h:Heap)(L:Addr):List (Addr×Obj):=(List.range h.objs.size).filterMap fun a=>if a=L∨(g.get? a).isSome=true then none else(h.get? a).map fun o=>(a,o)
noncomputable def rest(g h:Heap)(L d:Addr):List (Addr×Obj):=(qmt g h L).filter fun p=>decide (p.1≠d)
end L2
namespace L2
open PySem PySem.Spec PyProof.Rows
structure Mod (K:Qqq) (mg:Str→Option Value) (base:Heap):Prop where
 kin:K.In base
 glob:base.Ns mainGlobals mg
 blt:∃ mb,base.Ns builtinsNs mb∧∀ x:Str,x ≠ "__name__"→mb x=bootBuiltins x
 nolimit:base.NoLimit
structure Cx where
 prog:Program
 w:World
 K:Qqq
 mg:Str→Option Value
 base:Heap
 A:Around
 N:List Str
 s₀:Shared
 H₀:Hp
 env:Env
 outer:List Env
 stack:List Env
 ex:List Addr
 fn:Str→Bool
 calm:Bool
 pn:List (Addr×Obj)
 xe:Value→Shared→Prop
noncomputable def frs(l:List Env):List Addr:=l.filterMap (·.frame)
noncomputable abbrev Cx.fs(X:Cx):List Addr:=frs X.outer
def Vis(sc:Scope)(x:Str):Prop:=sc.names.lookup x=some .local∨sc.names.lookup x=some .cell∨sc.names.lookup x=some .free
def Loc(sc:Scope)(x:Str):Prop:=sc.names.lookup x=some .local∨sc.names.lookup x=some .cell
def Look(env:Env)(h:Heap)(m:Str→Option Value)(x:Str)(u:Value):Prop:=
 (env.kindOf x=some .local∧m x=some u)∨((env.kindOf x=some .cell∨env.kindOf x=some .free)∧∃ c,env.cells.lookup x=some c∧h.IsCell c (some u))
structure Cx.Ok (X:Cx):Prop where
 mod:Mod X.K X.mg X.base
 kind:X.env.scope.kind=.function
 glob:X.env.globals=mainGlobals
 blt:X.env.builtins=builtinsNs
 above:X.s₀.heap.objs.size≤X.env.locals
 inj:∀ x y c,X.env.cells.lookup x=some c→X.env.cells.lookup y=some c→x=y
 has:∀ x,(X.env.kindOf x=some .cell∨X.env.kindOf x=some .free)→∃ c,X.env.cells.lookup x=some c
 cab:∀ x c,X.fn x=true→X.env.cells.lookup x=some c→X.s₀.heap.objs.size≤c
 hd:X.calm=true→X.A.handled=none
 frames:X.A.frames=some X.stack
 stk:X.stack=X.outer∨(X.stack=X.env::X.outer∧X.env.frame=some X.env.locals)
 exf:∀ b∈X.ex,b≠X.env.locals∧∀ x c,X.env.cells.lookup x=some c→c≠b
 bs:∀ b o,X.base.get? b=some o→X.s₀.heap.get? b=some o∧X.H₀ b=none
 bsz:X.base.objs.size≤X.s₀.heap.objs.size
 noex:∀ b o,X.base.get? b=some o→b ∉ X.ex
 exfs:∀ b∈X.ex,b ∉ X.fs
 funs:X.s₀.heap.FunFrames X.base X.outer
 frf:∀ b∈X.fs,X.H₀ b=none
structure Inv (X:Cx) (pins:List (Addr×Obj)) (σ:List (Option V)) (H:Hp) (s:Shared):Prop where
 ok:X.Ok
 os:s.os=X.s₀.os
 bare:AllBare s.gens
 base:Un X.fs X.ex X.H₀ H X.s₀.heap s.heap
 loc:∃ m,s.heap.Ns X.env.locals m∧∀ (i:Nat) (x:Str) (v:V),X.N[i]?=some x→σ[i]?=some (some v)→Vis X.env.scope x→∃ u,RelV v u∧Look X.env s.heap m x u
 cell:∀ x c,X.env.cells.lookup x=some c→∃ v,s.heap.IsCell c v
 free:H X.env.locals=none
 freeC:∀ x c,X.env.cells.lookup x=some c→H c=none
 pin:∀ p∈X.pn++pins,s.heap.get? p.1=some p.2∧H p.1=none∧p.1≠X.env.locals∧p.1 ∉ X.fs∧∀ v,p.2.data≠.cell v
 hok:HOk X.prog X.w H s.heap
 len:σ.length=X.N.length
section
variable {X:Cx}{pins:List (Addr×Obj)}{σ:List (Option V)}{H H':Hp}{s:Shared}{h':Heap}
theorem Cx.Ok.nofr(ok:X.Ok){b:Addr}{o:Obj}(e:X.base.get? b=some o):b ∉ X.fs:=fun hb=>by
 have:=(ok.funs.mem hb).1
 rw[e]at this; cases this
theorem Inv.bs(I:Inv X pins σ H s):∀ b o,X.base.get? b=some o→s.heap.get? b=some o∧H b=none:=fun b o e=>
 ⟨I.base.keep b o (I.ok.bs b o e).1 (I.ok.bs b o e).2 (I.ok.nofr e) (I.ok.noex b o e),I.base.free b o (I.ok.bs b o e).1 (I.ok.bs b o e).2 (I.ok.noex b o e)⟩
theorem Inv.bk(I:Inv X pins σ H s):∀ b o,X.base.get? b=some o→s.heap.get? b=some o:=fun b o e=>(I.bs b o e).1
theorem Inv.mod(I:Inv X pins σ H s):Mod X.K X.mg X.base:=I.ok.mod
theorem Inv.kIn(I:Inv X pins σ H s):X.K.In s.heap:=I.ok.mod.kin.keeps I.bk
theorem Inv.nolimit(I:Inv X pins σ H s):s.heap.NoLimit:=I.ok.mod.nolimit.keeps I.bk
theorem Inv.fr(I:Inv X pins σ H s):∃ m,Fr X.base X.env.locals s.heap m:=
 let ⟨m,hn,_⟩:=I.loc
 ⟨m,hn,I.bk,Qq9 I.ok.bsz I.ok.above⟩
theorem Inv.lt(I:Inv X pins σ H s):X.env.locals<s.heap.objs.size:=let ⟨_,hn,_⟩:=I.loc; hn.lt
theorem Inv.sz(I:Inv X pins σ H s):X.s₀.heap.objs.size≤s.heap.objs.size:=Qq9 I.ok.above (Qxa I.lt)
theorem Inv.nofs(I:Inv X pins σ H s){a:Addr}(h:s.heap.objs.size≤a):a ∉ X.fs:=fun hb=>by
 obtain⟨_,o,ho,_⟩:=I.ok.funs.mem hb
 exact absurd (Qql (Qqf ho) (Qq9 I.sz h)) (Qzd _)
theorem Inv.cne(I:Inv X pins σ H s):∀ x c,X.env.cells.lookup x=some c→c≠X.env.locals:=fun x c e z=>by
 obtain⟨v,o,ho,hd⟩:=I.cell x c e
 obtain⟨m,⟨o',es,ep,ho',hd',_⟩,_⟩:=I.loc
 rw[z,ho']at ho; cases ho; rw[hd']at hd; cases hd
theorem Inv.funs(I:Inv X pins σ H s):s.heap.FunFrames X.base X.outer:=by
 have all:∀ (l:List Env),(∀ b∈frs l,b∈X.fs)→X.s₀.heap.FunFrames X.base l→s.heap.FunFrames X.base l:=by
  intro l
  induction l with
  |nil=>intro _ _; trivial
  |cons env r ih=>
   intro hs hl
   obtain⟨hk,⟨L,o,hf,hn,ho,hd⟩,hr⟩:=hl
   have hL:L∈X.fs:=hs L (by unfold frs; rw[Qzt,hf]; exact Qqe)
   obtain⟨sl,e⟩:=I.base.slot L o ho (I.ok.frf L hL) hL fun z=>I.ok.exfs L z hL
   exact⟨hk,⟨L,_,hf,hn,e,hd⟩,ih (fun b hb=>hs b (by unfold frs; rw[Qzt,hf]; exact Qqy _ hb)) hr⟩
 exact all X.outer (fun _ hb=>hb) I.ok.funs
theorem Inv.stack(I:Inv X pins σ H s):s.heap.FunFrames X.base X.stack:=by
 rcases I.ok.stk with e|⟨e,hf⟩
 ·rw[e]; exact I.funs
 ·rw[e]
  obtain⟨m,hn,_⟩:=I.loc
  refine .cons (by rw[I.ok.kind]; decide) hf hn ?_ I.funs
  exact Heap.get?_none_of_le (Qq9 I.ok.bsz I.ok.above)
theorem Inv.stkSub(I:Inv X pins σ H s):∀ b∈frs X.stack,b∈X.env.locals::X.fs:=fun b hb=>by
 rcases I.ok.stk with e|⟨e,hf⟩
 ·rw[e]at hb; exact Qqy _ hb
 ·rw[e]at hb
  unfold frs at hb
  rw[Qzt,hf]at hb
  exact hb
theorem Inv.stkFree(I:Inv X pins σ H s):∀ b∈frs X.stack,H b=none:=fun b hb=>by
 rcases Qqw.mp (I.stkSub b hb) with e|hb
 ·rw[e]; exact I.free
 ·obtain⟨_,o,ho,_⟩:=I.ok.funs.mem hb
  exact I.base.free b o ho (I.ok.frf b hb) fun z=>I.ok.exfs b z hb
theorem Inv.step{g':Array GenState}{t':Nat}{d':Drawn}{ch:List Addr}(I:Inv X pins σ H s)
  (hch:∀ b∈ch,(b∈X.ex∨X.s₀.heap.objs.size≤b)∧b≠X.env.locals∧(∀ x c,X.env.cells.lookup x=some c→c≠b)∧∀ p∈X.pn++pins,p.1≠b)
  (keep:∀ b o,b≠X.env.locals→b ∉ X.fs→b ∉ ch→s.heap.get? b=some o→H b=none→h'.get? b=some o)
  (slot:∀ b o,b≠X.env.locals→b∈X.fs→b ∉ ch→s.heap.get? b=some o→H b=none→∃ sl,h'.get? b=some { o with slots:=sl }) (free:∀ b o,b ∉ ch→s.heap.get? b=some o→H b=none→H' b=none)
  (there:∀ b o,b ∉ ch→s.heap.get? b=some o→∃ o',h'.get? b=some o')
  (tups:∀ b xs,H b=some (.tup xs)→H' b=some (.tup xs)) (frzs:∀ b o u,H b=some (.frz o u)→H' b=some (.frz o u)) (tbls:∀ b ps,H b=some (.tbl ps)→∃ more,H' b=some (.tbl (ps++more)))
  (ns:∀ m,s.heap.Ns X.env.locals m→h'.Ns X.env.locals m) (hok:HOk X.prog X.w H' h') (hg:AllBare g') :
  Inv X pins σ H' { s with heap:=h',gens:=g',drawn:=d',toks:=t' }:=by
 have neL:∀ b o,X.s₀.heap.get? b=some o→b≠X.env.locals:=fun b o e=>Qq4 (Qql (Qqf e) I.ok.above)
 have neC:∀ b o,X.s₀.heap.get? b=some o→b ∉ X.ex→b ∉ ch:=fun b o e hx hb=>by
  rcases (hch b hb).1 with z|z
  ·exact hx z
  ·exact absurd (Qql (Qqf e) z) (Qzd _)
 have cellK:∀ x c,X.env.cells.lookup x=some c→∀ v,s.heap.IsCell c v→h'.IsCell c v:=fun x c e v ⟨o,ho,hd⟩=>by
  have nch:c ∉ ch:=fun z=>(hch c z).2.2.1 x c e rfl
  by_cases hc:c∈X.fs
  ·obtain⟨sl,q⟩:=slot c o (I.cne x c e) hc nch ho (I.freeC x c e)
   exact⟨_,q,hd⟩
  ·exact⟨o,keep c o (I.cne x c e) hc nch ho (I.freeC x c e),hd⟩
 refine⟨I.ok,I.os,hg,⟨fun b o e n hb hx=>?_,fun b o e n hb hx=>?_,fun b o e n hx=>?_,fun b o e hx=>?_,fun b xs e=>tups b xs (I.base.tups b xs e),fun b o xs e=>frzs b o xs (I.base.frzs b o xs e),fun b ps e=>?_⟩,?_,fun x c e=>?_,?_,fun x c e=>?_,fun p hp=>?_,hok,I.len⟩
 ·exact keep b o (neL b o e) hb (neC b o e hx) (I.base.keep b o e n hb hx) (I.base.free b o e n hx)
 ·obtain⟨sl,e1⟩:=I.base.slot b o e n hb hx
  obtain⟨sl',e2⟩:=slot b _ (neL b o e) hb (neC b o e hx) e1 (I.base.free b o e n hx)
  exact⟨sl',e2⟩
 ·obtain⟨o',e1⟩:=I.base.there b o e hx
  exact free b o' (neC b o e hx) e1 (I.base.free b o e n hx)
 ·obtain⟨o',e1⟩:=I.base.there b o e hx
  exact there b o' (neC b o e hx) e1
 ·obtain⟨m1,e1⟩:=I.base.tbls b ps e
  obtain⟨m2,e2⟩:=tbls b _ e1
  exact⟨m1++m2,by rw[e2,Array.append_assoc]⟩
 ·obtain⟨m,hn,hl⟩:=I.loc
  refine⟨m,ns m hn,fun i x v e1 e2 e3=>?_⟩
  obtain⟨u,r,l⟩:=hl i x v e1 e2 e3
  refine⟨u,r,?_⟩
  rcases l with l|⟨k,c,e,z⟩
  ·exact .inl l
  ·exact .inr ⟨k,c,e,cellK x c e _ z⟩
 ·obtain⟨v,z⟩:=I.cell x c e
  exact⟨v,cellK x c e v z⟩
 ·obtain⟨m,⟨o,_,_,ho,_⟩,_⟩:=I.loc
  exact free _ o (fun z=>(hch _ z).2.1 rfl) ho I.free
 ·obtain⟨v,o,ho,hd⟩:=I.cell x c e
  exact free c o (fun z=>(hch c z).2.2.1 x c e rfl) ho (I.freeC x c e)
 ·obtain⟨e,n,ne,nf,d⟩:=I.pin p hp
  have nch:p.1 ∉ ch:=fun z=>(hch p.1 z).2.2.2 p hp rfl
  exact⟨keep p.1 p.2 ne nf nch e n,free p.1 p.2 nch e n,ne,nf,d⟩
theorem Inv.un{t':Nat}(I:Inv X pins σ H s)(u:Un X.fs [] H H' s.heap h')(hok:HOk X.prog X.w H' h'):Inv X pins σ H' { s with heap:=h',toks:=t' }:=by
 obtain⟨m,⟨o,es,ep,ho,r⟩,_⟩:=id I.loc
 obtain⟨sl,hL⟩:=u.any ho I.free (by simp)
 exact I.step (g':=s.gens) (d':=s.drawn) (ch:=[]) (fun _ z=>nomatch z) (fun b o _ hb _ e n=>u.keep b o e n hb (by simp)) (fun b o _ hb _ e n=>u.slot b o e n hb (by simp)) (fun b o _ e n=>u.free b o e n (by simp)) (fun b o _ e=>u.there b o e (by simp)) u.tups u.frzs u.tbls (fun m' hm=>by
  obtain⟨o',es',ep',ho',r'⟩:=hm
  rw[ho]at ho'; cases ho'
  exact⟨_,es',ep',hL,r'⟩) hok I.bare
theorem Inv.call{g':Array GenState}{t':Nat}{d':Drawn}{ch:List Addr}(I:Inv X pins σ H s)(u:Un (frs X.stack) ch H H' s.heap h')(hok:HOk X.prog X.w H' h')(hg:AllBare g')
  (hch:∀ b∈ch,(b∈X.ex∨X.s₀.heap.objs.size≤b)∧b≠X.env.locals∧(∀ x c,X.env.cells.lookup x=some c→c≠b)∧∀ p∈X.pn++pins,p.1≠b) :
  Inv X pins σ H' { s with heap:=h',gens:=g',drawn:=d',toks:=t' }:=by
 obtain⟨m,⟨o,es,ep,ho,r⟩,_⟩:=id I.loc
 obtain⟨sl,hL⟩:=u.any ho I.free fun z=>(hch _ z).2.1 rfl
 exact I.step (ch:=ch) hch (fun b o hL hb hc e n=>u.keep b o e n (fun z=>(Qqw.mp (I.stkSub b z)).elim hL hb) hc) (fun b o _ _ hc e n=>u.any e n hc) (fun b o hc e n=>u.free b o e n hc) (fun b o hc e=>u.there b o e hc) u.tups u.frzs u.tbls (fun m' hm=>by
  obtain⟨o',es',ep',ho',r'⟩:=hm
  rw[ho]at ho'; cases ho'
  exact⟨_,es',ep',hL,r'⟩) hok hg
theorem Inv.turned{t':Nat}{it:Addr}(I:Inv X pins σ H s)(k:∀ b o,b≠it→s.heap.get? b=some o→h'.get? b=some o)(hn:H it=none)(hL:it≠X.env.locals)
  (h1:it∈X.ex∨X.s₀.heap.objs.size≤it) (h2:∀ x c,X.env.cells.lookup x=some c→c≠it) (h3:∀ p∈X.pn++pins,p.1≠it):Inv X pins σ H { s with heap:=h',toks:=t' }:=by
 have nit:∀ b u,H b=some u→b≠it:=fun b u e z=>by rw[z,hn]at e; cases e
 refine I.step (g':=s.gens) (d':=s.drawn) (ch:=[it]) (fun b hb=>?_) (fun b o _ _ hc e _=>k b o (fun z=>hc (by simp[z])) e) (fun b o _ _ hc e _=>⟨o.slots,k b o (fun z=>hc (by simp[z])) e⟩) (fun _ _ _ _ n=>n)
  (fun b o hc e=>⟨o,k b o (fun z=>hc (by simp[z])) e⟩) (fun _ _ e=>e) (fun _ _ _ e=>e) (fun b ps e=>⟨#[],by rw[e]; simp⟩) (fun m hm=>?_) (fun b u e=>?_) I.bare
 ·have e:b=it:=by simpa using hb
  subst e
  exact⟨h1,hL,h2,h3⟩
 ·obtain⟨o,es,ep,ho,r⟩:=hm
  exact⟨o,es,ep,k _ o (Ne.symm hL) ho,r⟩
 ·refine(I.hok b u e).stay (fun c v hc q=>k c v ?_ q) (fun _ q=>q) fun _ _ q=>q
  rcases hc with z|z
  ·rw[z]; exact nit b u e
  ·exact nit c _ z
theorem Inv.tok(I:Inv X pins σ H s)(t:Nat):Inv X pins σ H { s with toks:=t }:=I.un (h':=s.heap) (t':=t) Un.refl I.hok
theorem Inv.kept{t':Nat}(I:Inv X pins σ H s)(k:∀ b u,s.heap.get? b=some u→h'.get? b=some u):Inv X pins σ H { s with heap:=h',toks:=t' }:=I.un (Un.kept k) (I.hok.kept k)
theorem Inv.laid{a:Addr}{o:HO}{t':Nat}(I:Inv X pins σ H s)(k:∀ b u,s.heap.get? b=some u→h'.get? b=some u)(hp:s.heap.objs.size≤a)(new:ObjOk X.prog X.w (upd H a o) h' a o):
  Inv X pins σ (upd H a o) { s with heap:=h',toks:=t' }:=I.un (Un.laid k hp (I.hok.fresh hp)) (I.hok.laid k hp new)
theorem Inv.write{x e:Addr}{o:HO}{t':Nat}(I:Inv X pins σ H s)(mu:Mut (H x))(he:e=x∨H e=some (.own x))(k:∀ b u,b≠e→s.heap.get? b=some u→h'.get? b=some u)(heo:∃ u,h'.get? e=some u)
  (new:ObjOk X.prog X.w (upd H x o) h' x o):Inv X pins σ (upd H x o) { s with heap:=h',toks:=t' }:=I.un (Un.write mu he k heo) (I.hok.write mu he k heo new)
theorem Inv.pins_of{pins':List (Addr×Obj)}(I:Inv X pins σ H s)(h:∀ p∈pins',s.heap.get? p.1=some p.2∧H p.1=none∧p.1≠X.env.locals∧p.1 ∉ X.fs∧∀ v,p.2.data≠.cell v):Inv X pins' σ H s:=
 ⟨I.ok,I.os,I.bare,I.base,I.loc,I.cell,I.free,I.freeC,fun p hp=>(Qz7.mp hp).elim (fun z=>I.pin p (Qz2 _ z)) (h p),I.hok,I.len⟩
theorem qcv{N:List Str}(hN:N.Nodup){i j:Nat}{x:Str}(a:N[i]?=some x)(b:N[j]?=some x):i=j:=by
 obtain⟨h1,e1⟩:=Qqd.mp a
 obtain⟨h2,e2⟩:=Qqd.mp b
 exact(List.getElem_inj hN).mp (e1.trans e2.symm)
theorem qyk{M:Model}{A:Around}{E:Value→Shared→Prop}{i:Nat}{x:Str}{v:V}{u:Value}{Q:Unit→Shared→Prop}(I:Inv X pins σ H s)(hN:X.N.Nodup)(hi:X.N[i]?=some x)(hx:Loc X.env.scope x)(r:RelV v u)
  (h:∀ s',Inv X pins (σ.set i (some v)) H s'→(∃ a,Heap.SameBut a s.heap s'.heap∧(a=X.env.locals∨X.env.cells.lookup x=some a))→Q () s') (hf:X.fn x=true∨X.env.scope.names.lookup x=some .local):wpAny M A (storeName X.env x u) Q E s:=by
 obtain⟨m,hn,hl⟩:=id I.loc
 have hcls:(X.env.scope.kind==.class||(X.env.scope.kind==.module&&X.env.locals != X.env.globals))=false:=by rw[I.ok.kind]; rfl
 have hiσ:i<σ.length:=by rw[I.len]; exact(Qqd.mp hi).1
 have cne:=I.cne
 have tracked:∀ {a:Addr}{h':Heap},(∃ o,s.heap.get? a=some o∧H a=none)→Heap.SameBut a s.heap h'→HOk X.prog X.w H h':=fun {a h'} ha hs b ob e=>by
  obtain⟨_,_,hfree⟩:=ha
  refine(I.hok b ob e).stay (fun c w' hc q=>(hs.2 c ?_).trans q) (fun _ q=>q) fun _ _ q=>q
  rintro rfl
  rcases hc with rfl|hc
  ·rw[hfree]at e; cases e
  ·rw[hfree]at hc; cases hc
 rcases hx with hk|hk
 ·refine wpAny_storeName_local hk hn (fun h' hn' hs=>?_) hcls
  obtain⟨oL,_,_,hoL,_⟩:=id hn
  refine h _ ⟨I.ok,I.os,I.bare,⟨fun b o e n hb hx=>?_,fun b o e n hb hx=>?_,I.base.free,fun b o e hx=>?_,I.base.tups,I.base.frzs,I.base.tbls⟩,⟨_,hn',fun j y v' e1 e2 e3=>?_⟩,fun y c e=>?_,I.free,I.freeC,fun p hp=>?_,tracked ⟨oL,hoL,I.free⟩ hs,by simpa using I.len⟩ ⟨_,hs,.inl rfl⟩
  ·exact(hs.2 b (Qq4 (Qql (Qqf e) I.ok.above))).trans (I.base.keep b o e n hb hx)
  ·obtain⟨sl,e1⟩:=I.base.slot b o e n hb hx
   exact⟨sl,(hs.2 b (Qq4 (Qql (Qqf e) I.ok.above))).trans e1⟩
  ·obtain⟨o',e1⟩:=I.base.there b o e hx
   exact⟨o',(hs.2 b (Qq4 (Qql (Qqf e) I.ok.above))).trans e1⟩
  ·by_cases hj:j=i
   ·subst hj
    rw[hi]at e1; cases e1
    rw[Qzv hiσ]at e2
    cases e2
    exact⟨u,r,.inl ⟨hk,by simp⟩⟩
   ·rw[Qza (Ne.symm hj)]at e2
    obtain⟨u',r',q⟩:=hl j y v' e1 e2 e3
    refine⟨u',r',?_⟩
    rcases q with⟨k,e⟩|⟨k,c,e,z⟩
    ·refine .inl ⟨k,?_⟩
     have:y≠x:=fun e=>hj (qcv hN e1 (e▸hi))
     simp[this,e]
    ·exact .inr ⟨k,c,e,z.sameBut hs (cne y c e)⟩
  ·obtain⟨w',z⟩:=I.cell y c e
   exact⟨w',z.sameBut hs (cne y c e)⟩
  ·obtain⟨e,n,ne,nf,d⟩:=I.pin p hp
   exact⟨(hs.2 p.1 ne).trans e,n,ne,nf,d⟩
 ·have hfn:X.fn x=true:=by
   rcases hf with z|z
   ·exact z
   ·rw[z]at hk; cases hk
  obtain⟨c,hc⟩:=I.ok.has x (.inl hk)
  obtain⟨w',z⟩:=I.cell x c hc
  refine wpAny_storeName_cell I.ok.kind hk hc z (fun h' hc' hs=>?_)
  obtain⟨oc,hoc,hocd⟩:=id z
  refine h { s with heap:=h' } ⟨I.ok,I.os,I.bare,⟨fun b o e n hb hx=>?_,fun b o e n hb hx=>?_,I.base.free,fun b o e hx=>?_,I.base.tups,I.base.frzs,I.base.tbls⟩,⟨m,hn.sameBut hs (Ne.symm (cne x c hc)),fun j y v' e1 e2 e3=>?_⟩,fun y c' e=>?_,I.free,I.freeC,fun p hp=>?_,tracked ⟨oc,hoc,I.freeC x c hc⟩ hs,by simpa using I.len⟩ ⟨c,hs,.inr hc⟩
  ·exact(hs.2 b (Qq4 (Qql (Qqf e) (I.ok.cab x c hfn hc)))).trans (I.base.keep b o e n hb hx)
  ·obtain⟨sl,e1⟩:=I.base.slot b o e n hb hx
   exact⟨sl,(hs.2 b (Qq4 (Qql (Qqf e) (I.ok.cab x c hfn hc)))).trans e1⟩
  ·obtain⟨o',e1⟩:=I.base.there b o e hx
   exact⟨o',(hs.2 b (Qq4 (Qql (Qqf e) (I.ok.cab x c hfn hc)))).trans e1⟩
  ·by_cases hj:j=i
   ·subst hj
    rw[hi]at e1; cases e1
    rw[Qzv hiσ]at e2
    cases e2
    exact⟨u,r,.inr ⟨.inl hk,c,hc,hc'⟩⟩
   ·rw[Qza (Ne.symm hj)]at e2
    obtain⟨u',r',q⟩:=hl j y v' e1 e2 e3
    refine⟨u',r',?_⟩
    rcases q with q|⟨k,c',e,z'⟩
    ·exact .inl q
    ·refine .inr ⟨k,c',e,z'.sameBut hs ?_⟩
     rintro rfl
     exact hj (qcv hN e1 (I.ok.inj _ _ _ e hc▸hi))
  ·by_cases hcc:c'=c
   ·subst hcc; exact⟨_,hc'⟩
   ·obtain⟨w2,z2⟩:=I.cell y c' e
    exact⟨w2,z2.sameBut hs hcc⟩
  ·obtain⟨e,n,ne,nf,d⟩:=I.pin p hp
   refine⟨(hs.2 p.1 ?_).trans e,n,ne,nf,d⟩
   intro q
   rw[q,hoc]at e
   have q':oc=p.2:=Option.some.inj e
   exact d w' (by rw[← q']; exact hocd)
theorem qb5{M:Model}{A:Around}{E:Value→Shared→Prop}{i:Nat}{x:Str}{v:V}{u:Value}{Q:Unit→Shared→Prop}(I:Inv X pins σ H s)(hN:X.N.Nodup)(hi:X.N[i]?=some x)(hx:Loc X.env.scope x)(r:RelV v u)
  (h:∀ s',Inv X pins (σ.set i (some v)) H s'→Q () s') (hf:X.fn x=true∨X.env.scope.names.lookup x=some .local):wpAny M A (storeName X.env x u) Q E s:=
 qyk I hN hi hx r (fun s' I' _=>h s' I') hf
theorem Inv.call'{s':Shared}{ch:List Addr}(I:Inv X pins σ H s)(ho:s'.os=s.os)(u:Un (frs X.stack) ch H H' s.heap s'.heap)(hok:HOk X.prog X.w H' s'.heap)(hg:AllBare s'.gens)
  (hch:∀ b∈ch,(b∈X.ex∨X.s₀.heap.objs.size≤b)∧b≠X.env.locals∧(∀ x c,X.env.cells.lookup x=some c→c≠b)∧∀ p∈X.pn++pins,p.1≠b):Inv X pins σ H' s':=by
 obtain⟨h',g',d',t',o'⟩:=s'
 have e:o'=s.os:=ho
 subst e
 exact I.call (g':=g') (t':=t') (d':=d') u hok hg hch
end
abbrev XK:=Value→Option Addr→Hp→Prop
abbrev St:=List (Option V)
abbrev VK:=V→Hp→Prop
abbrev TE:=St→Hp→VK→Prop
abbrev TT:=St→Hp→(Bool→Hp→Prop)→Prop
abbrev TA:=St→Hp→(List V→Hp→Prop)→Prop
structure Ends where
 nx:St→Hp→Prop
 rt:VK
 bk:St→Hp→Prop:=fun _ _=>False
 ct:St→Hp→Prop:=fun _ _=>False
abbrev TS:=Ends→St→Hp→Prop
def EP(X:Cx)(pins:List (Addr×Obj))(σ:St)(Q:VK)(u:Value)(s':Shared):Prop:=∃ v H',Inv X pins σ H' s'∧RelV v u∧Q v H'
def TP(X:Cx)(pins:List (Addr×Obj))(σ:St)(Q:Bool→Hp→Prop)(b:Bool)(s':Shared):Prop:=∃ H',Inv X pins σ H' s'∧Q b H'
def AP(X:Cx)(pins:List (Addr×Obj))(σ:St)(Q:List V→Hp→Prop)(us:List Value)(s':Shared):Prop:=∃ vs H',Inv X pins σ H' s'∧Vals vs us∧Q vs H'
def SP(X:Cx)(pins:List (Addr×Obj))(D:Ends)(f:Flow)(s':Shared):Prop:=
 match f with
 |.next=>∃ σ' H',Inv X pins σ' H' s'∧D.nx σ' H'
 |.brk=>∃ σ' H',Inv X pins σ' H' s'∧D.bk σ' H'
 |.cont=>∃ σ' H',Inv X pins σ' H' s'∧D.ct σ' H'
 |.ret u=>∃ v σ' H',Inv X pins σ' H' s'∧RelV v u∧D.rt v H'
def PE(X:Cx)(e:Expr)(t:TE):Prop:=
 ∀ (pins:List (Addr×Obj)) (s:Shared) (σ:St) (H:Hp) (Q:VK),Inv X pins σ H s→t σ H Q→wpAny (model X.prog X.w) X.A (eval e X.env) (EP X pins σ Q) X.xe s
def PT(X:Cx)(e:Expr)(t:TT):Prop:=
 ∀ (pins:List (Addr×Obj)) (s:Shared) (σ:St) (H:Hp) (Q:Bool→Hp→Prop),Inv X pins σ H s→t σ H Q→wpAny (model X.prog X.w) X.A (isTrue e X.env (eval e X.env)) (TP X pins σ Q) X.xe s
def PW(X:Cx)(e:Expr)(t:TT):Prop:=
 ∀ (whole:Sem Value) (pins:List (Addr×Obj)) (s:Shared) (σ:St) (H:Hp) (Q:Bool→Hp→Prop),Inv X pins σ H s→t σ H Q→wpAny (model X.prog X.w) X.A (isTrue e X.env whole) (TP X pins σ Q) X.xe s
theorem PW.pt{X:Cx}{e:Expr}{t:TT}(h:PW X e t):PT X e t:=h _
def PA(X:Cx)(es:List Expr)(t:TA):Prop:=
 ∀ (pos:Pos) (pins:List (Addr×Obj)) (s:Shared) (σ:St) (H:Hp) (Q:List V→Hp→Prop),Inv X pins σ H s→t σ H Q→wpAny (model X.prog X.w) X.A (spliced (backTo pos (starEach es X.env))) (AP X pins σ Q) X.xe s
def PS(X:Cx)(st:Stmt)(t:TS):Prop:=
 ∀ (pins:List (Addr×Obj)) (s:Shared) (σ:St) (H:Hp) (D:Ends),Inv X pins σ H s→t D σ H→wpAny (model X.prog X.w) X.A (exec st X.env) (SP X pins D) X.xe s
def PSs(X:Cx)(st:List Stmt)(t:TS):Prop:=
 ∀ (pins:List (Addr×Obj)) (s:Shared) (σ:St) (H:Hp) (D:Ends),Inv X pins σ H s→t D σ H→wpAny (model X.prog X.w) X.A (execs st X.env) (SP X pins D) X.xe s
theorem thn{α:Type}{t:Sem α}{Q Q':α→Shared→Prop}{M:Model}{A:Around}{E:Value→Shared→Prop}{s:Shared}(h:wpAny M A t Q E s)(hQ:∀ a s,Q a s→Q' a s):wpAny M A t Q' E s:=wpAny_mono h hQ fun _ _ x=>x
end L2
namespace L2
open PySem PySem.Spec PyProof.Rows
section
variable {X:Cx}
theorem bin{a b:Expr}{ta tb:TE}(ha:PE X a ta)(hb:PE X b tb){pins:List (Addr×Obj)}{s:Shared}{σ:St}{H:Hp}{R:V→V→Hp→Prop}(I:Inv X pins σ H s)(h:ta σ H fun x H1=>tb σ H1 fun y H2=>R x y H2)
  {α:Type}{Q:α→Shared→Prop}{f:Value→Value→Sem α}
  (hf:∀ v u s2 x y H2,Inv X pins σ H2 s2→RelV x v→RelV y u→R x y H2→wpAny (model X.prog X.w) X.A (f v u) Q X.xe s2) :
  wpAny (model X.prog X.w) X.A (eval a X.env) (fun v s₁=>wpAny (model X.prog X.w) X.A (eval b X.env) (fun u s₂=>wpAny (model X.prog X.w) X.A (f v u) Q X.xe s₂) X.xe s₁) X.xe s:=by
 refine thn (ha pins s σ H _ I h) fun v s1 ⟨x,H1,I1,r1,q1⟩=>?_
 refine thn (hb pins s1 σ H1 _ I1 q1) fun u s2 ⟨y,H2,I2,r2,q2⟩=>?_
 exact hf v u s2 x y H2 I2 r1 r2 q2
noncomputable def tVar(i:Nat):TE:=fun σ H Q=>∃ v,σ[i]?=some (some v)∧Q v H
noncomputable def tC(v:V):TE:=fun _ H Q=>Q v H
theorem qcq{i:Nat}{x:Str}{pos:Pos}(hN:X.N[i]?=some x)(hv:Vis X.env.scope x)(hd:(x==("__debug__" : Str))=false:=by decide)(hcd:(x==("__classdict__" : Str))=false:=by decide):PE X (.Name x pos) (tVar i):=by
 intro pins s σ H Q I h
 obtain⟨v,e,h⟩:=h
 obtain⟨m,hn,hl⟩:=I.loc
 obtain⟨u,r,l⟩:=hl i x v hN e hv
 have fin:EP X pins σ Q u s:=⟨v,H,I,r,h⟩
 rcases l with⟨hk,hm⟩|⟨hk,c,hc,hcell⟩
 ·exact wpAny_Name (wpAny_loadName_local I.ok.kind hk hn hm fin) hd
 ·rcases hk with hk|hk
  ·exact wpAny_Name (wpAny_loadName_cell I.ok.kind hk hc hcell fin) hd
  ·exact wpAny_Name (wpAny_loadName_free I.ok.kind hk hc hcell fin hcd) hd
theorem pe_int{i j pos}:PE X (.Constant (.int i) j pos) (tC (.int i)):=fun _ _ _ H _ I h=>wpAny_Constant_int ⟨.int i,H,I.tok _,⟨_,rfl⟩,h⟩
theorem pe_bl{b j pos}:PE X (.Constant (.bool b) j pos) (tC (.bl b)):=fun _ _ _ H _ I h=>Constant_bool ⟨.bl b,H,I,rfl,h⟩
theorem pe_non{j pos}:PE X (.Constant .none j pos) (tC .non):=fun _ _ _ H _ I h=>Constant_none ⟨.non,H,I,rfl,h⟩
theorem pe_str{x j pos}:PE X (.Constant (.str x) j pos) (tC (.str x)):=fun _ _ _ H _ I h=>Calls.Constant_str ⟨.str x,H,I.tok _,⟨_,rfl⟩,h⟩
def Gl(X:Cx)(x:Str):Prop:=X.env.kindOf x=some .globalImplicit
theorem qjk{E:Value→Shared→Prop}{pins:List (Addr×Obj)}{s:Shared}{σ:St}{H:Hp}{x:Str}{u:Value}{pos:Pos}{Q:Value→Shared→Prop}(I:Inv X pins σ H s)(hg:Gl X x)(hm:X.mg x=some u)(h:Q u s)
  (hd:(x==("__debug__" : Str))=false:=by decide):wpAny (model X.prog X.w) X.A (eval (.Name x pos) X.env) Q E s:=
 Calls.Name_function_global I.ok.kind hg (Calls.loadGlobal_global (by rw[I.ok.glob]; exact I.mod.glob.keeps I.bk) hm h) hd
theorem qcc{E:Value→Shared→Prop}{pins:List (Addr×Obj)}{s:Shared}{σ:St}{H:Hp}{x:Str}{u:Value}{pos:Pos}{Q:Value→Shared→Prop}(I:Inv X pins σ H s)(hg:Gl X x)(hm:X.mg x=none)(hv:bootBuiltins x=some u)(h:Q u s)
  (hn:x ≠ "__name__":=by decide) (hd:(x==("__debug__" : Str))=false:=by decide):wpAny (model X.prog X.w) X.A (eval (.Name x pos) X.env) Q E s:=by
 obtain⟨mb,h1,h2⟩:=I.mod.blt
 exact Calls.Name_function_global I.ok.kind hg (Calls.loadGlobal_builtin (by rw[I.ok.glob]; exact I.mod.glob.keeps I.bk) hm (by rw[I.ok.blt]; exact h1.keeps I.bk) ((h2 x hn).trans hv) h) hd
theorem qbj{x:Str}{v:V}{u:Value}{pos:Pos}(hg:Gl X x)(hm:X.mg x=some u)(r:RelV v u)(hd:(x==("__debug__" : Str))=false:=by decide):PE X (.Name x pos) (tC v):=
 fun _ _ _ H _ I h=>qjk I hg hm ⟨v,H,I,r,h⟩ hd
theorem qk8{x:Str}{v:V}{u:Value}{pos:Pos}(hg:Gl X x)(hm:X.mg x=none)(hv:bootBuiltins x=some u)(r:RelV v u)(hn:x ≠ "__name__":=by decide)(hd:(x==("__debug__" : Str))=false:=by decide):PE X (.Name x pos) (tC v):=
 fun _ _ _ H _ I h=>qcc I hg hm hv ⟨v,H,I,r,h⟩ hn hd
def t2I(ta tb:TE)(k:Int→Int→Hp→Prop):St→Hp→Prop:=fun σ H=>ta σ H fun x H1=>tb σ H1 fun y H2=>∃ i j,x=.int i∧y=.int j∧k i j H2
variable {a b:Expr}{ta tb:TE}{pos:Pos}
def PC(X:Cx)(op:CmpOp)(a b:Expr)(t:TE):Prop:=
 ∀ (pins:List (Addr×Obj)) (s:Shared) (σ:St) (H:Hp) (Q:VK),Inv X pins σ H s→t σ H Q→
  wpAny (model X.prog X.w) X.A (eval a X.env) (fun v s₁=>wpAny (model X.prog X.w) X.A (eval b X.env) (fun u s₂=>wpAny (model X.prog X.w) X.A (compareOp op v u) (EP X pins σ Q) X.xe s₂) X.xe s₁) X.xe s
theorem nobehind(b:Expr){op:CmpOp}(h:op≠.In)(h2:op≠.NotIn):behindInMarks op b=false:=by
 have e1:(op==CmpOp.In)=false:=by cases op<;>first|rfl|exact absurd rfl h
 have e2:(op==CmpOp.NotIn)=false:=by cases op<;>first|rfl|exact absurd rfl h2
 cases b<;>simp[behindInMarks,e1,e2]
noncomputable def tCmp(p:Int→Int→Bool)(ta tb:TE):TE:=fun σ H Q=>t2I ta tb (fun i j H2=>Q (.bl (p i j)) H2) σ H
noncomputable def tB(t:TE):TT:=fun σ H Q=>t σ H fun x H1=>∃ c,x=.bl c∧Q c H1
theorem pe_cmp{op:CmpOp}{t:TE}(h:PC X op a b t)(h1:behindInMarks op b=false):PE X (.Compare a [op] [b] pos) t:=fun pins s σ H Q I hw=>wpAny_Compare1 (h pins s σ H Q I hw) h1
theorem pt_cmp{op:CmpOp}{t:TE}(h:PC X op a b t)(h1:behindInMarks op b=false):PT X (.Compare a [op] [b] pos) (tB t):=by
 intro pins s σ H Q I hw
 refine wpAny_isTrue_Compare1 (thn (h pins s σ H _ I hw) fun v s1 h1=>thn h1 fun u s2 h2=>thn h2 fun c s3 ⟨x,H1,I1,r1,q1⟩=>?_) h1
 obtain⟨d,rfl,q⟩:=q1
 cases r1
 exact wpAny_truthy_bool ⟨H1,I1,q⟩
variable {tA tB':TT}{rest:List Expr}
noncomputable def tAnd(t u:TT):TT:=fun σ H Q=>t σ H fun c H1=>if c=true then u σ H1 Q else Q false H1
noncomputable def tOr(t u:TT):TT:=fun σ H Q=>t σ H fun c H1=>if c=true then Q true H1 else u σ H1 Q
noncomputable def tNot(t:TT):TT:=fun σ H Q=>t σ H fun c H1=>Q (!c) H1
theorem qlh(ha:PT X a tA):PW X (.BoolOp .And [a] pos) tA:=by
 intro wh pins s σ H Q I h
 refine isTrue_and (thn (ha pins s σ H Q I h) fun c s1 e=>?_)
 cases c with
 |true=>exact isTrue_and_nil e
 |false=>exact e
theorem pw_or1(ha:PT X a tA):PW X (.BoolOp .Or [a] pos) tA:=by
 intro wh pins s σ H Q I h
 refine isTrue_or (thn (ha pins s σ H Q I h) fun c s1 e=>?_)
 cases c with
 |false=>exact isTrue_or_nil e
 |true=>exact e
theorem qiy(ha:PT X a tA)(hb:PW X (.BoolOp .And (b::rest) pos) tB'):PW X (.BoolOp .And (a::b::rest) pos) (tAnd tA tB'):=by
 intro wh pins s σ H Q I h
 refine isTrue_and (thn (ha pins s σ H _ I h) fun c s1 ⟨H1,I1,q1⟩=>?_)
 cases c with
 |true=>exact hb wh pins s1 σ H1 Q I1 q1
 |false=>exact⟨H1,I1,q1⟩
theorem pw_or(ha:PT X a tA)(hb:PW X (.BoolOp .Or (b::rest) pos) tB'):PW X (.BoolOp .Or (a::b::rest) pos) (tOr tA tB'):=by
 intro wh pins s σ H Q I h
 refine isTrue_or (thn (ha pins s σ H _ I h) fun c s1 ⟨H1,I1,q1⟩=>?_)
 cases c with
 |true=>exact⟨H1,I1,q1⟩
 |false=>exact hb wh pins s1 σ H1 Q I1 q1
theorem pt_not(ha:PT X a tA):PT X (.UnaryOp .Not a pos) (tNot tA):=by
 intro pins s σ H Q I h
 exact isTrue_not (ha pins s σ H (fun c H1=>Q (!c) H1) I h)
noncomputable def tAndV(ta tb:TE):TE:=fun σ H Q=>ta σ H fun x H1=>∃ c,x=.bl c∧if c=true then tb σ H1 Q else Q (.bl false) H1
noncomputable def tOrV(ta tb:TE):TE:=fun σ H Q=>ta σ H fun x H1=>∃ c,x=.bl c∧if c=true then Q (.bl true) H1 else tb σ H1 Q
noncomputable def tNotV(ta:TE):TE:=fun σ H Q=>ta σ H fun x H1=>∃ c,x=.bl c∧Q (.bl (!c)) H1
theorem qic{op}{t:TE}(h:PE X a t):PE X (.BoolOp op [a] pos) t:=fun pins s σ H Q I hw=>BoolOp_one (h pins s σ H Q I hw)
theorem qid(ha:PE X a ta)(hb:PE X (.BoolOp .And (b::rest) pos) tb):PE X (.BoolOp .And (a::b::rest) pos) (tAndV ta tb):=by
 intro pins s σ H Q I h
 refine BoolOp_and (thn (ha pins s σ H _ I h) fun v s1 ⟨x,H1,I1,r1,q1⟩=>?_)
 obtain⟨c,rfl,q1⟩:=q1
 cases r1
 refine wpAny_truthy_bool ?_
 cases c with
 |true=>exact hb pins s1 σ H1 Q I1 q1
 |false=>exact⟨.bl false,H1,I1,rfl,q1⟩
theorem pe_or(ha:PE X a ta)(hb:PE X (.BoolOp .Or (b::rest) pos) tb):PE X (.BoolOp .Or (a::b::rest) pos) (tOrV ta tb):=by
 intro pins s σ H Q I h
 refine BoolOp_or (thn (ha pins s σ H _ I h) fun v s1 ⟨x,H1,I1,r1,q1⟩=>?_)
 obtain⟨c,rfl,q1⟩:=q1
 cases r1
 refine wpAny_truthy_bool ?_
 cases c with
 |false=>exact hb pins s1 σ H1 Q I1 q1
 |true=>exact⟨.bl true,H1,I1,rfl,q1⟩
theorem pe_not(ha:PE X a ta):PE X (.UnaryOp .Not a pos) (tNotV ta):=by
 intro pins s σ H Q I h
 refine UnaryOp_ (thn (ha pins s σ H _ I h) fun v s1 ⟨x,H1,I1,r1,q1⟩=>?_)
 obtain⟨c,rfl,q1⟩:=q1
 cases r1
 exact not_of (wpAny_truthy_bool ⟨.bl (!c),H1,I1,rfl,q1⟩)
noncomputable def tIf(t:TT)(ta tb:TE):TE:=fun σ H Q=>t σ H fun c H1=>if c=true then ta σ H1 Q else tb σ H1 Q
theorem qhz{c:Expr}(hc:PT X c tA)(ha:PE X a ta)(hb:PE X b tb):PE X (.IfExp c a b pos) (tIf tA ta tb):=by
 intro pins s σ H Q I h
 refine wpAny_IfExp (thn (hc pins s σ H _ I h) fun d s1 ⟨H1,I1,q1⟩=>?_)
 cases d with
 |true=>exact ha pins s1 σ H1 Q I1 q1
 |false=>exact hb pins s1 σ H1 Q I1 q1
end
end L2
namespace L2
open PySem PySem.Spec PyProof.Rows
def SqL(K:Qqq)(H:Hp)(a:Addr)(xs:List V):Prop:=
 Rd H a (.lst xs)∨
  ∃ (o:Obj) (its:Array Value) (n:Nat),K.lookup a=some o∧o.cls=.type "list"∧o.dict=none∧o.data=.seq its n∧its.size≤sizeLine∧Vals xs its.toList
def SqT(K:Qqq)(H:Hp)(a:Addr)(xs:List V):Prop:=
 Rd H a (.tup xs)∨
  ∃ (o:Obj) (its:Array Value) (n:Nat),K.lookup a=some o∧o.cls=.type "tuple"∧o.data=.seq its n∧its.size≤sizeLine∧Vals xs its.toList
noncomputable def absV:Value→Option V
 |.none=>some .non
 |.bool b=>some (.bl b)
 |.int i _=>some (.int i)
 |.str x _=>some (.str x)
 |.bytes b _=>some (.byt b)
 |.float b _=>some (.flt b)
 |.ref a=>some (.ref a)
 |.type n=>some (.ty n)
 |_=>none
theorem RelV.abs{x:V}{u:Value}(r:RelV x u):absV u=some x:=by
 cases x with
 |non=>cases r; rfl
 |bl _=>cases r; rfl
 |int _=>obtain⟨t,rfl⟩:=r; rfl
 |str _=>obtain⟨t,rfl⟩:=r; rfl
 |byt _=>obtain⟨t,rfl⟩:=r; rfl
 |flt _=>obtain⟨t,rfl⟩:=r; rfl
 |ref _=>cases r; rfl
 |ty _=>cases r; rfl
theorem RelV.inj{x y:V}{u:Value}(r:RelV x u)(q:RelV y u):x=y:=Option.some.inj (r.abs.symm.trans q.abs)
theorem Vals.inj:∀ {xs ys:List V}{us:List Value},Vals xs us→Vals ys us→xs=ys
 |_,_,_,.nil,.nil=>rfl
 |_,_,_,.cons r t,.cons r' t'=>by rw[r.inj r',Vals.inj t t']
section
variable {X:Cx}{pins:List (Addr×Obj)}{σ:St}{H:Hp}{s:Shared}{a:Addr}{xs ys:List V}
theorem SqL.of{K:Qqq}(h:H a=some (.lst xs)):SqL K H a xs:=.inl (.inl h)
theorem SqT.of{K:Qqq}(h:H a=some (.tup xs)):SqT K H a xs:=.inl (.inl h)
theorem Inv.list(I:Inv X pins σ H s)(h:SqL X.K H a xs):∃ its:List Value,Vals xs its∧PlainL s.heap a its.toArray∧xs.length≤sizeLine:=by
 rcases h with h|⟨o,its,n,hk,hc,hd,hs,hz,r⟩
 ·obtain⟨z,its,n,r,e⟩:=h.ok I.hok
  exact⟨its,r,⟨_,n,e,rfl,rfl,rfl⟩,z⟩
 ·refine⟨its.toList,r,⟨o,n,I.kIn a o hk,hc,hd,by simpa using hs⟩,?_⟩
  have e:=r.length
  simp only[Qxc]at e
  omega
theorem Inv.tuple(I:Inv X pins σ H s)(h:SqT X.K H a xs):∃ its:List Value,Vals xs its∧IsTup s.heap a its.toArray∧xs.length≤sizeLine:=by
 rcases h with h|⟨o,its,n,hk,hc,hs,hz,r⟩
 ·obtain⟨z,its,r,p⟩:=h.ok I.hok
  exact⟨its,r,p,z⟩
 ·refine⟨its.toList,r,⟨o,I.kIn a o hk,hc,n,by simpa using hs⟩,?_⟩
  have e:=r.length
  simp only[Qxc]at e
  omega
theorem Inv.list_inj(I:Inv X pins σ H s)(h:SqL X.K H a xs)(h':SqL X.K H a ys):xs=ys:=by
 obtain⟨its,r,⟨o,n,e,_,_,d⟩,_⟩:=I.list h
 obtain⟨its',r',⟨o',n',e',_,_,d'⟩,_⟩:=I.list h'
 rw[e]at e'; cases e'
 rw[d]at d'
 injection d' with d1 _
 have:its=its':=by simpa using congrArg Array.toList d1
 subst this
 exact r.inj r'
theorem Inv.tuple_inj(I:Inv X pins σ H s)(h:SqT X.K H a xs)(h':SqT X.K H a ys):xs=ys:=by
 obtain⟨its,r,⟨o,e,_,n,d⟩,_⟩:=I.tuple h
 obtain⟨its',r',⟨o',e',_,n',d'⟩,_⟩:=I.tuple h'
 rw[e]at e'; cases e'
 rw[d]at d'
 injection d' with d1 _
 have:its=its':=by simpa using congrArg Array.toList d1
 subst this
 exact r.inj r'
end
noncomputable abbrev Cx.wish(X:Cx)(E:Value→Shared→Prop):Cx:={ X with xe:=E }
noncomputable abbrev Cx.nox(X:Cx):Cx:=X.wish fun _ _=>False
theorem Cx.Ok.wish{X:Cx}(ok:X.Ok)(E:Value→Shared→Prop):(X.wish E).Ok:=
 ⟨ok.mod,ok.kind,ok.glob,ok.blt,ok.above,ok.inj,ok.has,ok.cab,ok.hd,ok.frames,ok.stk,ok.exf,ok.bs,ok.bsz,ok.noex,ok.exfs,ok.funs,ok.frf⟩
theorem Cx.Ok.unwish{X:Cx}{E:Value→Shared→Prop}(ok:(X.wish E).Ok):X.Ok:=
 ⟨ok.mod,ok.kind,ok.glob,ok.blt,ok.above,ok.inj,ok.has,ok.cab,ok.hd,ok.frames,ok.stk,ok.exf,ok.bs,ok.bsz,ok.noex,ok.exfs,ok.funs,ok.frf⟩
section
variable {X:Cx}{pins:List (Addr×Obj)}{σ:St}{H:Hp}{s:Shared}{E:Value→Shared→Prop}
theorem Inv.wish(I:Inv X pins σ H s)(E:Value→Shared→Prop):Inv (X.wish E) pins σ H s:=⟨I.ok.wish E,I.os,I.bare,I.base,I.loc,I.cell,I.free,I.freeC,I.pin,I.hok,I.len⟩
theorem Inv.unwish(I:Inv (X.wish E) pins σ H s):Inv X pins σ H s:=⟨I.ok.unwish,I.os,I.bare,I.base,I.loc,I.cell,I.free,I.freeC,I.pin,I.hok,I.len⟩
theorem SP.unwish{D:Ends}{f:Flow}{s':Shared}(h:SP (X.wish E) pins D f s'):SP X pins D f s':=by
 cases f with
 |next=>obtain⟨σ',H',I,q⟩:=h; exact⟨σ',H',I.unwish,q⟩
 |brk=>obtain⟨σ',H',I,q⟩:=h; exact⟨σ',H',I.unwish,q⟩
 |cont=>obtain⟨σ',H',I,q⟩:=h; exact⟨σ',H',I.unwish,q⟩
 |ret u=>obtain⟨v,σ',H',I,r,q⟩:=h; exact⟨v,σ',H',I.unwish,r,q⟩
theorem PE.nox{e:Expr}{t:TE}(h:PE X.nox e t):PE X e t:=fun pins s σ H Q I hw=>
 wpAny_mono (h pins s σ H Q (I.wish _) hw) (fun _ _ ⟨v,H',I',r,q⟩=>⟨v,H',I'.unwish,r,q⟩) fun _ _ z=>False.elim z
theorem PT.nox{e:Expr}{t:TT}(h:PT X.nox e t):PT X e t:=fun pins s σ H Q I hw=>
 wpAny_mono (h pins s σ H Q (I.wish _) hw) (fun _ _ ⟨H',I',q⟩=>⟨H',I'.unwish,q⟩) fun _ _ z=>False.elim z
theorem PSs.nox{st:List Stmt}{t:TS}(h:PSs X.nox st t):PSs X st t:=fun pins s σ H D I hw=>
 wpAny_mono (h pins s σ H D (I.wish _) hw) (fun _ _ q=>q.unwish) fun _ _ z=>False.elim z
end
section
variable {X:Cx}{st:Stmt}{rest:List Stmt}{t u:TS}{e:Expr}{te:TE}{pos:Pos}
noncomputable def tNext:TS:=fun D σ H=>D.nx σ H
noncomputable def tSeq(t u:TS):TS:=fun D σ H=>t { D with nx:=u D } σ H
theorem pss_nil:PSs X [] tNext:=fun _ _ σ H _ I h=>wpAny_execs_nil ⟨σ,H,I,h⟩
theorem qzs(h1:PS X st t)(h2:PSs X rest u):PSs X (st::rest) (tSeq t u):=by
 intro pins s σ H D I h
 refine wpAny_execs_cons (thn (h1 pins s σ H { D with nx:=u D } I h) fun f s1 q=>?_)
 cases f with
 |next=>
  obtain⟨σ',H',I',q⟩:=q
  exact h2 pins s1 σ' H' D I' q
 |ret v=>exact q
 |brk=>exact q
 |cont=>exact q
theorem qee(h1:PS X st t):PSs X [st] t:=by
 intro pins s σ H D I h
 refine wpAny_execs_cons (thn (h1 pins s σ H D I h) fun f s1 q=>?_)
 cases f with
 |next=>exact wpAny_execs_nil q
 |ret v=>exact q
 |brk=>exact q
 |cont=>exact q
theorem Inv.quiet{pins:List (Addr×Obj)}{σ:St}{H:Hp}{s:Shared}(I:Inv X pins σ H s):interactive X.env=false:=by simp[interactive,I.ok.kind]
theorem qia{x j pos pos'}:PS X (.Expr (.Constant (.str x) j pos) pos') tNext:=fun _ s σ H _ I h=>wpAny_Expr (Calls.Constant_str (show SP X _ _ .next { s with toks:=s.toks+1 } from⟨σ,H,I.tok _,h⟩)) I.quiet
noncomputable def tDrop(te:TE):TS:=fun D σ H=>te σ H fun _ H1=>D.nx σ H1
theorem qlm(he:PE X e te)(hs:swapsWith e none pos.line X.env=pure false):PS X (.Expr e pos) (tDrop te):=by
 intro pins s σ H D I h
 exact wpAny_Expr_any (thn (he pins s σ H _ I h) fun v s1 ⟨x,H1,I1,r1,q1⟩=>⟨σ,H1,I1,q1⟩) I.quiet hs
noncomputable def tRet(te:TE):TS:=fun D σ H=>te σ H D.rt
theorem qef(he:PE X e te):PS X (.Return (some e) pos) (tRet te):=by
 intro pins s σ H D I h
 exact wpAny_Return_some (thn (he pins s σ H _ I h) fun v s1 ⟨x,H1,I1,r1,q1⟩=>⟨x,σ,H1,I1,r1,q1⟩)
noncomputable def tIfS(c:TT)(t u:TS):TS:=fun D σ H=>c σ H fun b H1=>if b=true then t D σ H1 else u D σ H1
theorem qll{c:Expr}{a b:List Stmt}{tc:TT}(hc:PT X c tc)(ha:PSs X a t)(hb:PSs X b u):PS X (.If c a b pos) (tIfS tc t u):=by
 intro pins s σ H D I h
 refine wpAny_If (thn (hc pins s σ H _ I h) fun d s1 ⟨H1,I1,q1⟩=>?_)
 cases d with
 |true=>exact ha pins s1 σ H1 D I1 q1
 |false=>exact hb pins s1 σ H1 D I1 q1
end
abbrev TG:=V→St→Hp→(St→Hp→Prop)→Prop
abbrev TGs:=List V→St→Hp→(St→Hp→Prop)→Prop
def PG(X:Cx)(target:Expr)(t:TG):Prop:=
 ∀ (pins:List (Addr×Obj)) (s:Shared) (σ:St) (H:Hp) (v:V) (u:Value) (Q:St→Hp→Prop),Inv X pins σ H s→RelV v u→t v σ H Q→
  wpAny (model X.prog X.w) X.A (assign target X.env u) (fun _ s'=>∃ σ' H',Inv X pins σ' H' s'∧Q σ' H') X.xe s
def PGs(X:Cx)(ts:List Expr)(t:TGs):Prop:=
 ∀ (pins:List (Addr×Obj)) (s:Shared) (σ:St) (H:Hp) (vs:List V) (us:List Value) (Q:St→Hp→Prop),Inv X pins σ H s→Vals vs us→t vs σ H Q→
  wpAny (model X.prog X.w) X.A (assignInOrder ((assignEach ts X.env).map (·.2)) us) (fun _ s'=>∃ σ' H',Inv X pins σ' H' s'∧Q σ' H') X.xe s
section
variable {X:Cx}{pos:Pos}
noncomputable def qba(i:Nat):TG:=fun v σ H Q=>Q (σ.set i (some v)) H
theorem qel{i:Nat}{x:Str}(hN:X.N.Nodup)(hi:X.N[i]?=some x)(hx:Loc X.env.scope x)(hf:X.fn x=true∨X.env.scope.names.lookup x=some .local):PG X (.Name x pos) (qba i):=by
 intro pins s σ H v u Q I r h
 exact wpAny_assign_Name (qb5 I hN hi hx r (fun s' I'=>⟨_,H,I',h⟩) hf)
noncomputable def gNil:TGs:=fun vs σ H Q=>vs=[]∧Q σ H
noncomputable def gCons(t:TG)(u:TGs):TGs:=fun vs σ H Q=>∃ v r,vs=v::r∧t v σ H fun σ' H'=>u r σ' H' Q
theorem qls:PGs X [] gNil:=by
 intro pins s σ H vs us Q I r h
 obtain⟨e,h⟩:=h
 subst e
 cases r
 exact assignInOrder_nil ⟨σ,H,I,h⟩
theorem qg8{e:Expr}{es:List Expr}{t:TG}{u:TGs}(h1:PG X e t)(h2:PGs X es u)
  (hs:(assignEach (e::es) X.env).map (·.2)=assign e X.env::(assignEach es X.env).map (·.2):=by rfl):PGs X (e::es) (gCons t u):=by
 intro pins s σ H vs us Q I r h
 obtain⟨v,vr,e1,h⟩:=h
 subst e1
 cases r with
 |cons r rr=>
  rw[hs]
  refine assignInOrder_cons (thn (h1 pins s σ H _ _ _ I r h) fun _ s1 ⟨σ1,H1,I1,q1⟩=>?_)
  exact h2 pins s1 σ1 H1 _ _ Q I1 rr q1
noncomputable def gTup(K:Qqq)(n:Nat)(t:TGs):TG:=fun v σ H Q=>∃ a xs,v=.ref a∧SqT K H a xs∧xs.length=n∧t xs σ H Q
theorem pg_tup{es:List Expr}{k:Nat}{t:TGs}{n:Nat}(hc:X.calm=true)(h:PGs X es t)
  (hn:(assignEach es X.env).length=n:=by rfl) (hst:(assignEach es X.env).findIdx? (·.1)=none:=by rfl):PG X (.Tuple es k pos) (gTup X.K n t):=by
 intro pins s σ H v u Q I r hw
 obtain⟨a,xs,e1,hq,hl,hw⟩:=hw
 subst e1
 cases r
 obtain⟨its,rv,ht,hz⟩:=I.tuple hq
 refine assign_Tuple_tuple (I.ok.hd hc) ht (by simp[hn,← hl,rv.length]) hst fun h' hx=>?_
 have I1:Inv X pins σ H { s with heap:=h' }:=I.kept (t':=s.toks) fun b o e=>hx b o (Qq4 (Qqf e)) e
 exact h pins _ σ H xs _ Q I1 (by simpa using rv) hw
noncomputable def tAsg(te:TE)(g:TG):TS:=fun D σ H=>te σ H fun x H1=>g x σ H1 D.nx
theorem qyi{i:Nat}{x:Str}{e:Expr}{te:TE}{pos':Pos}(hN:X.N.Nodup)(hi:X.N[i]?=some x)(hx:Loc X.env.scope x)(he:PE X e te)(hs:swapsWith e (some (.Name x pos')) pos.line X.env=pure false:=by rfl)(hf:X.fn x=true∨X.env.scope.names.lookup x=some .local):
  PS X (.Assign [.Name x pos'] e pos) (tAsg te (qba i)):=by
 intro pins s σ H D I h
 refine wpAny_Assign_Name (thn (he pins s σ H _ I h) fun v s1 ⟨y,H1,I1,r1,q1⟩=>?_) hs
 exact qb5 I1 hN hi hx r1 (fun s2 I2=>⟨_,H1,I2,q1⟩) hf
end
section
variable {X:Cx}{pos:Pos}
end
structure It where
 go:Nat→Hp→Prop
 yld:Nat→Hp→V→Hp→Prop
 stop:Nat→Hp→Prop
def FpOk(X:Cx)(pins:List (Addr×Obj))(H:Hp)(b:Addr):Prop:=
 H b=none∧b≠X.env.locals∧b ∉ X.fs∧(b∈X.ex∨X.s₀.heap.objs.size≤b)∧(∀ x c,X.env.cells.lookup x=some c→c≠b)∧∀ p∈X.pn++pins,p.1≠b
theorem Inv.fpOk{X:Cx}{pins:List (Addr×Obj)}{σ:St}{H H':Hp}{s:Shared}{b:Addr}(I:Inv X pins σ H s)(hb:s.heap.objs.size≤b)(hn:H' b=none):FpOk X pins H' b:=by
 refine⟨hn,Nat.ne_of_gt (Qql I.lt hb),I.nofs hb,.inr (Qq9 I.sz hb),fun x c e z=>?_,fun p hp z=>?_⟩
 ·obtain⟨v,q⟩:=I.cell x c e
  exact absurd (Qql q.lt (by rw[z]; exact hb)) (Qzd _)
 ·exact absurd (Qql (Qqf (I.pin p hp).1) (by rw[z]; exact hb)) (Qzd _)
structure Turn (P:Program) (w:World) (K:Qqq) (tg:Expr) (J:It) (fp:List Addr) (it:Addr) (tn:Nat→Heap→Prop):Prop where
 mem:it∈fp
 obj:∀ i h,tn i h→∀ b∈fp,∃ o,h.get? b=some o∧∀ v,o.data≠.cell v
 keep:∀ i h h',tn i h→(∀ b∈fp,∀ o,h.get? b=some o→h'.get? b=some o)→tn i h'
 item:∀ (X:Cx),X.prog=P→X.w=w→X.K=K→X.calm=true→∀ (i:Nat) (pins:List (Addr×Obj)) (s:Shared) (σ:St) (H:Hp) (E:Value→Shared→Prop),Inv X pins σ H s→(∀ b∈fp,FpOk X pins H b)→tn i s.heap→J.go i H→
  wpAny (model P w) X.A (pyNext (.ref it)) (fun r s1=>∃ u,r=some u∧
   wpAny (model P w) X.A (letOwnedTupleGo tg (.ref it) u) (fun _ s2=>∃ x H',Inv X pins σ H' s2∧RelV x u∧J.yld i H x H'∧tn (i+1) s2.heap∧∀ b∈fp,H' b=none) E s1) E s
 done:∀ (X:Cx),X.prog=P→X.w=w→X.K=K→X.calm=true→∀ (i:Nat) (pins:List (Addr×Obj)) (s:Shared) (σ:St) (H:Hp) (E:Value→Shared→Prop),Inv X pins σ H s→(∀ b∈fp,FpOk X pins H b)→tn i s.heap→J.stop i H→
  wpAny (model P w) X.A (pyNext (.ref it)) (fun r s1=>r=none∧Inv X pins σ H s1) E s
 self:∀ (A:Around) (i:Nat) (s:Shared) (Q:Value→Shared→Prop) (E:Value→Shared→Prop),tn i s.heap→Q (.ref it) s→wpAny (model P w) A (pyIter (.ref it)) Q E s
abbrev TI:=St→Hp→(It→Hp→Prop)→Prop
def PIE(X:Cx)(pins:List (Addr×Obj))(σ:St)(tg:Expr)(R:It→Hp→Prop)(itv:Value)(s2:Shared):Prop:=
 ∃ (it:Addr) (fp:List Addr) (tn:Nat→Heap→Prop) (J:It) (H':Hp),itv=.ref it∧Inv X pins σ H' s2∧Turn X.prog X.w X.K tg J fp it tn∧tn 0 s2.heap∧(∀ b∈fp,FpOk X pins H' b)∧R J H'
def PI(X:Cx)(tg iter:Expr)(wi:TI):Prop:=
 ∀ (pins:List (Addr×Obj)) (s:Shared) (σ:St) (H:Hp) (R:It→Hp→Prop),Inv X pins σ H s→wi σ H R→
  wpAny (model X.prog X.w) X.A (eval iter X.env) (fun v s1=>wpAny (model X.prog X.w) X.A (pyIter v) (PIE X pins σ tg R) X.xe s1) X.xe s
theorem qhg{M:Model}{A:Around}{E:Value→Shared→Prop}{s:Shared}{tg:Expr}{it:Addr}{u:Value}{o:Obj}{n:String}{vs:Array Value}{Q:Unit→Shared→Prop}(ho:s.heap.get? it=some o)(hc:o.cls=.type n)(hd:o.data=.fields vs)
  (hn:["enumerate","zip","dict_itemiterator","dict_reverseitemiterator","odict_iterator","itertools.zip_longest","itertools.pairwise"].contains n=false) (hQ:Q () s):wpAny M A (letOwnedTupleGo tg (.ref it) u) Q E s:=by
 unfold letOwnedTupleGo
 cases tg<;>first
  |exact wpAny_pure hQ
  |(cases u<;>first
    |exact wpAny_pure hQ
    |(refine wpAny_bind (wpAny_load ho ?_)
      rw[hc,hd]
      show wpAny M A (if (["enumerate","zip","dict_itemiterator","dict_reverseitemiterator","odict_iterator","itertools.zip_longest","itertools.pairwise"].contains n&&vs[0]?==some (rawInt _))=true then _ else _) Q E s
      rw[if_neg (by intro h; rw[hn,Bool.false_and]at h; cases h)]
      exact wpAny_pure hQ))
noncomputable def Itl(K:Qqq)(a:Addr):It:=
 ⟨fun i H=>∃ xs x,SqL K H a xs∧xs[i]?=some x,fun i H x H'=>H'=H∧∀ xs,SqL K H a xs→xs[i]?=some x,fun i H=>∃ xs,SqL K H a xs∧xs.length≤i⟩
noncomputable def Itt(K:Qqq)(a:Addr):It:=
 ⟨fun i H=>∃ xs x,SqT K H a xs∧xs[i]?=some x,fun i H x H'=>H'=H∧∀ xs,SqT K H a xs→xs[i]?=some x,fun i H=>∃ xs,SqT K H a xs∧xs.length≤i⟩
noncomputable def Itr(lo:Int)(n:Nat):It:=⟨fun i _=>i<n,fun i H x H'=>H'=H∧x=.int (lo+i),fun i _=>n≤i⟩
theorem qd2{P:Program}{w:World}{K:Qqq}{tg:Expr}(a it:Addr):Turn P w K tg (Itl K a) [it] it (fun i h=>h.IsListIter it a i) where
 mem:=by simp
 obj:=fun i h st b hb=>by
  have e:b=it:=by simpa using hb
  subst e
  obtain⟨o,e,c,d⟩:=st
  exact⟨o,e,fun v z=>by rw[d]at z; cases z⟩
 keep:=fun i h h' st k=>st.at fun o e=>k it (by simp) o e
 item:=by
  intro X hP hw hK hc i pins s σ H E I hf st hg
  subst hP hw hK
  obtain⟨xs,x,hq,hx⟩:=hg
  obtain⟨its,rv,p,hz⟩:=I.list hq
  obtain⟨u,hu,ru⟩:=rv.get hx
  obtain⟨f0,f1,f2,f3,f4,f5⟩:=hf it (by simp)
  refine wpAny_pyNext_list_item st p.isList (x:=u) (by simpa using hu) fun h' st' sb=>?_
  have I1:Inv X pins σ H { s with heap:=h' }:=I.turned (t':=s.toks) (fun b o hb e=>(sb.2 b hb).trans e) f0 f1 f3 f4 f5
  obtain⟨o,e,c,d⟩:=id st'
  exact⟨u,rfl,qhg (s:={ s with heap:=h' }) e c d (by decide) ⟨x,H,I1,ru,⟨rfl,fun ys hy=>by rw[I.list_inj hy hq]; exact hx⟩,st',fun b hb=>(hf b hb).1⟩⟩
 done:=by
  intro X hP hw hK hc i pins s σ H E I hf st hg
  subst hP hw hK
  obtain⟨xs,hq,hx⟩:=hg
  obtain⟨its,rv,p,hz⟩:=I.list hq
  obtain⟨f0,f1,f2,f3,f4,f5⟩:=hf it (by simp)
  have hl:=rv.length
  exact wpAny_pyNext_list_end (I.ok.hd hc) st p.isList (by simp; omega) fun h' eb=>⟨rfl,I.turned (t':=s.toks) (fun b o hb e=>eb b o hb e) f0 f1 f3 f4 f5⟩
 self:=fun _ _ _ _ _ st h=>wpAny_pyIter_listiter st h
theorem qc5{P:Program}{w:World}{K:Qqq}{tg:Expr}(a it:Addr):Turn P w K tg (Itt K a) [it] it (fun i h=>h.IsTupleIter it a i) where
 mem:=by simp
 obj:=fun i h st b hb=>by
  have e:b=it:=by simpa using hb
  subst e
  obtain⟨o,e,c,d⟩:=st
  exact⟨o,e,fun v z=>by rw[d]at z; cases z⟩
 keep:=fun i h h' st k=>st.at fun o e=>k it (by simp) o e
 item:=by
  intro X hP hw hK hc i pins s σ H E I hf st hg
  subst hP hw hK
  obtain⟨xs,x,hq,hx⟩:=hg
  obtain⟨its,rv,p,hz⟩:=I.tuple hq
  obtain⟨u,hu,ru⟩:=rv.get hx
  obtain⟨f0,f1,f2,f3,f4,f5⟩:=hf it (by simp)
  refine wpAny_pyNext_tuple_item st (show s.heap.IsTuple a its.toArray from p) (x:=u) (by simpa using hu) fun h' st' sb=>?_
  have I1:Inv X pins σ H { s with heap:=h' }:=I.turned (t':=s.toks) (fun b o hb e=>(sb.2 b hb).trans e) f0 f1 f3 f4 f5
  obtain⟨o,e,c,d⟩:=id st'
  exact⟨u,rfl,qhg (s:={ s with heap:=h' }) e c d (by decide) ⟨x,H,I1,ru,⟨rfl,fun ys hy=>by rw[I.tuple_inj hy hq]; exact hx⟩,st',fun b hb=>(hf b hb).1⟩⟩
 done:=by
  intro X hP hw hK hc i pins s σ H E I hf st hg
  subst hP hw hK
  obtain⟨xs,hq,hx⟩:=hg
  obtain⟨its,rv,p,hz⟩:=I.tuple hq
  obtain⟨f0,f1,f2,f3,f4,f5⟩:=hf it (by simp)
  have hl:=rv.length
  exact wpAny_pyNext_tuple_end (I.ok.hd hc) st (show s.heap.IsTuple a its.toArray from p) (by simp; omega) fun h' eb=>⟨rfl,I.turned (t':=s.toks) (fun b o hb e=>eb b o hb e) f0 f1 f3 f4 f5⟩
 self:=fun _ _ _ _ _ st h=>wpAny_pyIter_tupleiter st h
theorem qc6{P:Program}{w:World}{K:Qqq}{tg:Expr}(it:Addr)(lo:Int)(n:Nat):Turn P w K tg (Itr lo n) [it] it (fun i h=>IsRangeIter h it (lo+(i:Nat)*1) ((n:Int) - (i:Nat)) 1) where
 mem:=by simp
 obj:=fun i h st b hb=>by
  have e:b=it:=by simpa using hb
  subst e
  exact⟨_,st,fun v z=>by
   have z':Data.fields _=Data.cell v:=z
   cases z'⟩
 keep:=fun i h h' st k=>k it (by simp) _ st
 item:=by
  intro X hP hw hK hc i pins s σ H E I hf st hg
  subst hP hw hK
  obtain⟨f0,f1,f2,f3,f4,f5⟩:=hf it (by simp)
  have W:=Walks.range (prog:=X.prog) (w:=X.w) (I.ok.hd hc) it lo 1 n
  refine W.item i s _ _ hg st fun v h' tk hv st' kk=>?_
  obtain⟨t,rfl⟩:=hv
  have I1:Inv X pins σ H { s with heap:=h',toks:=tk }:=I.turned (fun b o hb e=>kk b o (by simpa using hb) e) f0 f1 f3 f4 f5
  refine⟨_,rfl,qhg (s:={ s with heap:=h',toks:=tk }) (n:="range_iterator") st' rfl rfl (by decide) ⟨.int (lo+i),H,I1,⟨t,?_⟩,⟨rfl,rfl⟩,st',fun b hb=>(hf b hb).1⟩⟩
  rw[Int.mul_one]
 done:=by
  intro X hP hw hK hc i pins s σ H E I hf st hg
  subst hP hw hK
  obtain⟨f0,f1,f2,f3,f4,f5⟩:=hf it (by simp)
  exact wpAny_pyNext_range_end (I.ok.hd hc) st (by have:n≤i:=hg; omega) fun h' eb=>⟨rfl,I.turned (t':=s.toks) (fun b o hb e=>eb b o hb e) f0 f1 f3 f4 f5⟩
 self:=fun _ _ _ _ _ st h=>wpAny_pyIter_rangeiter st h
end L2
namespace L2
open PySem PySem.Spec PyProof.Rows
section
variable {X:Cx}{tg:Expr}
theorem qg2{pins:List (Addr×Obj)}{σ:St}{H:Hp}{s:Shared}{R:It→Hp→Prop}{E:Value→Shared→Prop}{lo hi:Int}{t u v:Tok}{tk:Nat}(I:Inv X pins σ H s)(h1:-(2 ^ 62)≤lo)(h2:lo<2 ^ 62)(h3:-(2 ^ 62)≤hi)(h4:hi<2 ^ 62)
  (q:R (Itr lo (hi - lo).toNat) H):wpAny (model X.prog X.w) X.A (pyIter (.ref s.heap.objs.size)) (PIE X pins σ tg R) E { s with heap:=s.heap.push { cls:=.type "range",data:=.fields #[.int lo t,.int hi u,.int 1 v] },toks:=tk }:=by
 refine wpAny_pyIter_range (IsRange.new ..) (small_one h1 h2 h3 h4) ?_
 have I1:Inv X pins σ H { s with heap:=s.heap.push { cls:=.type "range",data:=.fields #[.int lo t,.int hi u,.int 1 v] },toks:=tk }:=I.kept fun b o e=>Qqb _ e
 refine⟨(s.heap.push { cls:=.type "range",data:=.fields #[.int lo t,.int hi u,.int 1 v] }).objs.size,[(s.heap.push { cls:=.type "range",data:=.fields #[.int lo t,.int hi u,.int 1 v] }).objs.size],_,_,H,rfl,
  I1.kept (t':=tk) fun b o e=>Qqb _ e,qc6 _ lo (hi - lo).toNat,?_,fun b hb=>?_,q⟩
 ·have e1:lo+((0:Nat):Int)*1=lo:=by simp
  have e2:(((hi - lo).toNat:Nat):Int) - ((0:Nat):Int)=Builtin.Range.rangeSize lo hi 1:=by rw[rangeSize_one]; split<;>omega
  show IsRangeIter _ _ (lo+((0:Nat):Int)*1) ((((hi - lo).toNat:Nat):Int) - ((0:Nat):Int)) 1
  rw[e1,e2]
  exact Qqr _ rfl
 ·have e:b=(s.heap.push { cls:=.type "range",data:=.fields #[.int lo t,.int hi u,.int 1 v] }).objs.size:=by simpa using hb
  subst e
  exact I1.fpOk (Qqc _) (I1.hok.fresh (Qqc _))
noncomputable def iRng1(ta:TA):TI:=fun σ H R=>ta σ H fun vs H1=>∃ j:Int,vs=[.int j]∧-(2 ^ 62)≤j∧j<2 ^ 62∧R (Itr 0 j.toNat) H1
theorem qei{a:Expr}{ta:TA}{p pos:Pos}(hg:Gl X "range")(hm:X.mg "range" = none)(ha:PA X [a] ta)(hs:starEach [a] X.env=[(false,eval a X.env)]:=by rfl):PI X tg (.Call (.Name "range" p) [a] [] pos) (iRng1 ta):=by
 intro pins s σ H R I h
 refine Call_ (qcc I hg hm boot_range (PyProof.Rows.callWith_type1 (thn (ha pos pins s σ H _ I h) fun us s1 ⟨vs,H1,I1,r1,q1⟩=>?_) hs rfl))
 obtain⟨j,e,q1,q2,q⟩:=q1
 subst e
 cases r1 with
 |cons r rr=>
  cases rr
  obtain⟨t,rfl⟩:=r
  exact call_range_1 (qg2 I1 (by omega) (by omega) q1 q2 (by simpa using q))
noncomputable def tFor(wi:TI)(g:TG)(tb:TS):TS:=fun D σ H=>wi σ H fun J H1=>∃ W:Nat→Nat→St→Hp→Prop,(∃ m,W 0 m σ H1)∧∀ i m σ H,W i m σ H→
 (J.stop i H∧D.nx σ H)∨(J.go i H∧∃ N:St→Hp→Prop,(∀ σ' H',N σ' H'→∃ m',m'<m∧W (i+1) m' σ' H')∧∀ x H',J.yld i H x H'→g x σ H' fun σ2 H2=>tb { D with nx:=N,ct:=N,bk:=D.nx } σ2 H2)
noncomputable def qyl(fp:List Addr)(h:Heap):List (Addr×Obj):=fp.filterMap fun b=>(h.get? b).map fun o=>(b,o)
theorem qxn{fp:List Addr}{h:Heap}{b:Addr}{o:Obj}(hb:b∈fp)(e:h.get? b=some o):(b,o)∈qyl fp h:=Qxf.mpr ⟨b,hb,by rw[e]; rfl⟩
theorem qe4{fp:List Addr}{h:Heap}{p:Addr×Obj}(hp:p∈qyl fp h):p.1∈fp∧h.get? p.1=some p.2:=by
 obtain⟨b,hb,e⟩:=Qxf.mp hp
 cases q:h.get? b with
 |none=>rw[q]at e; cases e
 |some o=>
  rw[q]at e
  have e':(b,o)=p:=Option.some.inj e
  subst e'
  exact⟨hb,q⟩
theorem Inv.pinned{pins:List (Addr×Obj)}{σ:St}{H:Hp}{s:Shared}{fp:List Addr}(I:Inv X pins σ H s)(hf:∀ b∈fp,FpOk X pins H b)(ho:∀ b∈fp,∃ o,s.heap.get? b=some o∧∀ v,o.data≠.cell v):Inv X (pins++qyl fp s.heap) σ H s:=
 I.pins_of fun p hp=>(Qz7.mp hp).elim (fun z=>I.pin p (Qqs _ z)) fun z=>by
  obtain⟨hb,e⟩:=qe4 z
  obtain⟨f0,f1,f2,_⟩:=hf p.1 hb
  obtain⟨o,e',d⟩:=ho p.1 hb
  rw[e]at e'; cases e'
  exact⟨e,f0,f1,f2,d⟩
theorem Inv.unpinned{pins pl:List (Addr×Obj)}{σ:St}{H:Hp}{s:Shared}(I:Inv X (pins++pl) σ H s):Inv X pins σ H s:=I.pins_of fun p hp=>I.pin p (Qqs _ (Qz2 _ hp))
theorem ps_for{iter:Expr}{body:List Stmt}{wi:TI}{g:TG}{tb:TS}{pos:Pos}(hp:PassesOwn (model X.prog X.w) X.A X.env X.xe)(hc:X.calm=true)(hi:PI X tg iter wi)(hg:PG X tg g)(hb:PSs X body tb)
  (hs:∀ x,foldedSetIterable iter X.env x=pure x):PS X (.For tg iter body [] pos) (tFor wi g tb):=by
 intro pins s σ H D I h
 refine wpAny_For (thn (hi pins s σ H _ I h) fun v s1 h1=>thn h1 fun itv s2 h2=>?_) hs
 obtain⟨it,fp,tn,J,H2,e,I2,T,st2,f2,W,⟨m0,w0⟩,turn⟩:=h2
 subst e
 have stat:∀ {H':Hp},(∀ b∈fp,H' b=none)→∀ b∈fp,FpOk X pins H' b:=fun hn b hb=>⟨hn b hb,(f2 b hb).2⟩
 refine codeAny_forLoop_any (fun n s'=>∃ i σ' H',Inv X pins σ' H' s'∧tn i s'.heap∧(∀ b∈fp,H' b=none)∧W i n σ' H') ?_ m0 ⟨0,σ,H2,I2,st2,fun b hb=>(f2 b hb).1,w0⟩
 rintro n s3 ⟨i,σ3,H3,I3,st3,fr3,w3⟩
 rcases turn i n σ3 H3 w3 with⟨stop,qn⟩|⟨go,N,hN,step⟩
 ·refine wpAny_passesOwn hp (thn (T.done X rfl rfl rfl hc i pins s3 σ3 H3 X.xe I3 (stat fr3) st3 stop) fun r s4 ⟨hr,I4⟩=>?_)
  subst hr
  exact wpAny_execs_nil ⟨σ3,H3,I4,qn⟩
 ·refine wpAny_passesOwn hp (thn (T.item X rfl rfl rfl hc i pins s3 σ3 H3 X.xe I3 (stat fr3) st3 go) fun r s4 ⟨u,hr,h4⟩=>?_)
  subst hr
  refine wpAny_passesOwn hp (thn h4 fun _ s5 ⟨x,H5,I5,r5,y5,st5,fr5⟩=>?_)
  have I5':=I5.pinned (stat fr5) (T.obj _ _ st5)
  refine wpAny_passesOwn hp (thn (hg _ s5 σ3 H5 x u _ I5' r5 (step x H5 y5)) fun _ s6 ⟨σ6,H6,I6,q6⟩=>?_)
  refine wpAny_passesOwn hp (thn (hb _ s6 σ6 H6 _ I6 q6) fun f s7 q7=>?_)
  have again:∀ {σ7:St}{H7:Hp},Inv X (pins++qyl fp s5.heap) σ7 H7 s7→N σ7 H7→∃ m,m<n∧∃ i σ' H',Inv X pins σ' H' s7∧tn i s7.heap∧(∀ b∈fp,H' b=none)∧W i m σ' H':=fun {σ7 H7} I7 n7=>by
   obtain⟨m',hm,w7⟩:=hN σ7 H7 n7
   refine⟨m',hm,i+1,σ7,H7,I7.unpinned,T.keep _ _ _ st5 fun b hb o e=>(I7.pin (b,o) (Qqs _ (Qqs _ (qxn hb e)))).1,fun b hb=>?_,w7⟩
   obtain⟨o,e,d⟩:=T.obj _ _ st5 b hb
   exact(I7.pin (b,o) (Qqs _ (Qqs _ (qxn hb e)))).2.1
  cases f with
  |next=>obtain⟨σ7,H7,I7,n7⟩:=q7; exact again I7 n7
  |cont=>obtain⟨σ7,H7,I7,n7⟩:=q7; exact again I7 n7
  |brk=>obtain⟨σ7,H7,I7,q7⟩:=q7; exact⟨σ7,H7,I7.unpinned,q7⟩
  |ret v=>obtain⟨x7,σ7,H7,I7,r7,q7⟩:=q7; exact⟨x7,σ7,H7,I7.unpinned,r7,q7⟩
end
end L2
namespace L2
open PySem PySem.Spec PyProof.Rows
abbrev R2:=V→V→Hp→VK→Prop
def OpR(X:Cx)(f:Value→Value→Sem Value)(r:R2):Prop:=
 ∀ (pins:List (Addr×Obj)) (s:Shared) (σ:St) (H:Hp) (x y:V) (v u:Value) (Q:VK),Inv X pins σ H s→RelV x v→RelV y u→r x y H Q→
  wpAny (model X.prog X.w) X.A (f v u) (EP X pins σ Q) X.xe s
def CallR(X:Cx)(f:Value)(r:List V→Hp→VK→Prop):Prop:=
 ∀ (pins:List (Addr×Obj)) (s:Shared) (σ:St) (H:Hp) (xs:List V) (us:List Value) (Q:VK),Inv X pins σ H s→Vals xs us→r xs H Q→
  wpAny (model X.prog X.w) X.A (call f us) (EP X pins σ Q) X.xe s
def TruR(X:Cx)(r:V→Hp→(Bool→Hp→Prop)→Prop):Prop:=
 ∀ (pins:List (Addr×Obj)) (s:Shared) (σ:St) (H:Hp) (x:V) (v:Value) (Q:Bool→Hp→Prop),Inv X pins σ H s→RelV x v→r x H Q→
  wpAny (model X.prog X.w) X.A (truthy v) (TP X pins σ Q) X.xe s
noncomputable def tOp(r:R2)(ta tb:TE):TE:=fun σ H Q=>ta σ H fun x H1=>tb σ H1 fun y H2=>r x y H2 Q
noncomputable def rI(C:Int→Int→Prop)(g:Int→Int→V):R2:=fun x y H Q=>∃ i j,x=.int i∧y=.int j∧C i j∧Q (g i j) H
noncomputable def rI0(g:Int→Int→V):R2:=fun x y H Q=>∃ i j,x=.int i∧y=.int j∧Q (g i j) H
section
variable {X:Cx}{a b c:Expr}{ta tb tc:TE}{pos:Pos}
theorem binT(ha:PE X a ta)(hb:PE X b tb){pins:List (Addr×Obj)}{s:Shared}{σ:St}{H:Hp}{R:V→V→Hp→Prop}(I:Inv X pins σ H s)
  (h:ta σ H fun x H1=>tb σ H1 fun y H2=>R x y H2){Q:Value→Shared→Prop}{f:Value→Value→Sem Value}
  (hf:∀ v u s2 x y H2,Inv X pins σ H2 s2→RelV x v→RelV y u→R x y H2→wpAny (model X.prog X.w) X.A (f v u) Q X.xe s2) :
  wpAny (model X.prog X.w) X.A (eval a X.env) (fun v s₁=>wpAny (model X.prog X.w) X.A (eval b X.env) (fun u s₂=>wpAny (model X.prog X.w) X.A (f v u) Q X.xe s₂) X.xe s₁) X.xe s:=by
 refine thn (ha pins s σ H _ I h) fun v s1 ⟨x,H1,I1,r1,q1⟩=>?_
 refine thn (hb pins s1 σ H1 _ I1 q1) fun u s2 ⟨y,H2,I2,r2,q2⟩=>?_
 exact hf v u s2 x y H2 I2 r1 r2 q2
theorem pe_op{op:Operator}{r:R2}(ho:OpR X (binaryOp op) r)(ha:PE X a ta)(hb:PE X b tb):PE X (.BinOp a op b pos) (tOp r ta tb):=by
 intro pins s σ H Q I h
 exact wpAny_BinOp (binT ha hb I h fun v u s2 x y H2 I2 rx ry q=>ho pins s2 σ H2 x y v u Q I2 rx ry q)
theorem opI{f:Value→Value→Sem Value}{C:Int→Int→Prop}{g:Int→Int→Int}
  (rule:∀ (i j:Int) (t u:Tok) (s:Shared) (Q:Value→Shared→Prop) (E:Value→Shared→Prop),C i j→Q (.int (g i j) s.toks) { s with toks:=s.toks+1 }→wpAny (model X.prog X.w) X.A (f (.int i t) (.int j u)) Q E s) :
  OpR X f (rI C fun i j=>.int (g i j)):=by
 intro pins s σ H x y v u Q I rx ry h
 obtain⟨i,j,rfl,rfl,hc,q⟩:=h
 obtain⟨t,rfl⟩:=rx
 obtain⟨t',rfl⟩:=ry
 exact rule i j t t' s _ _ hc ⟨.int (g i j),H,I.tok _,⟨_,rfl⟩,q⟩
theorem opI0{f:Value→Value→Sem Value}{g:Int→Int→Int}
  (rule:∀ (i j:Int) (t u:Tok) (s:Shared) (Q:Value→Shared→Prop) (E:Value→Shared→Prop),Q (.int (g i j) s.toks) { s with toks:=s.toks+1 }→wpAny (model X.prog X.w) X.A (f (.int i t) (.int j u)) Q E s) :
  OpR X f (rI0 fun i j=>.int (g i j)):=by
 intro pins s σ H x y v u Q I rx ry h
 obtain⟨i,j,rfl,rfl,q⟩:=h
 obtain⟨t,rfl⟩:=rx
 obtain⟨t',rfl⟩:=ry
 exact rule i j t t' s _ _ ⟨.int (g i j),H,I.tok _,⟨_,rfl⟩,q⟩
theorem opB0{f:Value→Value→Sem Value}{g:Int→Int→Bool}
  (rule:∀ (i j:Int) (t u:Tok) (s:Shared) (Q:Value→Shared→Prop) (E:Value→Shared→Prop),Q (.bool (g i j)) s→wpAny (model X.prog X.w) X.A (f (.int i t) (.int j u)) Q E s) :
  OpR X f (rI0 fun i j=>.bl (g i j)):=by
 intro pins s σ H x y v u Q I rx ry h
 obtain⟨i,j,rfl,rfl,q⟩:=h
 obtain⟨t,rfl⟩:=rx
 obtain⟨t',rfl⟩:=ry
 exact rule i j t t' s _ _ ⟨.bl (g i j),H,I,rfl,q⟩
def CPow(i j:Int):Prop:=0≤j∧j≤1000000∧i.natAbs<2 ^ 64
def CMul(i j:Int):Prop:=(-(2 ^ 64)<i∧i<2 ^ 64)∨(-(2 ^ 64)<j∧j<2 ^ 64)
theorem CMul.ok{i j:Int}(h:CMul i j):IntMulOk i j:=by
 rcases h with⟨h1,h2⟩|⟨h1,h2⟩
 ·exact .of_left (intBits_le_64 h1 h2)
 ·exact .of_right (intBits_le_64 h1 h2)
theorem op_add:OpR X (binaryOp .Add) (rI0 fun i j=>.int (i+j)):=opI0 fun _ _ _ _ _ _ _ q=>add_int q
theorem op_sub:OpR X (binaryOp .Sub) (rI0 fun i j=>.int (i - j)):=opI0 fun _ _ _ _ _ _ _ q=>sub_int q
theorem op_mul:OpR X (binaryOp .Mult) (rI CMul fun i j=>.int (i*j)):=opI fun _ _ _ _ _ _ _ hc q=>mul_int q hc.ok
theorem op_mod:OpR X (binaryOp .Mod) (rI (fun _ j=>0<j) fun i j=>.int (i % j)):=opI fun i j _ _ _ _ _ hc q=>by
 have h1:(0:Int)<j:=hc
 exact mod_int' (by omega) (by rw[Int.fmod_eq_emod_of_nonneg i (by omega)]; exact q)
theorem op_pow:OpR X (binaryOp .Pow) (rI CPow fun i j=>.int (i ^ j.toNat)):=opI fun _ _ _ _ _ _ _ hc q=>pow_int_small hc.1 hc.2.1 hc.2.2 q
end
section
variable {X:Cx}{a b c:Expr}{ta tb tc:TE}{pos:Pos}
theorem qcl{pins:List (Addr×Obj)}{σ:St}{H:Hp}{s:Shared}{Q:VK}{k k':Bool}(I:Inv X pins σ H s)(q:Q (.bl k) H)(e:k=k'):EP X pins σ Q (.bool k') s:=by
 subst e
 exact⟨.bl k,H,I,rfl,q⟩
theorem op_lt:OpR X (compareOp .Lt) (rI0 fun i j=>.bl (decide (i<j))):=opB0 fun _ _ _ _ _ _ _ q=>lt_int q
theorem op_le:OpR X (compareOp .LtE) (rI0 fun i j=>.bl (decide (i≤j))):=opB0 fun _ _ _ _ _ _ _ q=>le_int q
theorem op_gt:OpR X (compareOp .Gt) (rI0 fun i j=>.bl (decide (j<i))):=opB0 fun _ _ _ _ _ _ _ q=>gt_int q
theorem op_ge:OpR X (compareOp .GtE) (rI0 fun i j=>.bl (decide (j≤i))):=opB0 fun _ _ _ _ _ _ _ q=>ge_int q
theorem qeu:OpR X (compareOp .In) (fun x y H Q=>∃ i j,x=.str i∧y=.str j∧Q (.bl (!(Builtin.Str.occurrences j i 0 j.length 1).isEmpty)) H):=by
 intro pins s σ H x y v u Q I rx ry h
 obtain⟨i,j,rfl,rfl,q⟩:=h
 obtain⟨t,rfl⟩:=rx
 obtain⟨t',rfl⟩:=ry
 exact in_str (qcl I q rfl)
theorem op_isN:OpR X (compareOp .Is) (fun x y H Q=>y=.non∧Q (.bl (decide (x=.non))) H):=by
 intro pins s σ H x y v u Q I rx ry h
 obtain⟨rfl,q⟩:=h
 cases ry
 refine is_none_gen (qcl I q ?_)
 cases x<;>first
  |(cases rx; rfl)
  |(obtain⟨t,rfl⟩:=rx; rfl)
theorem ql4:OpR X (compareOp .IsNot) (fun x y H Q=>y=.non∧Q (.bl (!decide (x=.non))) H):=by
 intro pins s σ H x y v u Q I rx ry h
 obtain⟨rfl,q⟩:=h
 cases ry
 refine isnot_none_gen (qcl I q ?_)
 cases x<;>first
  |(cases rx; rfl)
  |(obtain⟨t,rfl⟩:=rx; rfl)
theorem qyp:OpR X (compareOp .NotIn) (fun x y H Q=>∃ i j,x=.str i∧y=.str j∧Q (.bl (!(!(Builtin.Str.occurrences j i 0 j.length 1).isEmpty))) H):=by
 intro pins s σ H x y v u Q I rx ry h
 obtain⟨i,j,rfl,rfl,q⟩:=h
 obtain⟨t,rfl⟩:=rx
 obtain⟨t',rfl⟩:=ry
 exact notIn_str (qcl I q rfl)
theorem OpR.or{f:Value→Value→Sem Value}{r r':R2}(h:OpR X f r)(h':OpR X f r'):OpR X f (fun x y H Q=>r x y H Q∨r' x y H Q):=by
 intro pins s σ H x y v u Q I rx ry q
 rcases q with q|q
 ·exact h pins s σ H x y v u Q I rx ry q
 ·exact h' pins s σ H x y v u Q I rx ry q
theorem ql1{op:CmpOp}{r:R2}(ho:OpR X (compareOp op) r)(ha:PE X a ta)(hb:PE X b tb)(hm:behindInMarks op b=false):PE X (.Compare a [op] [b] pos) (tOp r ta tb):=by
 intro pins s σ H Q I h
 exact wpAny_Compare1 (binT ha hb I h fun v u s2 x y H2 I2 rx ry q=>ho pins s2 σ H2 x y v u Q I2 rx ry q) hm
noncomputable def tTest(t:TE):TT:=fun σ H Q=>t σ H fun x H'=>∃ k,x=.bl k∧Q k H'
theorem qli{op:CmpOp}{r:R2}(ho:OpR X (compareOp op) r)(ha:PE X a ta)(hb:PE X b tb)(hm:behindInMarks op b=false):PT X (.Compare a [op] [b] pos) (tTest (tOp r ta tb)):=by
 intro pins s σ H Q I h
 refine wpAny_isTrue_Compare1 (thn (ha pins s σ H _ I h) fun v s1 ⟨x,H1,I1,r1,q1⟩=>thn (hb pins s1 σ H1 _ I1 q1) fun u s2 ⟨y,H2,I2,r2,q2⟩=>
  thn (ho pins s2 σ H2 x y v u _ I2 r1 r2 q2) fun c s3 ⟨z,H3,I3,r3,k,e,q3⟩=>?_) hm
 subst e
 cases r3
 exact wpAny_truthy_bool ⟨H3,I3,q3⟩
def TruV(K:Qqq)(x:V)(H:Hp)(k:Bool):Prop:=
 match x with
 |.non=>k=false
 |.bl b=>k=b
 |.int i=>k=(i != 0)
 |.str y=>y.length≤sizeLine∧k=((y.length:Int) != 0)
 |.byt y=>y.size≤sizeLine∧k=((y.size:Int) != 0)
 |.ref p=>(∃ xs,SqL K H p xs∧k = !xs.isEmpty)∨(∃ xs,SqT K H p xs∧k = !xs.isEmpty)∨∃ kvs,H p=some (.dK kvs)∧k = !kvs.isEmpty
 |_=>False
theorem qdd{κ:Type}{kvs:List (κ×V)}{vs:List (κ×Value)}(r:KV kvs vs):(!vs.isEmpty) = !kvs.isEmpty:=by
 cases r<;>rfl
theorem qwx{xs:List V}{its:List Value}(r:Vals xs its):(!its.toArray.isEmpty) = !xs.isEmpty:=by
 cases r<;>simp
theorem qwz:(sizeLine:Nat)<2 ^ 63:=by rw[sizeLine_eq]; decide
theorem tru_ok:TruR X (fun x H Q=>∃ k,TruV X.K x H k∧Q k H):=by
 intro pins s σ H x v Q I rx h
 obtain⟨k,e,q⟩:=h
 have hl:=qwz
 have hs:sizeLine=16777216:=sizeLine_eq
 cases x with
 |non=>
  cases rx
  have e':k=false:=e
  subst e'
  exact truthy_none ⟨H,I,q⟩
 |bl b=>
  cases rx
  have e':k=b:=e
  subst e'
  exact wpAny_truthy_bool ⟨H,I,q⟩
 |int i=>
  obtain⟨t,rfl⟩:=rx
  have e':k=(i != 0):=e
  subst e'
  exact PySem.P.truthy_int ⟨H,I,q⟩
 |str y=>
  obtain⟨t,rfl⟩:=rx
  obtain⟨hy,e'⟩:y.length≤sizeLine∧k=((y.length:Int) != 0):=e
  subst e'
  exact PySem.P.truthy_str (by omega) ⟨H,I.tok _,q⟩
 |byt y=>
  obtain⟨t,rfl⟩:=rx
  obtain⟨hy,e'⟩:y.size≤sizeLine∧k=((y.size:Int) != 0):=e
  subst e'
  exact PySem.W.truthy_bytes (by omega) ⟨H,I.tok _,q⟩
 |ref p=>
  cases rx
  have e':(∃ xs,SqL X.K H p xs∧k = !xs.isEmpty)∨(∃ xs,SqT X.K H p xs∧k = !xs.isEmpty)∨∃ kvs,H p=some (.dK kvs)∧k = !kvs.isEmpty:=e
  rcases e' with⟨xs,hx,e'⟩|⟨xs,hx,e'⟩|⟨kvs,hx,e'⟩
  ·subst e'
   obtain⟨its,r,pl,hz⟩:=I.list hx
   have hlen:=r.length
   exact wpAny_truthy_list pl.isList (by simp only[Qqa]; omega) ⟨H,I.tok _,by rw[qwx r]; exact q⟩
  ·subst e'
   obtain⟨its,r,pl,hz⟩:=I.tuple hx
   have hlen:=r.length
   exact truthy_tuple pl (by simp only[Qqa]; omega) ⟨H,I.tok _,by rw[qwx r]; exact q⟩
  ·subst e'
   obtain⟨hz,hS,vs,r,m⟩:kvs.length≤sizeLine∧(p==sysModules)=false∧∃ vs,KV kvs vs∧s.heap.DictOf (mixKind X.prog X.w) p vs:=I.hok p _ hx
   have hlen:kvs.length=vs.length:=Paired.length r
   exact wpAny_truthy_dict hS m (by omega) ⟨H,I.tok _,by rw[qdd r]; exact q⟩
 |_=>exact(show False from e).elim
theorem qxl(ha:PE X a ta)(he:∀ whole,isTrue a X.env whole=(do let v ← whole; standAt a.pos; holding [v] (truthy v))):
  PT X a (fun σ H Q=>ta σ H fun x H'=>∃ k,TruV X.K x H' k∧Q k H'):=by
 intro pins s σ H Q I h
 exact isTrue_plain (thn (ha pins s σ H _ I h) fun v s1 ⟨x,H1,I1,r1,q1⟩=>tru_ok pins s1 σ H1 x v Q I1 r1 q1) (he _)
theorem qdv:OpR X (binaryOp .Add) (fun x y H Q=>∃ i j,x=.str i∧y=.str j∧i.length+j.length≤sizeLine∧Q (.str (i++j)) H):=by
 intro pins s σ H x y v u Q I rx ry h
 obtain⟨i,j,rfl,rfl,hz,q⟩:=h
 obtain⟨t,rfl⟩:=rx
 obtain⟨t',rfl⟩:=ry
 exact add_str (fun t' tk=>⟨.str (i++j),H,I.tok _,⟨_,rfl⟩,q⟩) hz
theorem vals1{x:V}{us:List Value}(r:Vals [x] us):∃ u,us=[u]∧RelV x u:=by
 cases r with
 |cons r1 r2=>cases r2; exact⟨_,rfl,r1⟩
theorem vals2{x y:V}{us:List Value}(r:Vals [x,y] us):∃ u w',us=[u,w']∧RelV x u∧RelV y w':=by
 cases r with
 |cons r1 r2=>
  cases r2 with
  |cons r3 r4=>cases r4; exact⟨_,_,rfl,r1,r3⟩
theorem qgq(hc:X.calm=true):CallR X (.builtin "min") (fun xs H Q=>∃ i j,xs=[.int i,.int j]∧Q (.int (if j<i then j else i)) H):=by
 intro pins s σ H xs us Q I r h
 obtain⟨i,j,rfl,q⟩:=h
 obtain⟨u,w',rfl,⟨t,rfl⟩,⟨t',rfl⟩⟩:=vals2 r
 refine min_two_ints (I.ok.hd hc) fun h' tk k=>⟨_,H,I.kept k,?_,q⟩
 by_cases hj:j<i
 ·rw[if_pos hj,if_pos hj]; exact⟨_,rfl⟩
 ·rw[if_neg hj,if_neg hj]; exact⟨_,rfl⟩
theorem qaf:CallR X (.type "int") (fun xs H Q=>(∃ i,xs=[.int i]∧Q (.int i) H)∨∃ k,xs=[.bl k]∧Q (.int (if k then 1 else 0)) H):=by
 intro pins s σ H xs us Q I r h
 rcases h with⟨i,rfl,q⟩|⟨k,rfl,q⟩
 ·obtain⟨u,rfl,t,rfl⟩:=vals1 r
  exact call_int_int ⟨.int i,H,I,⟨_,rfl⟩,q⟩
 ·obtain⟨u,rfl,r1⟩:=vals1 r
  cases r1
  exact call_int_bool ⟨.int (if k then 1 else 0),H,I.tok _,⟨_,rfl⟩,q⟩
theorem qac:CallR X (.type "str") (fun xs H Q=>∃ i,xs=[.int i]∧i.natAbs.log2<1920∧Q (.str (toString i)) H):=by
 intro pins s σ H xs us Q I r h
 obtain⟨i,rfl,hz,q⟩:=h
 obtain⟨u,rfl,t,rfl⟩:=vals1 r
 exact PySem.P.str_of_int hz ⟨.str _,H,I.tok _,⟨_,rfl⟩,q⟩
end
end L2
namespace L2
open PySem PySem.Spec PyProof.Rows
structure ObjM (h:Heap) (x dx C:Addr) (mA:Str→Option Value):Prop where
 obj:h.get? x=some (PySem.W.instObj C dx)
 ns:h.Ns1 dx mA
 ne:dx≠x
theorem qfy{h:Heap}{dx:Addr}{mA:Str→Option Value}(n:h.Ns1 dx mA):∃ od,h.get? dx=some od∧∀ name,PySem.W.lookIn name od=some (mA name):=by
 obtain⟨o,es,ep,ho,hd,hk,_,hm⟩:=n
 refine⟨o,ho,fun name=>?_⟩
 have e:=hm name
 unfold nsFind findBy at e
 rw[← Array.find?_toList]at e
 unfold PySem.W.lookIn
 rw[hd]
 dsimp only
 split
 ·rename_i y q
  rw[q]at e
  exact congrArg some e
 ·rename_i q
  rw[q]at e
  have a:es.toList.any (·.refKey)=false:=by
   rw[List.any_eq_false]
   intro y hy
   obtain⟨z,t,hkey⟩:=hk y (Array.mem_toList_iff.mp hy)
   simp[DictEntry.refKey,hkey]
  have a':¬ es.toList.any (·.refKey)=true:=by rw[a]; exact Qqg
  rw[if_neg a']
  exact congrArg some e
theorem ObjM.look{h:Heap}{x dx C:Addr}{mA:Str→Option Value}(I:ObjM h x dx C mA):∃ od,PySem.W.InstAt h x (PySem.W.instObj C dx) C (some od)∧∀ name,PySem.W.lookIn name od=some (mA name):=
 let ⟨od,ho,hl⟩:=qfy I.ns
 ⟨od,⟨I.obj,rfl,rfl,ho⟩,hl⟩
section
variable {prog:Program}{w:World}{A:Around}{E:Value→Shared→Prop}{s:Shared}{K:Qqq}{x dx C f:Addr}{mA:Str→Option Value}{name:Str}{v:Value}
end
section
variable {P:Program}{w:World}{H H':Hp}{h h':Heap}{a C dx:Addr}{fs fs':List (Str×V)}
end
structure Cls (K:Qqq) (C:Addr):Prop where
 pg:PySem.W.plainGet K C Str.empty=true
 hd:PySem.W.hasDictIn K C=true
 po:PySem.W.plainOver K C=true
 sa:PySem.W.findIn K (.ref C) "__setattr__" = some (some (.builtin "object.__setattr__"))
theorem Cls.get{K:Qqq}{C:Addr}(c:Cls K C)(f:Str):PySem.W.plainGet K C f=true:=c.pg
structure Con (K:Qqq) (C:Addr) (f:Str) (v:V) (u:Value):Prop where
 at_:PySem.W.findIn K (.ref C) f=some (some u)
 rel:RelV v u
 get:PySem.W.specialIn K u "__get__" = some none
 cp:PySem.W.copiedNames.contains f=false
structure Meth (K:Qqq) (C:Addr) (m:Str) (f:Addr):Prop where
 at_:PySem.W.findIn K (.ref C) m=some (some (.ref f))
 fn:PySem.W.isFn K (.ref f)=true
 kp:Qzw K (.ref f)=true
section
variable {X:Cx}{pins:List (Addr×Obj)}{σ:St}{H:Hp}{s:Shared}{a C dx:Addr}{fs:List (Str×V)}{f:Str}{v:V}{A:Around}{E:Value→Shared→Prop}
theorem Inv.made(I:Inv X pins σ H s):Inv X pins σ (upd (upd H s.heap.objs.size (.own (s.heap.objs.size+1))) (s.heap.objs.size+1) (.ins C s.heap.objs.size []))
  { s with heap:=(s.heap.push PySem.W.emptyDict).push (PySem.W.instObj C s.heap.objs.size) }:=by
 have e1:(s.heap.push PySem.W.emptyDict).get? s.heap.objs.size=some PySem.W.emptyDict:=Qqr s.heap rfl
 have e2:((s.heap.push PySem.W.emptyDict).push (PySem.W.instObj C s.heap.objs.size)).get? (s.heap.objs.size+1)=some (PySem.W.instObj C s.heap.objs.size):=by
  have:=Qqr (s.heap.push PySem.W.emptyDict) (o:=PySem.W.instObj C s.heap.objs.size) rfl
  rwa [Qx6]at this
 have e3:(s.heap.push PySem.W.emptyDict).Ns s.heap.objs.size (fun _=>none):=⟨PySem.W.emptyDict,#[],_,e1,rfl,(fun e he=>absurd he (by simp)),fun _=>rfl⟩
 have I1:=I.laid (a:=s.heap.objs.size) (o:=.own (s.heap.objs.size+1)) (h':=s.heap.push PySem.W.emptyDict) (t':=s.toks) (fun b u q=>Qqb _ q) (Qqc _) ⟨_,e1⟩
 refine I1.laid (a:=s.heap.objs.size+1) (o:=.ins C s.heap.objs.size []) (t':=s.toks) (fun b u q=>Qqb _ q) (Nat.le_of_eq (Qx6 _ _)) ?_
 have ne:s.heap.objs.size≠s.heap.objs.size+1:=Qq4 (Qzo _)
 refine⟨by rw[qzy ne,qzn],Qz5 _,ne,e2,fun _=>none,(Heap.Ns1.of_empty e3).at fun o q=>Qqb _ q,fun _=>True.intro,fun y hy=>absurd rfl hy⟩
end
section
variable {X:Cx}{o e value:Expr}{f:Str}{pos pos' tpos:Pos}{ta tv:TE}
end
section
variable {X:Cx}{pins:List (Addr×Obj)}{σ:St}{H:Hp}{s:Shared}{A:Around}{E:Value→Shared→Prop}{Q:Value→Shared→Prop}{c:Value}{b:Bool}
inductive TyOf (K:Qqq) (H:Hp):V→Value→Prop where
 |non:TyOf K H .non (.type "NoneType")
 |bl (x:Bool):TyOf K H (.bl x) (.type "bool")
 |int (i:Int):TyOf K H (.int i) (.type "int")
 |str (x:Str):TyOf K H (.str x) (.type "str")
 |flt (x:UInt64):TyOf K H (.flt x) (.type "float")
 |lst {a:Addr}{xs:List V}(e:H a=some (.lst xs)):TyOf K H (.ref a) (.type "list")
 |frz {a:Addr}{o:Obj}{xs:List V}(e:H a=some (.frz o (.lst xs))):TyOf K H (.ref a) (.type "list")
 |tup {a:Addr}{xs:List V}(e:H a=some (.tup xs)):TyOf K H (.ref a) (.type "tuple")
 |dK {a:Addr}{kvs:List (Key×V)}(e:H a=some (.dK kvs)):TyOf K H (.ref a) (.type "dict")
 |dT {a:Addr}{kvs:List (List Key×V)}(e:H a=some (.dT kvs)):TyOf K H (.ref a) (.type "dict")
 |ins {a C dx:Addr}{fs:List (Str×V)}(e:H a=some (.ins C dx fs)) (cl:Cls K C) (ha:PySem.W.findIn K (.ref C) "__class__" = some (some (.builtin "object.__class__")))
   (hn:PySem.W.specialIn K (.builtin "object.__class__") "__get__" = some (some (.builtin "getset_descriptor.__get__"))) (htk:PySem.W.takesIn K (.builtin "object.__class__")=some true)
   (hm:PySem.W.mroIn K C (.type "object")=some true):TyOf K H (.ref a) (.ref C)
end
end L2
namespace L2
open PySem PySem.Spec PyProof.Rows
structure Room (k:Nat) (A:Around):Prop where
 hd:A.handled=none
 dp:A.depth+3*k+5<recursionLimit
 un:A.units+16*k+200<cLine
theorem Room.mono{j k:Nat}{A:Around}(r:Room k A)(h:j≤k):Room j A:=⟨r.hd,by have:=r.dp; omega,by have:=r.un; omega⟩
theorem Room.deeper{k:Nat}{A:Around}(r:Room (k+1) A)(env:Env):Room k (A.deeper env):=
 ⟨r.hd,by have:=r.dp; show A.depth+1+3*k+5<_; omega,by have:=r.un; show A.units+3+16*k+200<_; omega⟩
theorem Room.in1{k:Nat}{A:Around}(r:Room (k+1) A):Room k A.in1:=
 ⟨r.hd,by have:=r.dp; show A.depth+3*k+5<_; omega,by have:=r.un; show A.units+1+16*k+200<_; omega⟩
theorem Room.depth{k:Nat}{A:Around}(r:Room k A):A.depth<recursionLimit:=by have:=r.dp; omega
theorem Room.units{k:Nat}{A:Around}(r:Room k A):A.units+64<cLine:=by have:=r.un; omega
noncomputable def tNil:TA:=fun _ H Q=>Q [] H
noncomputable def qlz(ta:TE)(tr:TA):TA:=fun σ H Q=>ta σ H fun x H1=>tr σ H1 fun xs H2=>Q (x::xs) H2
section
variable {X:Cx}{e:Expr}{es:List Expr}{te:TE}{t:TA}{pos:Pos}
theorem pa_nil:PA X [] tNil:=fun _ _ _ _ H Q I h=>Calls.spliced_nil ⟨[],H,I,.nil,h⟩
theorem qqv(ha:PE X e te)(hr:PA X es t)(hs:starEach (e::es) X.env=(false,eval e X.env)::starEach es X.env:=by rfl):PA X (e::es) (qlz te t):=by
 intro pos pins s σ H Q I h
 rw[hs]
 show wpAny _ _ (spliced ((false,eval e X.env)::backTo pos (starEach es X.env))) _ _ s
 refine Calls.spliced_cons (thn (ha pins s σ H _ I h) fun u s1 ⟨x,H1,I1,r1,q1⟩=>?_)
 exact thn (hr pos pins s1 σ H1 _ I1 q1) fun us s2 ⟨xs,H2,I2,r2,q2⟩=>⟨x::xs,H2,I2,.cons r1 r2,q2⟩
noncomputable def tTup(t:TA):TE:=fun σ H Q=>t σ H fun xs H1=>xs.length≤sizeLine∧∀ p,H1 p=none→Q (.ref p) (upd H1 p (.tup xs))
noncomputable def tLst(t:TA):TE:=fun σ H Q=>t σ H fun xs H1=>xs.length≤sizeLine∧∀ p,H1 p=none→Q (.ref p) (upd H1 p (.lst xs))
theorem qem{x1}(h:PA X es t):PE X (.Tuple es x1 pos) (tTup t):=by
 intro pins s σ H Q I hq
 refine wpAny_Tuple_spliced (thn (h pos pins s σ H _ I hq) fun us s1 ⟨xs,H1,I1,r,z,q⟩=>⟨by rw[← r.length]; exact z,?_⟩)
 have hf:H1 s1.heap.objs.size=none:=I1.hok.fresh (Qqc _)
 refine⟨.ref s1.heap.objs.size,upd H1 s1.heap.objs.size (.tup xs),I1.laid (t':=s1.toks) (fun b u e=>Qqb _ e) (Qqc _) ?_,rfl,q _ hf⟩
 exact⟨z,us,r,⟨_,Qqr _ rfl,rfl,_,rfl⟩⟩
theorem pe_lst(h:PA X es t):PE X (.List es pos) (tLst t):=by
 intro pins s σ H Q I hq
 refine wpAny_List_spliced (thn (h pos pins s σ H _ I hq) fun us s1 ⟨xs,H1,I1,r,z,q⟩=>⟨by rw[← r.length]; exact z,?_⟩)
 have hf:H1 s1.heap.objs.size=none:=I1.hok.fresh (Qqc _)
 refine⟨.ref s1.heap.objs.size,upd H1 s1.heap.objs.size (.lst xs),I1.laid (t':=s1.toks) (fun b u e=>Qqb _ e) (Qqc _) ?_,rfl,q _ hf⟩
 exact⟨z,us,0,r,Qqr _ rfl⟩
end
abbrev Sp:=List V→Hp→VK→XK→Prop
abbrev CXT:=List Env→Hp→Shared→XK→Value→Shared→Prop
structure Env0 (P:Program) (w:World) (K:Qqq) (mg:Str→Option Value) (base:Heap) (A:Around) (outer:List Env) (s:Shared) (H:Hp):Prop where
 frames:A.frames=some outer
 mod:Mod K mg base
 bs:∀ b o,base.get? b=some o→s.heap.get? b=some o∧H b=none
 bsz:base.objs.size≤s.heap.objs.size
 funs:s.heap.FunFrames base outer
 frf:∀ b∈frs outer,H b=none
 hok:HOk P w H s.heap
 bare:AllBare s.gens
def CE(outer:List Env)(P:Program)(w:World)(H:Hp)(s:Shared)(Q:VK)(u:Value)(s':Shared):Prop:=
 ∃ v H',s'.os=s.os∧AllBare s'.gens∧Un (frs outer) [] H H' s.heap s'.heap∧HOk P w H' s'.heap∧RelV v u∧Q v H'
def CR(CX:CXT)(outer:List Env)(P:Program)(w:World)(H:Hp)(s:Shared)(Q:VK)(E:XK)(r:Result)(s':Shared):Prop:=
 match r with
 |.ok (.ret u)=>CE outer P w H s Q u s'
 |.ok _=>False
 |.error e=>CX outer H s E e s'
structure FnOk (P:Program) (w:World) (K:Qqq) (mg:Str→Option Value) (base:Heap) (CX:CXT) (k:Nat) (f:Addr) (fd:FuncData) (ps:List Str) (sp:Sp):Prop where
 len:∀ vs H Q E,sp vs H Q E→vs.length=ps.length
 run:∀ (A:Around) (outer:List Env) (s:Shared) (H:Hp) (args:Args) (us:List Value) (vs:List V) (Q:VK) (E:XK),Room k A→Env0 P w K mg base A outer s H→BindsTo s fd args (ps.zip us)→Vals vs us→sp vs H Q E→
  codeAny (model P w) A (.call (.ref f) args) (CR CX outer P w H s Q E) s
theorem FnOk.mono{P:Program}{w:World}{K:Qqq}{mg:Str→Option Value}{base:Heap}{CX:CXT}{j k:Nat}{f:Addr}{fd:FuncData}{ps:List Str}{sp:Sp}(F:FnOk P w K mg base CX j f fd ps sp)(h:j≤k):
  FnOk P w K mg base CX k f fd ps sp:=⟨F.len,fun A outer s H args us vs Q E hr=>F.run A outer s H args us vs Q E (hr.mono h)⟩
theorem FnOk.imp{P:Program}{w:World}{K:Qqq}{mg:Str→Option Value}{base:Heap}{CX:CXT}{k:Nat}{f:Addr}{fd:FuncData}{ps:List Str}{sp sp':Sp}(F:FnOk P w K mg base CX k f fd ps sp)
  (h:∀ vs H Q E,sp' vs H Q E→sp vs H Q E):FnOk P w K mg base CX k f fd ps sp':=
 ⟨fun vs H Q E q=>F.len vs H Q E (h _ _ _ _ q),fun A outer s H args us vs Q E hr he hb hv hs=>F.run A outer s H args us vs Q E hr he hb hv (h _ _ _ _ hs)⟩
theorem Env0.in1{P:Program}{w:World}{K:Qqq}{mg:Str→Option Value}{base:Heap}{A:Around}{outer:List Env}{s:Shared}{H:Hp}(e:Env0 P w K mg base A outer s H):
  Env0 P w K mg base A.in1 outer s H:=⟨e.frames,e.mod,e.bs,e.bsz,e.funs,e.frf,e.hok,e.bare⟩
section
variable {X:Cx}{pins:List (Addr×Obj)}{σ:St}{H:Hp}{s s':Shared}
theorem Inv.env0(I:Inv X pins σ H s):Env0 X.prog X.w X.K X.mg X.base X.A X.stack s H:=
 ⟨I.ok.frames,I.ok.mod,I.bs,Qq9 I.ok.bsz I.sz,I.stack,I.stkFree,I.hok,I.bare⟩
theorem Inv.after{Q:VK}{u:Value}(I:Inv X pins σ H s)(h:CE X.stack X.prog X.w H s Q u s'):EP X pins σ Q u s':=by
 obtain⟨v,H',os,bare,un,hok,r,q⟩:=h
 obtain⟨hh,g,d,t,os'⟩:=s'
 obtain rfl:os'=s.os:=os
 exact⟨v,H',I.call (h':=hh) (g':=g) (d':=d) (t':=t) (ch:=[]) un hok bare (fun b z=>absurd z (by simp)),r,q⟩
end
noncomputable def tCall(sp:Sp)(dvs:List V)(E:XK)(t:TA):TE:=fun σ H Q=>t σ H fun vs H1=>sp (vs++dvs) H1 Q E
def Binds(K:Qqq)(fd:FuncData)(ps:List Str)(ds:List Value):Prop:=
 ∀ (s:Shared) (us:List Value),K.In s.heap→(us++ds).length=ps.length→BindsTo s fd ⟨us,[]⟩ (ps.zip (us++ds))
theorem Binds.all{K:Qqq}{fd:FuncData}{ps:List Str}(h:∀ us:List Value,us.length=ps.length→bindArgs fd ⟨us,[]⟩=pure (ps.zip us)):Binds K fd ps []:=fun s us _ hl=>by
 rw[Qqh]at hl ⊢
 exact .of_eq (h us hl)
def qc3(CX:CXT)(X:Cx)(E:XK):Prop:=∀ (pins:List (Addr×Obj)) (σ:St) (H:Hp) (s:Shared) (e:Value) (s':Shared),Inv X pins σ H s→CX X.stack H s E e s'→X.xe e s'
section
variable {X:Cx}{CX:CXT}{k:Nat}{f C:Addr}{fd:FuncData}{ps:List Str}{sp:Sp}{dvs:List V}{ds:List Value}{E:XK}{x m:Str}{p pos apos:Pos}{e o:Expr}{es:List Expr}{ta:TE}{t:TA}
theorem run_fn{pins:List (Addr×Obj)}{σ:St}{H:Hp}{s:Shared}{Q:VK}{us:List Value}{vs:List V}(F:FnOk X.prog X.w X.K X.mg X.base CX k f fd ps sp)(hr:Room k X.A)(hb:Binds X.K fd ps ds)(hd:Vals dvs ds)(hx:qc3 CX X E)
  (I:Inv X pins σ H s) (r:Vals vs us) (h:sp (vs++dvs) H Q E):wpAny (model X.prog X.w) X.A (call (.ref f) us) (EP X pins σ Q) X.xe s:=by
 have r2:Vals (vs++dvs) (us++ds):=r.append hd
 have hl:(us++ds).length=ps.length:=by rw[← r2.length]; exact F.len _ _ _ _ h
 refine wpAny_call (codeAny_mono (F.run X.A X.stack s H ⟨us,[]⟩ (us++ds) (vs++dvs) Q E hr I.env0 (hb s us I.kIn hl) r2 h) fun r s' hq=>?_)
 cases r with
 |error e=>exact hx pins σ H s e s' I hq
 |ok fl=>
  cases fl with
  |ret u=>exact I.after hq
  |next=>exact False.elim hq
  |brk=>exact False.elim hq
  |cont=>exact False.elim hq
theorem qeo(F:FnOk X.prog X.w X.K X.mg X.base CX k f fd ps sp)(hr:Room k X.A)(hg:Gl X x)(hm:X.mg x=some (.ref f))(hk:Qzw X.K (.ref f)=true)(hb:Binds X.K fd ps ds)(hd:Vals dvs ds)(hx:qc3 CX X E)
  (ha:PA X (e::es) t) (hdb:(x==("__debug__" : Str))=false:=by decide) (he:starEach (e::es) X.env=(false,eval e X.env)::starEach es X.env:=by rfl) (hpl:(backTo pos (starEach es X.env)).any (·.1)=false:=by rfl) :
  PE X (.Call (.Name x p) (e::es) [] pos) (tCall sp dvs E t):=by
 intro pins s σ H Q I h
 refine wpAny_Call_Name_kw (qjk I hg hm ?_ hdb)
 refine PySem.W.callWith_K (h₀:=X.base) I.ok.mod.kin hk (thn (ha pos pins s σ H _ I h) fun us s1 ⟨vs,H1,I1,r,q⟩=>⟨I1.kIn,?_⟩) he hpl
 exact run_fn F hr hb hd hx I1 r q
structure Mk (K:Qqq) (C f:Addr):Prop where
 makes:PySem.W.makesIn K C=true
 init:PySem.W.findIn K (.ref C) "__init__" = some (some (.ref f))
 fn:PySem.W.isFn K (.ref f)=true
 kp:Qzw K (.ref C)=true
end
section
variable {X:Cx}{CX:CXT}{k:Nat}{f C:Addr}{fd:FuncData}{ps ks:List Str}{sp:Sp}{E:XK}{x m:Str}{p pos apos kpos:Pos}{e o:Expr}{es:List Expr}{kws:List Keyword}{te ta:TE}{t tk:TA}{nm:Option Str}
structure KBinds (K:Qqq) (fd:FuncData) (ps ks:List Str) (g:List Value→List Value→List Value) (gV:List V→List V→List V):Prop where
 to:∀ (s:Shared) (us ws:List Value),K.In s.heap→(g us ws).length=ps.length→BindsTo s fd ⟨us,ks.zip ws⟩ (ps.zip (g us ws))
 rel:∀ {vs:List V}{us:List Value}{zs:List V}{ws:List Value},Vals vs us→Vals zs ws→Vals (gV vs zs) (g us ws)
variable {g:List Value→List Value→List Value}{gV:List V→List V→List V}
end
structure FnScope (N P:List Str) (sc:Scope):Prop where
 kind:sc.kind=.function
 co:sc.isCoroutine=false
 gen:sc.isGenerator=false
 nd:N.Nodup
 pre:N.take P.length=P
 par:∀ x∈P,sc.names.lookup x=some .local∨sc.names.lookup x=some .cell
 nofree:∀ y∈sc.names,y.2≠.free
theorem qam{kindOf:Str→Option NameKind}{x:Str}:∀ {binds:List (Str×Value)}{m:Str→Option Value},(∀ v,(x,v) ∉ binds)→bindL kindOf binds m x=m x
 |[],_,_=>rfl
 |(n,v)::r,m,h=>by
  unfold bindL
  rw[qam fun w hw=>h w (Qqy _ hw)]
  split
  ·have:x≠n:=by rintro rfl; exact h v Qqe
   simp[this]
  ·rfl
theorem qao{kindOf:Str→Option NameKind}{x:Str}:∀ {binds:List (Str×Value)}{m:Str→Option Value},(∀ v,(x,v) ∉ binds)→bindC kindOf binds m x=m x
 |[],_,_=>rfl
 |(n,v)::r,m,h=>by
  unfold bindC
  rw[qao fun w hw=>h w (Qqy _ hw)]
  split
  ·rfl
  ·have:x≠n:=by rintro rfl; exact h v Qqe
   simp[this]
theorem qan{kindOf:Str→Option NameKind}{x:Str}{v:Value}:∀ {P:List Str}{vs:List Value}{i:Nat}{m:Str→Option Value},P.Nodup→P[i]?=some x→vs[i]?=some v→kindOf x=some .local→
  bindL kindOf (P.zip vs) m x=some v
 |[],_,_,_,_,h,_,_=>by simp at h
 |_::_,[],_,_,_,_,h,_=>by simp at h
 |p::P,w::vs,0,m,nd,h1,h2,hk=>by
  simp at h1 h2; subst h1; subst h2
  show bindL kindOf ((p,w)::P.zip vs) m p=_
  unfold bindL
  rw[qam fun v hv=>(Qxb.mp nd).1 (Qxu hv).1,if_pos hk]
  simp
 |p::P,w::vs,i+1,m,nd,h1,h2,hk=>by
  show bindL kindOf ((p,w)::P.zip vs) m x=_
  unfold bindL
  exact qan (i:=i) (Qxb.mp nd).2 (by simpa using h1) (by simpa using h2) hk
theorem qap{kindOf:Str→Option NameKind}{x:Str}{v:Value}:∀ {P:List Str}{vs:List Value}{i:Nat}{m:Str→Option Value},P.Nodup→P[i]?=some x→vs[i]?=some v→kindOf x≠some .local→
  bindC kindOf (P.zip vs) m x=some v
 |[],_,_,_,_,h,_,_=>by simp at h
 |_::_,[],_,_,_,_,h,_=>by simp at h
 |p::P,w::vs,0,m,nd,h1,h2,hk=>by
  simp at h1 h2; subst h1; subst h2
  show bindC kindOf ((p,w)::P.zip vs) m p=_
  unfold bindC
  rw[qao fun v hv=>(Qxb.mp nd).1 (Qxu hv).1,if_neg hk]
  simp
 |p::P,w::vs,i+1,m,nd,h1,h2,hk=>by
  show bindC kindOf ((p,w)::P.zip vs) m x=_
  unfold bindC
  exact qap (i:=i) (Qxb.mp nd).2 (by simpa using h1) (by simpa using h2) hk
noncomputable def start(N:List Str)(vs:List V):St:=vs.map some++List.replicate (N.length - vs.length) none
noncomputable def cxOf(CX:CXT)(P:Program)(w:World)(K:Qqq)(mg:Str→Option Value)(base:Heap)(N:List Str)(qual:Str)(scope:Scope)(f:Addr)(cd:Value)(A:Around)(outer:List Env)(s:Shared)(H:Hp)(E:XK):Cx where
 prog:=P
 w:=w
 K:=K
 mg:=mg
 base:=base
 A:=A.deeper (envOfC qual scope s.heap.objs.size f cd)
 N:=N
 s₀:=s
 H₀:=H
 env:=envOfC qual scope s.heap.objs.size f cd
 outer:=outer
 stack:=envOfC qual scope s.heap.objs.size f cd::outer
 ex:=[]
 calm:=true
 fn:=fun _=>true
 pn:=[]
 xe:=fun e s'=>wpAny (model P w) (A.deeper (envOfC qual scope s.heap.objs.size f cd)) (leaving (envOfC qual scope s.heap.objs.size f cd) e) (fun _ s''=>CX outer H s E e s'') (fun e' s''=>CX outer H s E e' s'') s'
theorem qc0{sc:Scope}{n:Nat}{x:Str}(h:sc.names.lookup x=some .cell):∃ c,(cellsFrom n sc.names []).lookup x=some c:=by
 have q:=Qx2 sc.names n [] (.inl h)
 exact Qxz.mp q
theorem qfi{CX:CXT}{P:Program}{w:World}{K:Qqq}{mg:Str→Option Value}{base:Heap}{N ps:List Str}{qual:Str}{scope:Scope}{f:Addr}{cd:Value}{A:Around}{outer:List Env}{s s1:Shared}{H:Hp}{E:XK}{us:List Value}{vs:List V}
  (S:FnScope N ps scope) (hd:A.handled=none) (e0:Env0 P w K mg base A outer s H) (hl:vs.length=ps.length) (r:Vals vs us)
  (x:InCallC s s.heap.objs.size (bindL (envOfC qual scope s.heap.objs.size f cd).kindOf (ps.zip us) fun _=>none) (cellsFrom (s.heap.objs.size+1) scope.names []) (bindC (envOfC qual scope s.heap.objs.size f cd).kindOf (ps.zip us) fun _=>none) s1) :
  Inv (cxOf CX P w K mg base N qual scope f cd A outer s H E) [] (start N vs) H s1:=by
 have hpl:ps.length≤N.length:=by have:=congrArg List.length S.pre; rw[Qzf]at this; omega
 obtain⟨h1,tk,rfl,hk⟩:=x.done
 have noA:∀ b:Addr,b ∉ (cxOf CX P w K mg base N qual scope f cd A outer s H E).ex:=fun b z=>absurd (show b∈([]:List Addr) from z) (by simp)
 refine⟨⟨e0.mod,S.kind,rfl,rfl,Qqc _,fun y z c h1 h2=>?_,fun y hy=>?_,fun y c _ h=>?_,fun _=>hd,Around.frames_deeper e0.frames,.inr ⟨rfl,rfl⟩,fun b z=>absurd z (noA b),e0.bs,e0.bsz,fun b _ _=>noA b,fun b z=>absurd z (noA b),e0.funs,e0.frf⟩,
  rfl,e0.bare,Un.kept hk,⟨_,x.toInCall.ns,fun i y v h1 h2 h3=>?_⟩,fun y c h=>⟨_,x.cell y c h⟩,e0.hok.fresh (Qqc _),fun y c h=>?_,fun p hp=>absurd (show p∈([]:List (Addr×Obj)) from hp) (by simp),e0.hok.kept hk,?_⟩
 ·exact name_of_addr x.apart (PySem.mem_of_lookup h1) (PySem.mem_of_lookup h2)
 ·have hy:scope.names.lookup y=some .cell∨scope.names.lookup y=some .free:=hy
  rcases hy with hy|hy
  ·exact qc0 hy
  ·exact absurd rfl (S.nofree _ (PySem.mem_of_lookup hy))
 ·exact Qxa (x.above y c (PySem.mem_of_lookup h))
 ·have hi:i<vs.length:=by
   unfold start at h2
   by_cases hi:i<vs.length
   ·exact hi
   ·rw[Qq8 (by simpa using hi)]at h2
    rw[Qxx]at h2
    split at h2<;>cases h2
  have ha:vs[i]?=some v:=by
   unfold start at h2
   rw[Qq7 (by simpa using hi),Qqn]at h2
   cases e:vs[i]? with
   |none=>rw[e]at h2; cases h2
   |some a=>rw[e]at h2; cases h2; rfl
  obtain⟨u,hu,rv⟩:=r.get ha
  have hp:ps[i]?=some y:=by
   rw[← S.pre,List.getElem?_take_of_lt (by omega)]; exact h1
  have ndP:ps.Nodup:=by rw[← S.pre]; exact S.nd.sublist (List.take_sublist _ _)
  refine⟨u,rv,?_⟩
  rcases S.par y (Qzb hp) with k|k
  ·exact .inl ⟨k,qan ndP hp hu k⟩
  ·obtain⟨c,e⟩:=qc0 (n:=s.heap.objs.size+1) k
   refine .inr ⟨.inl k,c,e,?_⟩
   have q:=x.cell y c e
   rw[qap ndP hp hu (by show scope.names.lookup y≠_; rw[k]; decide)]at q
   exact q
 ·exact e0.hok.fresh (Qxa (x.above y c (PySem.mem_of_lookup h)))
 ·unfold start
  show _=N.length
  rw[Qqu,Qqj,Qzh]
  omega
theorem fn_of{CX:CXT}{P:Program}{w:World}{K:Qqq}{mg:Str→Option Value}{base:Heap}{k:Nat}{f:Addr}{name qual:Str}{params:Arguments}{body:List Stmt}{scope:Scope}{dV kV doc pm cdv ct oc:Value}{an od:Option Addr}
  {osl:Array (Option Value)}{N ps:List Str}{sp:Sp}(lk:K.lookup f=some ⟨oc,od,.func (PySem.W.fnOf name qual params body scope dV kV doc pm an cdv ct),osl⟩) (hcd:PySem.W.codeIn K cdv qual=true) (S:FnScope N ps scope)
  (len:∀ vs H Q E,sp vs H Q E→vs.length=ps.length)
  (hbody:∀ (A:Around) (outer:List Env) (s:Shared) (H:Hp) (vs:List V) (Q:VK) (E:XK),Room k (A.deeper (envOfC qual scope s.heap.objs.size f cdv))→sp vs H Q E→
   ∃ t,PSs (cxOf CX P w K mg base N qual scope f cdv A outer s H E) body t∧t { nx:=fun _ H'=>Q .non H',rt:=Q } (start N vs) H) :
  FnOk P w K mg base CX (k+1) f (PySem.W.fnOf name qual params body scope dV kV doc pm an cdv ct) ps sp:=by
 refine⟨len,fun A outer s H args us vs Q E hr e0 hb r hsp=>?_⟩
 have hl:=len _ _ _ _ hsp
 have KX:K.In s.heap:=e0.mod.kin.keeps fun b o e=>(e0.bs b o e).1
 have lim:s.heap.NoLimit:=e0.mod.nolimit.keeps fun b o e=>(e0.bs b o e).1
 have hkind:∀ y∈ps.zip us,scope.names.lookup y.1=some .local∨(scope.names.lookup y.1=some .cell∧((cellsFrom (s.heap.objs.size+1) scope.names []).lookup y.1).isSome=true):=fun ⟨n,v⟩ hy=>by
  rcases S.par n (Qxu hy).1 with q|q
  ·exact .inl q
  ·exact .inr ⟨q,Qx2 _ _ _ (.inl q)⟩
 refine codeAny_call_function hr.depth (KX _ _ lk) rfl S.co S.gen rfl (PySem.W.codeRec_of KX hcd) (hb _ _ _ _ ?_)
 refine wpAny_newFunctionEnv_cells S.kind hkind fun env he s1 x=>?_
 subst he
 refine⟨lim.keeps x.toInCall.keep,codeAny_func ?_⟩
 obtain⟨t,ht,hq⟩:=hbody A outer s H vs Q E (hr.deeper _) hsp
 have I:Inv (cxOf CX P w K mg base N qual scope f cdv A outer s H E) [] (start N vs) H s1:=qfi S hr.hd e0 hl r x
 refine wpAny_mono (ht [] s1 (start N vs) H _ I hq) (fun fl s' hs=>?_) fun e s' hs=>hs
 have fin:∀ {σ':St}{H':Hp}{v:V}{u:Value},Inv (cxOf CX P w K mg base N qual scope f cdv A outer s H E) [] σ' H' s'→RelV v u→Q v H'→CE outer P w H s Q u s':=
  fun {σ' H' v u} J rv q=>⟨v,H',J.os,J.bare,J.base,J.hok,rv,q⟩
 cases fl with
 |ret u=>
  obtain⟨v,σ',H',J,rv,q⟩:=hs
  exact fin J rv q
 |next=>
  obtain⟨σ',H',J,q⟩:=hs
  exact fin (v:=V.non) (u:=Value.none) J rfl q
 |brk=>
  obtain⟨_,_,_,q⟩:=hs
  exact False.elim q
 |cont=>
  obtain⟨_,_,_,q⟩:=hs
  exact False.elim q
end L2
namespace L2
open PySem PySem.Spec PyProof.Rows
section
variable {X:Cx}{x:Str}{p pos:Pos}{e:Expr}{es:List Expr}{t:TA}{id T:String}{r:List V→Hp→VK→Prop}
noncomputable def tCB(r:List V→Hp→VK→Prop)(t:TA):TE:=fun σ H Q=>t σ H fun vs H1=>r vs H1 Q
theorem qq1(hc:CallR X (.builtin id) r)(hg:Gl X x)(hm:X.mg x=none)(hv:bootBuiltins x=some (.builtin id))(ha:PA X (e::es) t)(hn:x ≠ "__name__":=by decide)(hdb:(x==("__debug__" : Str))=false:=by decide)
  (he:starEach (e::es) X.env=(false,eval e X.env)::starEach es X.env:=by rfl) (hpl:(backTo pos (starEach es X.env)).any (·.1)=false:=by rfl):PE X (.Call (.Name x p) (e::es) [] pos) (tCB r t):=by
 intro pins s σ H Q I h
 refine wpAny_Call_Name_kw (qcc I hg hm hv ?_ hn hdb)
 exact PyProof.Rows.callWith_builtin1 (thn (ha pos pins s σ H _ I h) fun us s1 ⟨vs,H1,I1,r1,q1⟩=>hc pins s1 σ H1 vs us Q I1 r1 q1) he hpl
theorem qje(hc:CallR X (.type T) r)(hg:Gl X x)(hm:X.mg x=none)(hv:bootBuiltins x=some (.type T))(ha:PA X (e::es) t)(hn:x ≠ "__name__":=by decide)(hdb:(x==("__debug__" : Str))=false:=by decide)
  (he:starEach (e::es) X.env=(false,eval e X.env)::starEach es X.env:=by rfl) (hpl:(backTo pos (starEach es X.env)).any (·.1)=false:=by rfl):PE X (.Call (.Name x p) (e::es) [] pos) (tCB r t):=by
 intro pins s σ H Q I h
 refine wpAny_Call_Name_kw (qcc I hg hm hv ?_ hn hdb)
 exact PyProof.Rows.callWith_type1 (thn (ha pos pins s σ H _ I h) fun us s1 ⟨vs,H1,I1,r1,q1⟩=>hc pins s1 σ H1 vs us Q I1 r1 q1) he hpl
end
end L2
namespace HT
open PySem PyProof.Rows
section
open PySem.SeqAt
open PySem.AutoSeq1 (wpAny_loadPart')
open PySem.MeetsSeq PySem.MeetsSeq2 PySem.MeetsSeq3
end
section
variable {prog:Program}{w:World}{A:Around}{E:Value→Shared→Prop}{s:Shared}
theorem cat_tup{t b:Addr}{vs ws:List Value}{Q:Value→Shared→Prop}(ht:IsTup s.heap t vs.toArray)(hb:IsTup s.heap b ws.toArray)(hv:vs≠[])
  (h1:ws=[]→Q (.ref t) s) (h2:ws≠[]→Q (.ref s.heap.objs.size) { s with heap:=s.heap.push { cls:=.type "tuple",data:=.seq (vs++ws).toArray } })
  (hsz:vs.length+ws.length≤sizeLine):wpAny (model prog w) A (binaryOp .Add (.ref t) (.ref b)) Q E s:=by
 obtain⟨⟨cls,dd,data,sl⟩,ho,hc,n,hd⟩:=id ht
 obtain⟨⟨cls2,dd2,data2,sl2⟩,ho2,hc2,n2,hd2⟩:=id hb
 simp only at hc hd hc2 hd2
 subst hc hd hc2 hd2
 have e:vs.toArray++ws.toArray=(vs++ws).toArray:=by simp
 by_cases hw:ws=[]
 ·exact concat_meets ⟨_,ho,rfl⟩ ⟨_,ho2,rfl⟩ noFill_tuple_add seq_tuple_add PySem.F.slot_tuple_add PySem.F.entry_tuple_add (PySem.F.args_tuple_add_2 _ _)
   (tuple_addW1 t b vs.toArray ws.toArray n n2 dd dd2 sl sl2 (by simpa using hv) (by simp[hw])) ⟨ho,ho2,h1 hw⟩
 ·refine concat_meets ⟨_,ho,rfl⟩ ⟨_,ho2,rfl⟩ noFill_tuple_add seq_tuple_add PySem.F.slot_tuple_add PySem.F.entry_tuple_add (PySem.F.args_tuple_add_2 _ _)
   (tuple_addW2 t b vs.toArray ws.toArray n n2 dd dd2 sl sl2 (by simpa using hv) (by simpa using hw) (by rw[Qqa,Qqa]; exact hsz)) ⟨ho,ho2,?_⟩
  rw[e]
  exact h2 hw
noncomputable def sIx(n d:Nat):Option Int→Nat
 |none=>d
 |some v=>if v<0 then(v+(n:Int)).toNat else min v.toNat n
theorem sIx_le(n d:Nat)(hd:d≤n)(o:Option Int):sIx n d o≤n:=by
 cases o with
 |none=>exact hd
 |some v=>
  show(if v<0 then(v+(n:Int)).toNat else min v.toNat n)≤n
  by_cases hv:v<0
  ·rw[if_pos hv]; omega
  ·rw[if_neg hv]; exact Nat.min_le_right _ _
theorem qf5(v:Int)(n d:Nat):(if v<0 then max (v+(n:Int)) 0 else min v (n:Int))=((sIx n d (some v):Nat):Int):=by
 show(if v<0 then max (v+(n:Int)) 0 else min v (n:Int))=(((if v<0 then(v+(n:Int)).toNat else min v.toNat n):Nat):Int)
 by_cases hv:v<0
 ·simp only[if_pos hv]; omega
 ·simp only[if_neg hv]; omega
theorem qdo(lo hi:Option Int)(n:Nat):Builtin.Slice.sliceAdjust lo hi 1 (n:Int)=(((sIx n 0 lo:Nat):Int),((sIx n n hi:Nat):Int)):=by
 have h1:¬ ((1:Int)<0):=by omega
 unfold Builtin.Slice.sliceAdjust
 simp only[h1,if_false]
 refine Prod.ext ?_ ?_
 ·cases lo with
  |none=>rfl
  |some v=>exact qf5 v n 0
 ·cases hi with
  |none=>rfl
  |some v=>exact qf5 v n n
theorem qdk(i j:Nat):Builtin.Slice.slicePlaces (i:Int) (j:Int) 1=j - i:=by
 unfold Builtin.Slice.slicePlaces
 have h1:(1:Int) > 0:=by omega
 simp only[h1,if_true,Int.ediv_one]
 split<;>omega
theorem qv5{v:Value}{o:Option Int}{Q:Option Int→Shared→Prop}(p:IsPart v o)(h:Q o s):wpAny (model prog w) A (Builtin.Slice.slicePartIndex v) Q E s:=by
 cases p with
 |none=>exact slicePart_none h
 |int i t=>exact slicePart_int h
theorem sliceApplied_gen{sl:Addr}{vl vu:Value}{lo hi:Option Int}{n:Nat}{Q:Int×Int×Nat→Shared→Prop}(hs:s.heap.IsSliceOf sl vl vu .none)(pl:IsPart vl lo)(pu:IsPart vu hi)
  (h:Q (((sIx n 0 lo:Nat):Int),1,sIx n n hi - sIx n 0 lo) s):wpAny (model prog w) A (Builtin.Slice.sliceApplied (.ref sl) (pure (n:Int))) Q E s:=by
 obtain⟨os,hos,hcs,hds⟩:=id hs
 unfold Builtin.Slice.sliceApplied Builtin.Slice.sliceFields
 refine wpAny_bind (wpAny_bind (wpAny_field hos hds (x:=vl) rfl (wpAny_bind (wpAny_field hos hds (x:=vu) rfl (wpAny_bind (wpAny_field hos hds (x:=.none) rfl (wpAny_pure ?_)))))))
 refine wpAny_bind (slicePart_none ?_)
 show wpAny _ _ (if ((1:Int)==0)=true then _ else _) _ _ s
 rw[if_neg (by decide)]
 refine wpAny_bind (qv5 pl (wpAny_bind (qv5 pu (wpAny_bind (wpAny_pure ?_)))))
 show wpAny _ _ (match Builtin.Slice.sliceAdjust lo hi 1 (n:Int) with|(lo,hi)=>pure (lo,(1:Int),Builtin.Slice.slicePlaces lo hi 1)) _ _ s
 rw[qdo lo hi n]
 show wpAny _ _ (pure (((sIx n 0 lo:Nat):Int),(1:Int),Builtin.Slice.slicePlaces ((sIx n 0 lo:Nat):Int) ((sIx n n hi:Nat):Int) 1)) _ _ s
 rw[qdk]
 exact wpAny_pure h
theorem qg7(xs:Array Value)(i k:Nat):((List.range k).filterMap fun(m:Nat)=>xs[((i:Int)+(m:Int)*1).toNat]?).toArray=((xs.toList.drop i).take k).toArray:=by
 have e:(fun(m:Nat)=>xs[((i:Int)+(m:Int)*1).toNat]?)=fun m=>xs[i+m]?:=by
  funext m
  have:((i:Int)+(m:Int)*1).toNat=i+m:=by omega
  rw[this]
 rw[e]
 have:=pick_run xs i k
 rw[List.filterMap_map]at this
 have e2:((fun x=>xs[x]?)∘fun x=>i+x)=fun m=>xs[i+m]?:=rfl
 rw[e2]at this
 rw[this]
theorem getItem_tuple_cut{t sl:Addr}{items:Array Value}{vl vu:Value}{lo hi:Option Int}{Q:Value→Shared→Prop}(ht:IsTup s.heap t items)(hs:s.heap.IsSliceOf sl vl vu .none)(pl:IsPart vl lo)(pu:IsPart vu hi)
  (hw:¬ (sIx items.size 0 lo=0∧sIx items.size items.size hi=items.size))
  (h:Q (.ref s.heap.objs.size) { s with heap:=s.heap.push { cls:=.type "tuple",data:=.seq ((items.toList.drop (sIx items.size 0 lo)).take (sIx items.size items.size hi - sIx items.size 0 lo)).toArray } })
  (hsz:items.size≤sizeLine):wpAny (model prog w) A (getItem (.ref t) (.ref sl)) Q E s:=by
 have htake:sizeOk (.seq ((items.toList.drop (sIx items.size 0 lo)).take (sIx items.size items.size hi - sIx items.size 0 lo)).toArray):=by
  show((items.toList.drop (sIx items.size 0 lo)).take (sIx items.size items.size hi - sIx items.size 0 lo)).toArray.size≤sizeLine
  rw[Qqa,Qzf,Qzp,Qxc]
  omega
 have hj:sIx items.size items.size hi≤items.size:=sIx_le _ _ (Qqc _) hi
 obtain⟨os,hos,hcs,hds⟩:=id hs
 have hTs:s.TypeIs (.ref sl) "slice":=⟨os,hos,hcs⟩
 unfold getItem
 try with_reducible refine wpAny_holding ?_
 first|refine wpAny_bind (wpAny_pure ?_)|skip
 refine wpAny_bind (wpAny_sequenceKey ht.typeIs (by decide) ?_)
 refine wpAny_bind (wpAny_callSpecial?_slot (name:=Str.ofString "__getitem__") ht.typeIs PyProof.Rows.slot_tuple_getitem
  (wpAny_call_entry PyProof.Rows.slot_tuple_getitem ht.typeIs entry_tuple_getitem ?_ (args_tuple_getitem _ _)))
 show wpAny _ _ (Builtin.Tuple.tupleItemsOf (.ref t) >>= _) _ _ s
 refine wpAny_bind (tupleItemsOf_ ht ?_)
 refine wpAny_bind (wpAny_typeOf hTs ?_)
 rw[if_pos (by decide)]
 refine wpAny_bind (sliceApplied_gen hs pl pu ?_)
 have hno:¬ ((((sIx items.size 0 lo:Nat):Int)==0&&(1:Int)==1&&(sIx items.size items.size hi - sIx items.size 0 lo)==items.size)=true):=by
  intro q
  rw[Qqk,Qqk]at q
  have q1:((sIx items.size 0 lo:Nat):Int)=0:=eq_of_beq q.1.1
  have q2:sIx items.size items.size hi - sIx items.size 0 lo=items.size:=eq_of_beq q.2
  exact hw ⟨by omega,by omega⟩
 show wpAny _ _ (if (((sIx items.size 0 lo:Nat):Int)==0&&(1:Int)==1&&(sIx items.size items.size hi - sIx items.size 0 lo)==items.size)=true then _ else _) _ _ s
 rw[if_neg hno,qg7]
 first
  |exact wpAny_bind (m:=Builtin.Tuple.tupleExact _) (wpAny_newObj_type (wpAny_pure ⟨_,rfl,wpAny_pure h⟩) htake)
  |exact wpAny_bind (m:=Builtin.Tuple.tupleExact _) (wpAny_newObj_type (wpAny_bind (wpAny_pure (wpAny_pure ⟨_,rfl,wpAny_pure h⟩))) htake)
  |exact wpAny_bind (wpAny_bind (m:=Builtin.Tuple.tupleExact _) (wpAny_newObj_type (wpAny_pure (wpAny_pure ⟨_,rfl,wpAny_pure h⟩)) htake))
  |exact wpAny_bind (wpAny_bind (m:=Builtin.Tuple.tupleExact _) (wpAny_newObj_type (wpAny_pure ⟨_,rfl,wpAny_pure h⟩) htake))
end
end HT
namespace L2
open PySem PySem.Spec PyProof.Rows
abbrev TO:=St→Hp→(Option Int→Hp→Prop)→Prop
def PO(X:Cx)(e:Option Expr)(t:TO):Prop:=
 ∀ (pins:List (Addr×Obj)) (s:Shared) (σ:St) (H:Hp) (Q:Option Int→Hp→Prop),Inv X pins σ H s→t σ H Q→
  wpAny (model X.prog X.w) X.A (evalPart e X.env) (fun u s'=>∃ o H',Inv X pins σ H' s'∧IsPart u o∧Q o H') X.xe s
noncomputable def qi8:TO:=fun _ H Q=>Q none H
noncomputable def tPart(t:TE):TO:=fun σ H Q=>t σ H fun x H1=>∃ i,x=.int i∧Q (some i) H1
theorem intsAre_of{ns:List Int}:∀ {us:List Value},Vals (ns.map V.int) us→IntsAre us ns:=by
 induction ns with
 |nil=>intro us r; rw[Qxr]at r; cases r; exact .nil
 |cons n ns ih=>
  intro us r
  rw[Qqt]at r
  cases r with
  |cons r1 r2=>
   obtain⟨t,e⟩:=r1
   subst e
   exact .cons n t (ih r2)
section
variable {X:Cx}{e:Expr}{te:TE}{lo hi:Option Expr}{tl th:TO}{pos p2:Pos}
theorem qlr:PO X none qi8:=by
 intro pins s σ H Q I h
 rw[evalPart_none]
 exact wpAny_pure ⟨none,H,I,.none,h⟩
theorem qlp(h:PE X e te):PO X (some e) (tPart te):=by
 intro pins s σ H Q I hw
 rw[evalPart_some]
 refine thn (h pins s σ H _ I hw) fun u s1 ⟨x,H1,I1,r1,q1⟩=>?_
 obtain⟨i,rfl,q⟩:=q1
 obtain⟨t,rfl⟩:=r1
 exact⟨some i,H1,I1,.int i t,q⟩
def SlR(X:Cx)(r:V→Option Int→Option Int→Hp→VK→Prop):Prop:=
 ∀ (pins:List (Addr×Obj)) (s:Shared) (σ:St) (H:Hp) (x:V) (v vl vu:Value) (lo hi:Option Int) (sl:Addr) (Q:VK),Inv X pins σ H s→RelV x v→s.heap.IsSliceOf sl vl vu .none→IsPart vl lo→IsPart vu hi→r x lo hi H Q→
  ∃ T id,typeLookup (.type T) "__getitem__" = pure (some (.builtin id))∧s.TypeIs v T∧wpAny (model X.prog X.w) X.A (getItem v (.ref sl)) (EP X pins σ Q) X.xe s
theorem SlR.or{r r':V→Option Int→Option Int→Hp→VK→Prop}(h:SlR X r)(h':SlR X r'):SlR X (fun x lo hi H Q=>r x lo hi H Q∨r' x lo hi H Q):=by
 intro pins s σ H x v vl vu lo hi sl Q I rx hs pl pu q
 rcases q with q|q
 ·exact h pins s σ H x v vl vu lo hi sl Q I rx hs pl pu q
 ·exact h' pins s σ H x v vl vu lo hi sl Q I rx hs pl pu q
noncomputable def tSl(r:V→Option Int→Option Int→Hp→VK→Prop)(te:TE)(tl th:TO):TE:=fun σ H Q=>te σ H fun x H1=>tl σ H1 fun l H2=>th σ H2 fun u H3=>r x l u H3 Q
theorem qg9{r:V→Option Int→Option Int→Hp→VK→Prop}(hr:SlR X r)(he:PE X e te)(hl:PO X lo tl)(hu:PO X hi th):PE X (.Subscript e (.Slice lo hi none p2) pos) (tSl r te tl th):=by
 intro pins s σ H Q I h
 refine Subscript_ (thn (he pins s σ H _ I h) fun v s1 ⟨x,H1,I1,r1,q1⟩=>?_)
 refine wpAny_Slice (thn (hl pins s1 σ H1 _ I1 q1) fun vl s2 ⟨l,H2,I2,pl,q2⟩=>thn (hu pins s2 σ H2 _ I2 q2) fun vu s3 ⟨u,H3,I3,pu,q3⟩=>?_)
 rw[evalPart_none]
 refine wpAny_pure ?_
 have I4:Inv X pins σ H3 { s3 with heap:=s3.heap.push { cls:=.type "slice",data:=.fields #[vl,vu,.none] } }:=I3.kept (t':=s3.toks) fun b ob q=>Qqb _ q
 obtain⟨T,id,hT,ht,hg⟩:=hr pins { s3 with heap:=s3.heap.push { cls:=.type "slice",data:=.fields #[vl,vu,.none] } } σ H3 x v vl vu l u s3.heap.objs.size Q I4 r1 (Heap.IsSliceOf.new ..) pl pu q3
 show wpAny (model X.prog X.w) X.A (subscriptTail e (.Slice lo hi none p2) v (.ref s3.heap.objs.size)) (EP X pins σ Q) X.xe { s3 with heap:=s3.heap.push { cls:=.type "slice",data:=.fields #[vl,vu,.none] } }
 exact tail_any (ops:=[.ref s3.heap.objs.size,v]) ht hT hg (by with_unfolding_all rfl)
noncomputable def cutV(xs:List V)(lo hi:Option Int):List V:=(xs.drop (HT.sIx xs.length 0 lo)).take (HT.sIx xs.length xs.length hi - HT.sIx xs.length 0 lo)
theorem qvh(xs:List V)(lo hi:Option Int):(cutV xs lo hi).length≤xs.length:=by
 unfold cutV
 rw[Qzf,Qzp]
 omega
def rSlT(K:Qqq):V→Option Int→Option Int→Hp→VK→Prop:=fun x lo hi H Q=>∃ a xs,x=.ref a∧SqT K H a xs∧
 ¬ (HT.sIx xs.length 0 lo=0∧HT.sIx xs.length xs.length hi=xs.length)∧∀ p,H p=none→Q (.ref p) (upd H p (.tup (cutV xs lo hi)))
theorem sl_tup:SlR X (rSlT X.K):=by
 intro pins s σ H x v vl vu lo hi sl Q I rx hs pl pu h
 obtain⟨a,xs,rfl,hx,hw,q⟩:=h
 cases rx
 obtain⟨its,r,ht,hz⟩:=I.tuple hx
 have hlen:its.toArray.size=xs.length:=by rw[Qqa]; exact r.length.symm
 refine⟨"tuple",_,PyProof.Rows.slot_tuple_getitem.lookup,ht.typeIs,?_⟩
 refine HT.getItem_tuple_cut ht hs pl pu (by rw[hlen]; exact hw) ?_ (by rw[hlen]; exact hz)
 rw[hlen]
 refine⟨.ref s.heap.objs.size,_,I.laid (t':=s.toks) (o:=.tup (cutV xs lo hi)) (fun b ob q=>Qqb _ q) (Qqc _) ?_,rfl,q _ (I.hok.fresh (Qqc _))⟩
 exact⟨Qq9 (qvh xs lo hi) hz,_,(r.drop (HT.sIx xs.length 0 lo)).take (HT.sIx xs.length xs.length hi - HT.sIx xs.length 0 lo),IsTup.new _ _⟩
noncomputable def rCatT(K:Qqq):R2:=fun x y H Q=>∃ a b xs ys,x=.ref a∧y=.ref b∧SqT K H a xs∧SqT K H b ys∧xs≠[]∧xs.length+ys.length≤sizeLine∧
 (ys=[]→Q (.ref a) H)∧(ys≠[]→∀ p,H p=none→Q (.ref p) (upd H p (.tup (xs++ys))))
theorem Vals.nil_iff{xs:List V}{us:List Value}(r:Vals xs us):us=[]↔xs=[]:=by
 cases r with
 |nil=>simp
 |cons _ _=>simp
theorem ql5:OpR X (binaryOp .Add) (rCatT X.K):=by
 intro pins s σ H x y v u Q I rx ry h
 obtain⟨a,b,xs,ys,rfl,rfl,ha,hb,hx,hz,q1,q2⟩:=h
 cases rx
 cases ry
 obtain⟨its,r1,p1,_⟩:=I.tuple ha
 obtain⟨its2,r2,p2,_⟩:=I.tuple hb
 refine HT.cat_tup p1 p2 (fun z=>hx (r1.nil_iff.mp z)) (fun z=>⟨.ref a,H,I,rfl,q1 (r2.nil_iff.mp z)⟩) (fun z=>?_) (by rw[← r1.length,← r2.length]; exact hz)
 refine⟨.ref s.heap.objs.size,_,I.laid (t':=s.toks) (o:=.tup (xs++ys)) (fun b ob q=>Qqb _ q) (Qqc _) ?_,rfl,q2 (fun w=>z (r2.nil_iff.mpr w)) _ (I.hok.fresh (Qqc _))⟩
 exact⟨by rw[Qqu]; exact hz,_,r1.append r2,IsTup.new _ _⟩
end
end L2
namespace L2
open PySem PySem.Spec PyProof.Rows
noncomputable def ixN(n:Nat)(i:Int):Option Nat:=if 0≤i then(if i<n then some i.toNat else none) else if -(n:Int)≤i then some (i+n).toNat else none
noncomputable def atI{α:Type}(xs:List α)(i:Int):Option α:=(ixN xs.length i).bind fun j=>xs[j]?
theorem qmc{n:Nat}{i:Int}{j:Nat}(h:ixN n i=some j):seqIndex? i n=some j∧j<n∧-(n:Int)≤i∧i<n:=by
 unfold ixN at h
 by_cases h0:0≤i
 ·rw[if_pos h0]at h
  by_cases h1:i<n
  ·rw[if_pos h1]at h
   have e:i.toNat=j:=Option.some.inj h
   exact⟨by rw[seqIndex_of h0 h1,e],by omega,by omega,h1⟩
  ·rw[if_neg h1]at h; cases h
 ·rw[if_neg h0]at h
  by_cases h1:-(n:Int)≤i
  ·rw[if_pos h1]at h
   have e:(i+n).toNat=j:=Option.some.inj h
   exact⟨by rw[seqIndex_neg (by omega) h1,e],by omega,h1,by omega⟩
  ·rw[if_neg h1]at h; cases h
theorem qbr{α:Type}{xs:List α}{i:Int}{v:α}(h:atI xs i=some v):∃ j,seqIndex? i xs.length=some j∧xs[j]?=some v∧j<xs.length∧-(xs.length:Int)≤i∧i<xs.length:=by
 unfold atI at h
 cases e:ixN xs.length i with
 |none=>rw[e]at h; cases h
 |some j=>
  rw[e]at h
  obtain⟨h1,h2,h3,h4⟩:=qmc e
  exact⟨j,h1,h,h2,h3,h4⟩
def qbt(b:Expr):Prop:=∀ o i,subscripted b false o i=operate [o,i] (getItem o i)
def IxR(X:Cx)(r:R2):Prop:=
 ∀ (value slice:Expr) (pins:List (Addr×Obj)) (s:Shared) (σ:St) (H:Hp) (x y:V) (v u:Value) (Q:VK),Inv X pins σ H s→RelV x v→RelV y u→r x y H Q→
  subscripted slice false v u=operate [v,u] (getItem v u)→wpAny (model X.prog X.w) X.A (subscriptTail value slice v u) (EP X pins σ Q) X.xe s
def MtR(X:Cx)(id:String)(r:V→List V→Hp→VK→Prop):Prop:=
 ∀ (pins:List (Addr×Obj)) (s:Shared) (σ:St) (H:Hp) (x:V) (xs:List V) (v:Value) (us:List Value) (Q:VK),Inv X pins σ H s→RelV x v→Vals xs us→r x xs H Q→
  wpAny (model X.prog X.w) X.A (call (.builtin id) (v::us)) (EP X pins σ Q) X.xe s
section
variable {X:Cx}{a b:Expr}{ta tb:TE}{pos:Pos}
theorem IxR.or{r r':R2}(h:IxR X r)(h':IxR X r'):IxR X (fun x y H Q=>r x y H Q∨r' x y H Q):=by
 intro value slice pins s σ H x y v u Q I rx ry q hs
 rcases q with q|q
 ·exact h value slice pins s σ H x y v u Q I rx ry q hs
 ·exact h' value slice pins s σ H x y v u Q I rx ry q hs
theorem MtR.or{id:String}{r r':V→List V→Hp→VK→Prop}(h:MtR X id r)(h':MtR X id r'):MtR X id (fun x xs H Q=>r x xs H Q∨r' x xs H Q):=by
 intro pins s σ H x xs v us Q I rx rs q
 rcases q with q|q
 ·exact h pins s σ H x xs v us Q I rx rs q
 ·exact h' pins s σ H x xs v us Q I rx rs q
theorem pe_ix{r:R2}(hr:IxR X r)(ha:PE X a ta)(hb:PE X b tb)(hs:qbt b):PE X (.Subscript a b pos) (tOp r ta tb):=by
 intro pins s σ H Q I h
 exact Subscript_ (binT ha hb I h fun v u s2 x y H2 I2 rx ry q=>hr a b pins s2 σ H2 x y v u Q I2 rx ry q (hs _ _))
noncomputable def rIxL(K:Qqq):R2:=fun x y H Q=>∃ p xs i v,x=.ref p∧y=.int i∧SqL K H p xs∧atI xs i=some v∧Q v H
noncomputable def rIxT(K:Qqq):R2:=fun x y H Q=>∃ p xs i v,x=.ref p∧y=.int i∧SqT K H p xs∧atI xs i=some v∧Q v H
noncomputable def rIxS:R2:=fun x y H Q=>∃ z i c,x=.str z∧y=.int i∧z.length≤sizeLine∧atI z.cps.toList i=some c∧Q (.str ⟨#[c]⟩) H
theorem qmb:IxR X (rIxL X.K):=by
 intro value slice pins s σ H x y v u Q I rx ry h hs
 obtain⟨p,xs,i,z,rfl,rfl,hq,he,q⟩:=h
 cases rx
 obtain⟨t,rfl⟩:=ry
 obtain⟨its,r,pl,hz⟩:=I.list hq
 obtain⟨j,h1,h2,h3,h4,h5⟩:=qbr he
 obtain⟨w,ew,rw'⟩:=r.get h2
 have hl:=r.length
 have hn:=qwz
 have fin:EP X pins σ Q w s:=⟨z,H,I,rw',q⟩
 by_cases h0:0≤i
 ·have hj:i.toNat=j:=by
   rw[seqIndex_of h0 h5]at h1
   exact Option.some.inj h1
  exact item_listR pl.isList h0 (by omega) (by rw[hj]; simpa using ew) fin hs
 ·have hj:(i+(its.toArray.size:Int)).toNat=j:=by
   rw[seqIndex_neg (by omega) h4]at h1
   rw[Qqa,← hl]
   exact Option.some.inj h1
  exact subscriptTail_builtinR (x:=w) pl.isList.typeIs slot_list_getitem.lookup
   (wpAny_getItem_list_neg (Q:=fun r s'=>r=w∧EP X pins σ Q r s') pl.isList (by omega) (by rw[Qqa]<;>omega) (by omega) (by rw[hj]; simpa using ew) ⟨rfl,fin⟩) hs
theorem ix_tup:IxR X (rIxT X.K):=by
 intro value slice pins s σ H x y v u Q I rx ry h hs
 obtain⟨p,xs,i,z,rfl,rfl,hq,he,q⟩:=h
 cases rx
 obtain⟨t,rfl⟩:=ry
 obtain⟨its,r,pl,hz⟩:=I.tuple hq
 obtain⟨j,h1,h2,h3,h4,h5⟩:=qbr he
 obtain⟨w,ew,rw'⟩:=r.get h2
 have hl:=r.length
 have hn:=qwz
 have fin:EP X pins σ Q w s:=⟨z,H,I,rw',q⟩
 exact subscriptTail_builtinR (x:=w) pl.typeIs slot_tuple_getitem.lookup
  (getItem_tuple (j:=j) (Q:=fun r s'=>r=w∧EP X pins σ Q r s') pl (by omega) (by omega) (by rw[Qqa,← hl]; exact h1) (by simpa using ew) ⟨rfl,fin⟩) hs
theorem ix_str:IxR X rIxS:=by
 intro value slice pins s σ H x y v u Q I rx ry h hs
 obtain⟨z,i,c,rfl,rfl,hz,he,q⟩:=h
 obtain⟨t,rfl⟩:=rx
 obtain⟨t',rfl⟩:=ry
 obtain⟨j,h1,h2,h3,h4,h5⟩:=qbr he
 have hl:z.cps.toList.length=z.length:=by simp[Str.length]
 rw[hl]at h1 h4 h5
 have hn:=qwz
 exact tail_any (typeIs_str s z t) slot_str_getitem.lookup (getItem_str (c:=c) (by
  have e1:decide (i < -(2 ^ 63:Int))=false:=decide_eq_false (by omega)
  have e2:decide (i ≥ 2 ^ 63)=false:=decide_eq_false (by omega)
  rw[e1,e2,Qzl]) (by rw[h1]; simpa using h2) ⟨.str ⟨#[c]⟩,H,I.tok _,⟨_,rfl⟩,q⟩) hs
theorem Inv.lst{pins:List (Addr×Obj)}{σ:St}{H:Hp}{s:Shared}{p:Addr}{xs:List V}(I:Inv X pins σ H s)(h:H p=some (.lst xs)):
  ∃ (its:List Value) (n:Nat),Vals xs its∧s.heap.get? p=some { cls:=.type "list",data:=.seq its.toArray n }∧xs.length≤sizeLine:=by
 obtain⟨z,its,n,r,e⟩:=I.hok p _ h
 exact⟨its,n,r,e,z⟩
theorem qya(lo hi:Option Int)(n:Nat):(sliceBounds lo hi none n).1=((HT.sIx n 0 lo:Nat):Int)∧(sliceBounds lo hi none n).2.1=((HT.sIx n n hi:Nat):Int)∧(sliceBounds lo hi none n).2.2=1:=by
 refine⟨?_,?_,rfl⟩
 ·cases lo with
  |none=>simp[sliceBounds,HT.sIx]
  |some i=>
   simp only[sliceBounds,HT.sIx,Option.getD_none,show(1:Int) > 0 by decide,if_true]
   by_cases h:i<0
   ·simp only[h,if_true]<;>omega
   ·simp only[h,if_false]<;>omega
 ·cases hi with
  |none=>simp[sliceBounds,HT.sIx]
  |some i=>
   simp only[sliceBounds,HT.sIx,Option.getD_none,show(1:Int) > 0 by decide,if_true]
   by_cases h:i<0
   ·simp only[h,if_true]<;>omega
   ·simp only[h,if_false]<;>omega
theorem qwi(its:List Value)(lo hi:Option Int):slicePick its.toArray lo hi none=((its.drop (HT.sIx its.length 0 lo)).take (HT.sIx its.length its.length hi - HT.sIx its.length 0 lo)).toArray:=by
 obtain⟨h1,h2,h3⟩:=qya lo hi its.toArray.size
 unfold slicePick
 rw[h1,h2,h3]
 simp only[sliceRange_one,pick_run,Qqa]<;>rfl
def rSlL(K:Qqq):V→Option Int→Option Int→Hp→VK→Prop:=fun x lo hi H Q=>∃ a xs,x=.ref a∧SqL K H a xs∧∀ p,H p=none→Q (.ref p) (upd H p (.lst (cutV xs lo hi)))
theorem qly:SlR X (rSlL X.K):=by
 intro pins s σ H x v vl vu lo hi sl Q I rx hs pl pu h
 obtain⟨a,xs,rfl,hx,q⟩:=h
 cases rx
 obtain⟨its,r,ht,hz⟩:=I.list hx
 have hlen:=r.length
 refine⟨"list",_,slot_list_getitem.lookup,ht.isList.typeIs,?_⟩
 refine wpAny_getItem_list_slice ht.isList hs pl pu .none (by simp) ?_ (by rw[Qqa]<;>omega)
 rw[qwi,← hlen]
 refine⟨.ref s.heap.objs.size,_,I.laid (t':=s.toks) (o:=.lst (cutV xs lo hi)) (fun b ob q=>Qqb _ q) (Qqc _) ?_,rfl,q _ (I.hok.fresh (Qqc _))⟩
 exact⟨Qq9 (qvh xs lo hi) hz,_,0,(r.drop (HT.sIx xs.length 0 lo)).take (HT.sIx xs.length xs.length hi - HT.sIx xs.length 0 lo),Qqr _ rfl⟩
theorem qki:CallR X (.builtin "len") (fun xs H Q=>∃ p ys,xs=[.ref p]∧(SqL X.K H p ys∨SqT X.K H p ys)∧Q (.int ys.length) H):=by
 intro pins s σ H xs us Q I r h
 obtain⟨p,ys,rfl,hq,q⟩:=h
 obtain⟨u,rfl,rx⟩:=vals1 r
 cases rx
 have hn:=qwz
 rcases hq with hq|hq
 ·obtain⟨its,r',pl,hz⟩:=I.list hq
  have hlen:=r'.length
  exact Calls.call_len_list pl.isList (by simp only[Qqa]<;>omega) ⟨.int ys.length,H,I.tok _,⟨s.toks+1,by rw[Qqa,hlen]⟩,q⟩
 ·obtain⟨its,r',pl,hz⟩:=I.tuple hq
  have hlen:=r'.length
  exact len_tuple pl (by simp only[Qqa]<;>omega) ⟨.int ys.length,H,I.tok _,⟨s.toks+1,by rw[Qqa,hlen]⟩,q⟩
theorem qae:CallR X (.builtin "len") (fun xs H Q=>∃ z,xs=[.str z]∧z.length≤sizeLine∧Q (.int z.length) H):=by
 intro pins s σ H xs us Q I r h
 obtain⟨z,rfl,hz,q⟩:=h
 obtain⟨u,rfl,t,rfl⟩:=vals1 r
 have hn:=qwz
 exact len_str (by omega) ⟨.int z.length,H,I.tok _,⟨_,rfl⟩,q⟩
theorem CallR.or{f:Value}{r r':List V→Hp→VK→Prop}(h:CallR X f r)(h':CallR X f r'):CallR X f (fun xs H Q=>r xs H Q∨r' xs H Q):=by
 intro pins s σ H xs us Q I rs q
 rcases q with q|q
 ·exact h pins s σ H xs us Q I rs q
 ·exact h' pins s σ H xs us Q I rs q
theorem qj1:CallR X (.type "tuple") (fun xs H Q=>∃ p ys,xs=[.ref p]∧((SqL X.K H p ys∧∀ l,H l=none→Q (.ref l) (upd H l (.tup ys)))∨(SqT X.K H p ys∧Q (.ref p) H))):=by
 intro pins s σ H xs us Q I r h
 obtain⟨p,ys,rfl,h⟩:=h
 obtain⟨u,rfl,rx⟩:=vals1 r
 cases rx
 rcases h with⟨hq,q⟩|⟨hq,q⟩
 ·obtain⟨its,r',pl,hz⟩:=I.list hq
  have hlen:=r'.length
  refine call_tuple_list pl.isList (fun h' kp=>?_) (by simp only[Qqa]<;>omega)
  have I1:Inv X pins σ H { s with heap:=h' }:=I.kept (t':=s.toks) kp
  have I2:Inv X pins σ (upd H h'.objs.size (.tup ys)) { s with heap:=h'.push { cls:=.type "tuple",data:=.seq its.toArray } }:=
   I1.laid (t':=s.toks) (fun b o e=>Qqb _ e) (Qqc _) (show ObjOk X.prog X.w _ _ _ (.tup ys) from⟨hz,its,r',IsTup.new _ _⟩)
  exact⟨.ref h'.objs.size,_,I2,rfl,q _ (I1.hok.fresh (Qqc _))⟩
 ·obtain⟨its,r',pl,hz⟩:=I.tuple hq
  exact call_tuple_same pl ⟨.ref p,H,I,rfl,q⟩
def tyV(K:Qqq)(T:String)(x:V)(H:Hp):Prop:=match x with
 |.str _=>T = "str"
 |.int _=>T = "int"
 |.ref p=>(T = "list"∧∃ xs,SqL K H p xs)∨(T = "tuple"∧∃ o,K.lookup p=some o∧o.cls=.type "tuple"∧o.dict=none)∨
   (T = "dict"∧((∃ kvs,H p=some (.dK kvs))∨∃ kvs,H p=some (.dT kvs)))∨(T = "set"∧∃ S n,H p=some (.set S n))
 |_=>False
theorem tyV_is{pins:List (Addr×Obj)}{σ:St}{H:Hp}{s:Shared}{T:String}{x:V}{v:Value}(I:Inv X pins σ H s)(r:RelV x v)(ty:tyV X.K T x H):
  s.TypeIs v T∧∀ a,v=.ref a→∃ ob,s.heap.get? a=some ob∧ob.dict=none:=by
 cases x with
 |str z=>
  obtain⟨t,rfl⟩:=r
  cases (show T = "str" from ty)
  exact⟨typeIs_str s z t,fun _ e=>nomatch e⟩
 |int i=>
  obtain⟨t,rfl⟩:=r
  cases (show T = "int" from ty)
  exact⟨typeIs_int s i t,fun _ e=>nomatch e⟩
 |ref p=>
  cases r
  rcases ty with⟨rfl,xs,hq⟩|⟨rfl,o,hk,hc,hd⟩|⟨rfl,hk⟩|⟨rfl,S,n,hk⟩
  ·obtain⟨its,_,pl,_⟩:=I.list hq
   refine⟨pl.isList.typeIs,fun a e=>?_⟩
   cases e
   obtain⟨o,n,e,c,hd,_⟩:=pl
   exact⟨o,e,hd⟩
  ·refine⟨⟨o,I.kIn p o hk,hc⟩,fun a e=>?_⟩
   cases e
   exact⟨o,I.kIn _ o hk,hd⟩
  ·have z:∃ o,s.heap.get? p=some o∧o.ExactDict:=by
    rcases hk with⟨kvs,hk⟩|⟨kvs,hk⟩
    ·obtain⟨_,_,_,_,o,_,_,e,ex,_⟩:=I.hok p _ hk
     exact⟨o,e,ex⟩
    ·obtain⟨_,_,_,_,o,_,_,e,ex,_⟩:=I.hok p _ hk
     exact⟨o,e,ex⟩
   obtain⟨o,e,ex⟩:=z
   refine⟨⟨o,e,ex.1⟩,fun a e2=>?_⟩
   cases e2
   exact⟨o,e,ex.2.1⟩
  ·obtain⟨o,_,_,_,e,ex,_⟩:=I.hok p _ hk
   refine⟨⟨o,e,ex.1⟩,fun a e2=>?_⟩
   cases e2
   exact⟨o,e,ex.2.1⟩
 |_=>exact False.elim ty
noncomputable def tBM(K:Qqq)(T:String)(r:V→List V→Hp→VK→Prop)(to:TE)(t:TA):TE:=fun σ H Q=>to σ H fun x H1=>tyV K T x H1∧t σ H1 fun xs H2=>r x xs H2 Q
variable {o e:Expr}{es:List Expr}{to:TE}{t:TA}{name:Str}{apos cpos:Pos}{T id:String}{r:V→List V→Hp→VK→Prop}
theorem qhk(pa:PlainAttrs T)(slot:Slot T name id)(hty:typeOf (.builtin id)=pure (.type "method_descriptor"))(hm:MtR X id r)(ho:PE X o to)(ha:PA X (e::es) t)
  (hbase:attributeBase o name X.env (eval o X.env)=eval o X.env:=by rfl)
  (hfew:((backTo cpos (starEach (e::es) X.env)).all (fun x=>!x.1)&&(backToKw cpos (keywordEach [] X.env)).all (fun x=>x.1.isSome)
   && decide ((e::es).length+([]:List Keyword).length+(if ([]:List Keyword).isEmpty then 0 else 1)<30))=true:=by rfl)
  (hline:(apos.endLine==cpos.line)=true:=by rfl) (hs:starEach (e::es) X.env=(false,eval e X.env)::starEach es X.env:=by rfl) (hplain:(backTo cpos (starEach es X.env)).any (·.1)=false:=by rfl) :
  PE X (.Call (.Attribute o name apos) (e::es) [] cpos) (tBM X.K T r to t):=by
 intro pins s σ H Q I h
 refine wpAny_Call_method_late hbase hfew hline rfl (thn (ho pins s σ H _ I h) fun v s1 ⟨x,H1,I1,r1,ty,q1⟩=>?_)
 obtain⟨h1,h2⟩:=tyV_is I1 r1 ty
 refine⟨T,id,pa,slot,hty,h1,h2,?_⟩
 have hA:=ha cpos pins s1 σ H1 _ I1 q1
 rw[hs]at hA ⊢
 refine Calls.callWith_builtin (by show(false||(backTo cpos (starEach es X.env)).any (·.1))=false; rw[hplain]<;>rfl) (Calls.evalArgs_plain ?_)
 exact thn hA fun us s2 ⟨vs,H2,I2,r2,q2⟩=>hm pins s2 σ H2 x vs v us Q I2 r1 r2 q2
end
end L2
namespace L2
open PySem PySem.Spec PyProof.Rows
def MtM(X:Cx)(id:String)(r:V→List V→Hp→VK→Prop):Prop:=
 ∀ (pins:List (Addr×Obj)) (s:Shared) (σ:St) (H:Hp) (x:V) (xs:List V) (v:Value) (us:List Value) (Q:VK),Inv X pins σ H s→RelV x v→Vals xs us→r x xs H Q→
  wpAny (model X.prog X.w) X.A (call (.builtin id) (v::us)) (EP X pins σ Q) X.xe s
theorem Vals.one:∀ {x:V}{us:List Value},Vals [x] us→∃ u,us=[u]∧RelV x u
 |_,_,.cons r .nil=>⟨_,rfl,r⟩
theorem Vals.two:∀ {x y:V}{us:List Value},Vals [x,y] us→∃ u v,us=[u,v]∧RelV x u∧RelV y v
 |_,_,_,.cons r (.cons q .nil)=>⟨_,_,rfl,r,q⟩
theorem Vals.zero:∀ {us:List Value},Vals [] us→us=[]
 |_,.nil=>rfl
theorem Vals.reverse{xs:List V}{us:List Value}(h:Vals xs us):Vals xs.reverse us.reverse:=by
 induction h with
 |nil=>exact .nil
 |cons r t ih=>rw[List.reverse_cons,List.reverse_cons]; exact Vals.append ih (.cons r .nil)
section
variable {X:Cx}{pins:List (Addr×Obj)}{σ:St}{H:Hp}{s:Shared}{l b:Addr}{xs ys zs:List V}
theorem Inv.lset{its its':List Value}{n:Nat}{f:Array Value→Array Value}{t':Nat}(I:Inv X pins σ H s)(hH:H l=some (.lst xs))
  (e:s.heap.get? l=some { cls:=.type "list",data:=.seq its.toArray n }) (hf:f its.toArray=its'.toArray) (hv:Vals ys its') (hz:ys.length≤sizeLine) :
  Inv X pins σ (upd H l (.lst ys)) { s with heap:=s.heap.update l (Obj.mapSeq f),toks:=t' }:=by
 have q:=PySem.IsL.update e f
 rw[hf]at q
 refine I.write (x:=l) (e:=l) (by rw[hH]; exact trivial) (.inl rfl) (fun b' u hb hu=>(Qzg s.heap (Obj.mapSeq f) (Ne.symm hb)).trans hu) ⟨_,q⟩ ?_
 exact⟨hz,its',_,hv,q⟩
theorem Inv.lnew{its:List Value}{t':Nat}(I:Inv X pins σ H s)(hv:Vals ys its)(hz:ys.length≤sizeLine):
  Inv X pins σ (upd H s.heap.objs.size (.lst ys)) { s with heap:=s.heap.push { cls:=.type "list",data:=.seq its.toArray },toks:=t' }:=
 I.laid (fun _ _ q=>Qqb _ q) (Qqc _) ⟨hz,its,0,hv,Qqr _ rfl⟩
theorem Inv.fresh(I:Inv X pins σ H s):H s.heap.objs.size=none:=I.hok.fresh (Qqc _)
theorem Inv.lstM(I:Inv X pins σ H s)(hH:H l=some (.lst xs)):xs.length≤sizeLine∧∃ (its:List Value) (n:Nat),Vals xs its∧xs.length=its.length∧s.heap.get? l=some { cls:=.type "list",data:=.seq its.toArray n }:=by
 obtain⟨z,its,n,r,e⟩:=I.hok l _ hH
 exact⟨z,its,n,r,r.length,e⟩
end
section
variable {X:Cx}
def qlg:V→List V→Hp→VK→Prop:=fun x vs H Q=>∃ l xs y,x=.ref l∧vs=[y]∧H l=some (.lst xs)∧xs.length<sizeLine∧Q .non (upd H l (.lst (xs++[y])))
theorem qfk:MtM X "list.append" qlg:=by
 intro pins s σ H x vs v us Q I rx rv h
 obtain⟨l,xs,y,rfl,rfl,hH,hz,q⟩:=h
 cases rx
 obtain⟨u,rfl,ru⟩:=rv.one
 obtain⟨z,its,n,r,hl,e⟩:=I.lstM hH
 refine call_meets F.slot_list_append ⟨_,e,rfl⟩ F.entry_list_append (F.args_list_append_2 _ _) (PySem.list_append l its.toArray n u (by rw[Qqa]; omega)) ⟨e,?_⟩
 refine⟨.non,_,I.lset (its':=its++[u]) hH e (by simp) (r.append (.cons ru .nil)) ?_,rfl,q⟩
 rw[Qqu,Qzi]
 omega
end
section
variable {prog:Program}{w:World}{A:Around}{E:Value→Shared→Prop}{s:Shared}
end
section
variable {X:Cx}
end
end L2
namespace Att
open PySem PySem.W PySem.Calls PyProof.Rows
theorem qvy{P:Params}{h:Heap}:∀ (ns:List Int) (vs:List Value),WellAll P h vs (ns.map WData.int)→IntsAre vs ns:=by
 intro ns
 induction ns with
 |nil=>
  intro vs w
  rw[Qxr]at w
  cases w
  exact .nil
 |cons n ns ih=>
  intro vs w
  rw[Qqt]at w
  cases w with
  |cons a b=>
   cases a
   exact .cons _ _ (ih _ b)
theorem qev{l:OpenLaw}{n:Nat}(hn:l.most=some n){P:Params}{h:Heap}{args:List WData}{vals:List Value}
  (hpre:l.row.toRowW.claim.pre args=true) (hwl:WellAll P h vals args) :
  ∃ a vs ns,vals=[Value.ref a]∧args=[WData.list (ns.map WData.int)]∧h.get? a=some { cls:=.type "list",data:=.seq vs.toArray }∧IntsAre vs ns∧ns.length≤n:=by
 have hsh:WShape.hasAll [] args [.list .int]=true:=(pre_splitW hpre).1
 have hc:l.pre.holds [] { args:=args }=true:=(pre_splitW hpre).2
 obtain⟨d,r,rfl,h1,h2⟩:=hasAllW_cons hsh
 obtain rfl:=hasAllW_nil h2
 obtain⟨xs,rfl,h3⟩:=hasW_list h1
 obtain⟨ns,rfl⟩:=items_int h3
 have hlen:ns.length≤n:=by
  unfold OpenLaw.pre at hc
  have h4:(WTm.not (.lt (.lit (.int (n:Int))) (.len (.arg 0)))).holds [] { args:=[.list (ns.map .int)] }=true:=by
   have h4:=(holds_andW hc).1
   rw[hn]at h4
   exact h4
  have h5:=condW_of h4 (w_not (w_lt w_lit (w_len_list (w_arg rfl))))
  rw[Qqj]at h5
  refine Nat.le_of_not_lt fun q=>?_
  have q':(n:Int)<((ns.length:Nat):Int):=by omega
  first
   |(rw[decide_eq_true q']at h5; exact absurd h5 (by decide))
   |(simp at h5; omega)
 cases hwl with
 |cons w1 w2=>
  cases w2
  cases w1 with
  |list ho hall=>exact⟨_,_,ns,rfl,rfl,ho,qvy ns _ hall,hlen⟩
theorem qeh(l:OpenLaw)(args:List WData):l.row.toRowW.claim.post args (.bool true) args=true:=
 postW_of (r:=l.row.toRowW) (X:=(true==true))
  (show WShape.has [] (.bool true) .bool=true by first|rfl|decide|simp[WShape.has,WShape.arms,WShape.armsAll])
  (show(WTm.eq .res (.lit (.bool true))).value [] { args:=args,res:=some (.bool true),after:=args }=some (.bool (true==true)) from w_eq_bool (w_res rfl) w_lit) rfl
theorem attach_call{l:OpenLaw}{n:Nat}{q:Program}{loose:List Str}{XP:(Str→Option Value)→Heap→Prop}{YP:World→Heap→Prop}{d:DefRec}
  (hn:l.most=some n) (hdf:d.params.defaults=[])
  (call:∀ (w:World) (s₀ s₁:Shared) (mg mb:Str→Option Value) (fa:Addr) (o:Obj) (pm cd doc:Value) (a:Addr) (vs:List Value) (ns:List Int),
   Ground q loose [] XP w s₀ mg mb s₁.heap→YP w s₁.heap→
   s₁.heap.get? fa=some o→o.data=.func (docDef d.name d.params d.body d.scope pm cd doc)→s₁.heap.CodeRec cd d.name→mg d.name=some (.ref fa)→
   s₁.heap.get? a=some { cls:=.type "list",data:=.seq vs.toArray }→IntsAre vs ns→ns.length≤n→s₁.gens=#[]→
   codeAny (model l.prog w) callerA (.call (.ref fa) ⟨[.ref a],[]⟩) (fun r s'=>r=.ok (.ret (.bool true))∧OldK s₁.heap s'.heap∧s'.os=s₁.os∧AllBare s'.gens) s₁) :
  WalkO q loose XP YP l.row.toRowW d [] (fun f vs=>PySem.call f vs):=by
 intro w s₀ s₁ mg mb G Y fa o pm cd doc dV kV ho hd hcd hD hmg hg args vals as hpre hlay hrd hwl hlo
 obtain rfl:dV=.none:=Dflts.none hD hdf
 obtain rfl:kV=.none:=Dflts.noKw hD
 obtain⟨a,vs,ns,rfl,rfl,hobj,hints,hlen⟩:=qev hn hpre hwl
 refine enter_call (codeAny_mono (call w s₀ s₁ mg mb fa o pm cd doc a vs ns G Y ho (fd_plain hd) hcd hmg hobj hints hlen hg) fun r s' hq=>?_)
 obtain⟨rfl,h2,h3,h4⟩:=hq
 exact⟨.inl ⟨.bool true,.bool true,[],rfl,fun _=>rfl,.bool true,qeh l _,fun _=>⟨List.Pairwise.nil,fun _ hm=>(nomatch hm)⟩⟩,h2,h3,h4⟩
section
variable {prog:Program}{w:World}{A:Around}{E:Value→Shared→Prop}{s:Shared}{K:Frag}
end
end Att
namespace L2
open PySem PySem.Spec PyProof.Rows
theorem qk3:∀ {vs:List Value}{ns:List Int},IntsAre vs ns→Vals (ns.map V.int) vs
 |_,_,.nil=>.nil
 |_,_,.cons n t h=>.cons ⟨t,rfl⟩ (qk3 h)
def Only(H:Hp):Prop:=∀ b,H b=none∨∃ o xs,H b=some (.frz o (.lst xs))
theorem qhd{P:Program}{w:World}{K:Qqq}{mg mb:Str→Option Value}{CX:CXT}{k:Nat}{fa a:Addr}{fd:FuncData}{x:Str}{sp:Sp}{s₁:Shared}{vs:List Value}{ns:List Int}
  (KX:K.In s₁.heap) (hns:s₁.heap.Ns mainGlobals mg) (hb:s₁.heap.Ns builtinsNs mb) (hbb:∀ x:Str,x ≠ "__name__"→mb x=bootBuiltins x) (hlim:s₁.heap.NoLimit) (hg:s₁.gens=#[])
  (ha:s₁.heap.get? a=some { cls:=.type "list",data:=.seq vs.toArray }) (hi:IntsAre vs ns) (hl:ns.length≤sizeLine) (hr:Room k callerA)
  (F:∀ base:Heap,K.In base→base.Ns mainGlobals mg→FnOk P w K mg base CX k fa fd [x] sp) (hbind:∀ (s:Shared) (u:Value),BindsTo s fd ⟨[u],[]⟩ [(x,u)])
  (hsp:∀ H:Hp,Only H→SqL K H a (ns.map V.int)→sp [.ref a] H (fun v _=>v=.bl true) fun _ _ _=>False)
  (hCX:∀ H e s',CX [] H s₁ (fun _ _ _=>False) e s'→False) :
  codeAny (model P w) callerA (.call (.ref fa) ⟨[.ref a],[]⟩) (fun r s'=>r=.ok (.ret (.bool true))∧OldK s₁.heap s'.heap∧s'.os=s₁.os∧AllBare s'.gens) s₁:=by
 have rv:=qk3 hi
 have lenV:=hi.length
 have core:∀ H:Hp,Only H→SqL K H a (ns.map V.int)→HOk P w H s₁.heap→(∀ b,H b≠none→b=a)→(H a≠none→K.lookup a=none)→
   codeAny (model P w) callerA (.call (.ref fa) ⟨[.ref a],[]⟩) (fun r s'=>r=.ok (.ret (.bool true))∧OldK s₁.heap s'.heap∧s'.os=s₁.os∧AllBare s'.gens) s₁:=by
  intro H hO hS hok hA hK
  have base_of:∀ {b:Addr}{o:Obj},s₁.heap.get? b=some o→H b=none→(hidT s₁.heap H).get? b=some o:=fun e n=>qhf e n
  have noA:∀ {b:Addr}{o:Obj}{es:Array DictEntry}{ep:Nat},s₁.heap.get? b=some o→o.data=.dict es ep→H b=none:=fun {b o es ep} e d=>by
   cases q:H b with
   |none=>rfl
   |some u=>
    have e':b=a:=hA b (by rw[q]; simp)
    subst e'
    rw[ha]at e; cases e
    have d':Data.seq vs.toArray _=Data.dict es ep:=d
    cases d'
  have nsK:∀ {b:Addr}{m:Str→Option Value},s₁.heap.Ns b m→(hidT s₁.heap H).Ns b m:=fun {b m} ⟨o,es,ep,e,d,r⟩=>⟨o,es,ep,base_of e (noA e d),d,r⟩
  have hKb:K.In (hidT s₁.heap H):=fun b o e=>base_of (KX b o e) (by
   cases q:H b with
   |none=>rfl
   |some u=>
    have e':b=a:=hA b (by rw[q]; simp)
    subst e'
    rw[hK (by rw[q]; simp)]at e; cases e)
  have hM:Mod K mg (hidT s₁.heap H):=⟨hKb,nsK hns,⟨mb,nsK hb,hbb⟩,let ⟨mc,h1,h2⟩:=hlim; ⟨mc,nsK h1,h2⟩⟩
  have e0:Env0 P w K mg (hidT s₁.heap H) callerA [] s₁ H:=⟨rfl,hM,fun b o e=>ql8 e,Nat.le_of_eq (qfl _ _),trivial,fun b hb=>absurd (show b∈([]:List Addr) from hb) (by simp),hok,.of_eq hg⟩
  refine codeAny_mono ((F _ hKb (nsK hns)).run callerA [] s₁ H ⟨[.ref a],[]⟩ [.ref a] [.ref a] _ _ hr e0 (hbind s₁ (.ref a)) (.cons rfl .nil) (hsp H hO hS)) fun r s' h=>?_
  cases r with
  |error e=>exact(hCX H e s' h).elim
  |ok fl=>
   cases fl with
   |next=>exact False.elim h
   |brk=>exact False.elim h
   |cont=>exact False.elim h
   |ret u=>
    obtain⟨v,H',os,bare,un,hok',r',q⟩:=h
    have q':v=.bl true:=q
    subst q'
    obtain rfl:u=Value.bool true:=r'
    refine⟨rfl,OldK.of_keep fun b o e=>?_,os,bare⟩
    cases q:H b with
    |none=>exact un.keep b o e q (by intro z; exact absurd (show b∈([]:List Addr) from z) (by simp)) (by simp)
    |some u=>
     rcases hO b with z|⟨ob,xs,z⟩
     ·rw[q]at z; cases z
     ·have z2:=un.frzs b ob _ z
      obtain⟨e1,_⟩:=hok b _ z
      obtain⟨e2,_⟩:=hok' b _ z2
      rw[e]at e1; cases e1
      exact e2
 cases hk:K.lookup a with
 |some o=>
  have e:=KX a o hk
  rw[ha]at e
  cases e
  refine core (fun _=>none) (fun _=>.inl rfl) (.inr ⟨_,vs.toArray,_,hk,rfl,rfl,rfl,by rw[Qqa,lenV]; exact hl,by simpa using rv⟩) (fun b u z=>by have z':(none:Option HO)=some u:=z; cases z') (fun b z=>absurd rfl z) fun z=>absurd rfl z
 |none=>
  refine core (fun b=>if b=a then some (.frz { cls:=.type "list",data:=.seq vs.toArray } (.lst (ns.map V.int))) else none) (fun b=>?_) (.inl (.inr ⟨{ cls:=.type "list",data:=.seq vs.toArray },if_pos rfl⟩)) (fun b u z=>?_) (fun b z=>?_) fun _=>hk
  ·by_cases hb:b=a
   ·exact .inr ⟨_,_,if_pos hb⟩
   ·exact .inl (if_neg hb)
  ·by_cases hb:b=a
   ·have z':=(if_pos hb).symm.trans z
    cases z'
    subst hb
    exact⟨ha,by rw[Qqj]; exact hl,vs,_,rv,ha⟩
   ·have z':=(if_neg hb).symm.trans z
    cases z'
  ·by_cases hb:b=a
   ·exact hb
   ·exact absurd (if_neg hb) z
end L2
namespace L2
open PySem PySem.Spec PyProof.Rows
theorem walk_of{l:PySem.W.OpenLaw}{n k:Nat}{q:Program}{loose:List Str}{XP:(Str→Option Value)→Heap→Prop}{YP:World→Heap→Prop}{d:DefRec}{K:Params→Qqq}{CX:World→CXT}{sp:World→Sp}{x:Str}
  (hn:l.most=some n) (hn2:n≤sizeLine) (hdf:d.params.defaults=[]) (hr:Room k callerA)
  (hY:∀ (w:World) (h:Heap),YP w h→(K w.params).In h)
  (F:∀ (w:World) (mg:Str→Option Value) (fa:Addr) (h:Heap),(K w.params).In h→h.Ns mainGlobals mg→mg d.name=some (.ref fa)→
   ∃ fd:FuncData,(∀ (s:Shared) (u:Value),BindsTo s fd ⟨[u],[]⟩ [(x,u)])∧
    ∀ base:Heap,(K w.params).In base→base.Ns mainGlobals mg→FnOk l.prog w (K w.params) mg base (CX w) k fa fd [x] (sp w))
  (hsp:∀ (w:World) (H:Hp) (a:Addr) (ns:List Int),ns.length≤n→Only H→SqL (K w.params) H a (ns.map V.int)→sp w [.ref a] H (fun v _=>v=.bl true) fun _ _ _=>False)
  (hCX:∀ (w:World) (H:Hp) (s:Shared) (e:Value) (s':Shared),CX w [] H s (fun _ _ _=>False) e s'→False) :
  PySem.W.WalkO q loose XP YP l.row.toRowW d [] (fun f vs=>PySem.call f vs):=by
 refine Att.attach_call hn hdf fun w s₀ s₁ mg mb fa o pm cd doc a vs ns G Y ho hd hcd hmg hobj hints hlen hg=>?_
 have KX:=hY w _ Y
 obtain⟨fd,hb,hF⟩:=F w mg fa _ KX G.T.g hmg
 exact qhd KX G.T.g G.T.b G.T.builtins G.T.nolimit hg hobj hints (Qq9 hlen hn2) hr hF hb (fun H hO hS=>hsp w H a ns hlen hO hS) fun H e s'=>hCX w H s₁ e s'
end L2
namespace L2
open PySem PySem.Spec PyProof.Rows
noncomputable def qq9(s:Stmt):Arguments:=match s with
 |.FunctionDef _ a _ _ _ _ _ _ _ _=>a
 |_=>{ posonlyargs:=[],args:=[],vararg:=none,kwonlyargs:=[],kw_defaults:=[],kwarg:=none,defaults:=[] }
noncomputable def qzv(s:Stmt):List Stmt:=match s with
 |.FunctionDef _ _ b _ _ _ _ _ _ _=>b
 |_=>[]
noncomputable def qzq(s:Stmt):Scope:=match s with
 |.FunctionDef _ _ _ _ _ _ sc _ _ _=>sc
 |_=>{ kind:=.function,names:=[],isGenerator:=false,isCoroutine:=false }
noncomputable abbrev CX0:CXT:=fun _ _ _ _ _ _=>False
noncomputable abbrev E0:XK:=fun _ _ _=>False
theorem pass0{X:Cx}:qc3 CX0 X E0:=fun _ _ _ _ _ _ _ h=>h.elim
structure Fun (K:Qqq) (x qual:Str) (st:Stmt) (f:Addr) (fd:FuncData):Prop where
 ex:∃ (oc:Value) (od:Option Addr) (kV doc pm:Value) (an:Option Addr) (cdv ct:Value) (osl:Array (Option Value)),
  fd=PySem.W.fnOf x qual (qq9 st) (qzv st) (qzq st) .none kV doc pm an cdv ct∧K.lookup f=some ⟨oc,od,.func fd,osl⟩∧PySem.W.codeIn K cdv qual=true
 kp:Qzw K (.ref f)=true
section
variable {P:Program}{w:World}{K:Qqq}{mg:Str→Option Value}{base:Heap}
theorem Fun.ok{x qual:Str}{st:Stmt}{f:Addr}{fd:FuncData}{N ps:List Str}{k:Nat}{sp:Sp}(F:Fun K x qual st f fd)(S:FnScope N ps (qzq st))(len:∀ vs H Q E,sp vs H Q E→vs.length=ps.length)
  (hbody:∀ (cdv:Value) (A:Around) (outer:List Env) (s:Shared) (H:Hp) (vs:List V) (Q:VK) (E:XK),Room k (A.deeper (envOfC qual (qzq st) s.heap.objs.size f cdv))→sp vs H Q E→
   ∃ t,PSs (cxOf CX0 P w K mg base N qual (qzq st) f cdv A outer s H E).nox (qzv st) t∧t { nx:=fun _ H'=>Q .non H',rt:=Q } (start N vs) H):FnOk P w K mg base CX0 (k+1) f fd ps sp:=by
 obtain⟨oc,od,kV,doc,pm,an,cdv,ct,osl,rfl,lk,hcd⟩:=F.ex
 refine fn_of lk hcd S len fun A outer s H vs Q E hr hsp=>?_
 obtain⟨t,h,q⟩:=hbody cdv A outer s H vs Q E hr hsp
 exact⟨t,h.nox,q⟩
theorem Fun.binds{x qual:Str}{st:Stmt}{f:Addr}{fd:FuncData}{ps:List Str}(F:Fun K x qual st f fd)
  (h:∀ (kV doc pm:Value) (an:Option Addr) (cdv ct:Value) (us:List Value),us.length=ps.length→bindArgs (PySem.W.fnOf x qual (qq9 st) (qzv st) (qzq st) .none kV doc pm an cdv ct) ⟨us,[]⟩=pure (ps.zip us)):Binds K fd ps []:=by
 obtain⟨oc,od,kV,doc,pm,an,cdv,ct,osl,rfl,lk,hcd⟩:=F.ex
 exact .all (h kV doc pm an cdv ct)
theorem qy8{x qual:Str}{st:Stmt}{f:Addr}{oc:Value}{od an:Option Addr}{osl:Array (Option Value)}{kV doc pm cdv ct:Value}(l:K.lookup f=some ⟨oc,od,.func (PySem.W.fnOf x qual (qq9 st) (qzv st) (qzq st) .none kV doc pm an cdv ct),osl⟩)
  (c:PySem.W.codeIn K cdv qual=true) (k:Qzw K (.ref f)=true):Fun K x qual st f (PySem.W.fnOf x qual (qq9 st) (qzv st) (qzq st) .none kV doc pm an cdv ct):=⟨⟨oc,od,kV,doc,pm,an,cdv,ct,osl,rfl,l,c⟩,k⟩
end
theorem qex{n:Nat}(h:n≤1000):n<sizeLine:=Nat.lt_of_le_of_lt h (by decide)
section
variable {X:Cx}
theorem pv(i:Nat){x:Str}{pos:Pos}(hN:X.N[i]?=some x)(hv:Vis X.env.scope x)(hd:(x==("__debug__" : Str))=false:=by decide)
  (hcd:(x==("__classdict__" : Str))=false:=by decide):PE X (.Name x pos) (tVar i):=qcq hN hv hd hcd
end
theorem iteF{A B:Prop}(h:B):if false=true then A else B:=by
 rw[if_neg Qqg]
 exact h
theorem iteT{A B:Prop}(h:A):if true=true then A else B:=by
 rw[if_pos rfl]
 exact h
def Same(H H':Hp):Prop:=∀ b o,H b=some o→H' b=some o
theorem Same.refl(H:Hp):Same H H:=fun _ _ h=>h
theorem Same.trans{H H1 H2:Hp}(a:Same H H1)(b:Same H1 H2):Same H H2:=fun c o h=>b c o (a c o h)
theorem Same.free{H H':Hp}(e:Same H H'){l:Addr}(h:H' l=Option.none):H l=Option.none:=by
 cases q:H l with
 |none=>rfl
 |some o=>
  rw[e l o q]at h
  cases h
theorem Same.seq{K:Qqq}{H H':Hp}{a:Addr}{xs:List V}(e:Same H H')(h:SqL K H a xs):SqL K H' a xs:=by
 rcases h with (h|⟨o,h⟩)|h
 ·exact .inl (.inl (e _ _ h))
 ·exact .inl (.inr ⟨o,e _ _ h⟩)
 ·exact .inr h
end L2
end
section
namespace L2
open PySem PySem.Spec PyProof.Rows
section
variable {κ:Type} [DecidableEq κ]
noncomputable def valV(kvs:List (κ×V))(k:κ):Option V:=(kvs.find? fun kv=>decide (kv.1=k)).map (·.2)
noncomputable def putK(kvs:List (κ×V))(k:κ)(v:V):List (κ×V):=
 if (kvs.any fun kv=>decide (kv.1=k))=true then kvs.map (fun kv=>if kv.1=k then(kv.1,v) else kv) else kvs++[(k,v)]
noncomputable def dropK(kvs:List (κ×V))(k:κ):List (κ×V):=kvs.filter fun kv=>decide (kv.1≠k)
theorem qkr{p:κ×V}{r:List (κ×V)}{k:κ}(e:p.1=k):valV (p::r) k=some p.2:=by simp[valV,Qzq,e]
theorem qks{p:κ×V}{r:List (κ×V)}{k:κ}(e:¬ p.1=k):valV (p::r) k=valV r k:=by simp[valV,Qzq,e]
theorem qb2(k:κ):∀ kvs:List (κ×V),(kvs.any fun kv=>decide (kv.1=k))=(valV kvs k).isSome
 |[]=>rfl
 |p::r=>by
  rw[Qq2]
  by_cases e:p.1=k
  ·simp only[qkr e,decide_eq_true e,Bool.true_or,Option.isSome_some]
  ·rw[qks e,decide_eq_false e,Qxg]; exact qb2 k r
theorem qjj(kvs:List (κ×V))(k:κ)(v:V):(putK kvs k v).length≤kvs.length+1:=by
 unfold putK
 split
 ·rw[Qqj]; omega
 ·rw[Qqu,Qqv,Qz8]; omega
theorem RelO.isSome_eq{o:Option V}{u:Option Value}(r:RelO o u):o.isSome=u.isSome:=by
 cases o with
 |none=>cases u with
  |none=>rfl
  |some _=>exact(show False from r).elim
 |some _=>cases u with
  |none=>exact(show False from r).elim
  |some _=>rfl
theorem RelO.getD{o:Option V}{u:Option Value}{d:V}{d':Value}(r:RelO o u)(rd:RelV d d'):RelV (o.getD d) (u.getD d'):=by
 cases o with
 |none=>cases u with
  |none=>exact rd
  |some _=>exact(show False from r).elim
 |some _=>cases u with
  |none=>exact(show False from r).elim
  |some _=>exact r
theorem KV.val{kvs:List (κ×V)}{vs:List (κ×Value)}(r:KV kvs vs)(k:κ):RelO (valV kvs k) (valueAt vs k):=by
 unfold KV at r
 induction r with
 |nil=>exact True.intro
 |@cons p q ps qs h t ih=>
  obtain⟨h1,h2⟩:=h
  by_cases e:p.1=k
  ·have e':q.1=k:=h1.symm.trans e
   have b:valueAt (q::qs) k=some q.2:=by simp[valueAt,Qzq,e']
   rw[qkr e,b]; exact h2
  ·have e':¬ q.1=k:=fun z=>e (h1.trans z)
   have b:valueAt (q::qs) k=valueAt qs k:=by simp[valueAt,Qzq,e']
   rw[qks e,b]; exact ih
theorem KV.any{kvs:List (κ×V)}{vs:List (κ×Value)}(r:KV kvs vs)(k:κ):(kvs.any fun kv=>decide (kv.1=k))=vs.any fun kv=>decide (kv.1=k):=by
 unfold KV at r
 induction r with
 |nil=>rfl
 |cons h t ih=>rw[Qq2,Qq2,ih,h.1]
theorem KV.repl{kvs:List (κ×V)}{vs:List (κ×Value)}(r:KV kvs vs)(k:κ){y:V}{u:Value}(ry:RelV y u):
  KV (kvs.map fun kv=>if kv.1=k then(kv.1,y) else kv) (vs.map fun kv=>if kv.1=k then(kv.1,u) else kv):=by
 unfold KV at r ⊢
 induction r with
 |nil=>exact .nil
 |@cons p q ps qs h t ih=>
  rw[Qqt,Qqt]
  refine .cons ?_ ih
  obtain⟨h1,h2⟩:=h
  by_cases e:p.1=k
  ·rw[if_pos e,if_pos (h1.symm.trans e)]; exact⟨h1,ry⟩
  ·rw[if_neg e,if_neg (fun z=>e (h1.trans z))]; exact⟨h1,h2⟩
theorem KV.put{kvs:List (κ×V)}{vs:List (κ×Value)}(r:KV kvs vs)(k:κ){y:V}{u:Value}(ry:RelV y u):KV (putK kvs k y) (stored vs k u):=by
 unfold putK stored
 rw[r.any k]
 by_cases e:(vs.any fun kv=>decide (kv.1=k))=true
 ·rw[if_pos e,if_pos e]; exact r.repl k ry
 ·rw[if_neg e,if_neg e]; exact Paired.snoc r ⟨rfl,ry⟩
theorem KV.drop{kvs:List (κ×V)}{vs:List (κ×Value)}(r:KV kvs vs)(k:κ):KV (dropK kvs k) (without vs k):=by
 unfold KV at r ⊢
 unfold dropK without
 induction r with
 |nil=>exact .nil
 |@cons p q ps qs h t ih=>
  obtain⟨h1,h2⟩:=h
  rw[List.filter_cons,List.filter_cons]
  by_cases e:p.1=k
  ·have a:¬ decide (p.1≠k)=true:=by simp[e]
   have b:¬ decide (q.1≠k)=true:=by simp[h1.symm.trans e]
   rw[if_neg a,if_neg b]; exact ih
  ·have e':¬ q.1=k:=fun z=>e (h1.trans z)
   have a:decide (p.1≠k)=true:=by simp[e]
   have b:decide (q.1≠k)=true:=by simp[e']
   rw[if_pos a,if_pos b]; exact .cons ⟨h1,h2⟩ ih
theorem KV.keys{kvs:List (κ×V)}{vs:List (κ×Value)}(r:KV kvs vs):kvs.map (·.1)=vs.map (·.1):=by
 unfold KV at r
 induction r with
 |nil=>rfl
 |cons h t ih=>rw[Qqt,Qqt,ih,h.1]
theorem KV.length{kvs:List (κ×V)}{vs:List (κ×Value)}(r:KV kvs vs):kvs.length=vs.length:=Paired.length r
end
theorem qw1{P:Program}{w:World}{k:Key}{u:Value}(r:RelV (kV k) u):(mixKind P w).is k u=true:=by
 cases k with
 |inl i=>obtain⟨t,e⟩:=(show ∃ t,u=Value.int i t from r); subst e; exact qbv P w i t
 |inr x=>obtain⟨t,e⟩:=(show ∃ t,u=Value.str x t from r); subst e; exact qjx P w x t
theorem qy2{P:Program}{w:World}:∀ {ks:List Key}{us:List Value},Vals (ks.map kV) us→ItemsAre (mixKind P w) ks us
 |[],_,r=>by rw[Qxr]at r; cases r; exact .nil
 |k::ks,_,r=>by
  rw[Qqt]at r
  cases r with
  |cons h t=>exact .cons (qw1 h) (qy2 t)
abbrev KT(H:Hp):List (List Key×V)→List (List Key×Addr×Value)→Prop:=Paired fun p q=>p.1=q.1∧H q.2.1=some (.tup (p.1.map kV))∧RelV p.2 q.2.2
theorem KT.val{H:Hp}{kvs:List (List Key×V)}{xs:List (List Key×Addr×Value)}(r:KT H kvs xs)(k:List Key):RelO (valV kvs k) ((atKey xs k).map (·.2)):=by
 induction r with
 |nil=>exact True.intro
 |@cons p q ps qs h t ih=>
  obtain⟨h1,_,h2⟩:=h
  by_cases e:p.1=k
  ·have e':q.1=k:=h1.symm.trans e
   have b:atKey (q::qs) k=some q.2:=by simp[atKey,Qzq,e']
   rw[qkr e,b]; exact h2
  ·have e':¬ q.1=k:=fun z=>e (h1.trans z)
   have b:atKey (q::qs) k=atKey qs k:=by simp[atKey,Qzq,e']
   rw[qks e,b]; exact ih
theorem KT.repl{H:Hp}{kvs:List (List Key×V)}{xs:List (List Key×Addr×Value)}(r:KT H kvs xs)(k:List Key){y:V}{u:Value}(ry:RelV y u):
  KT H (kvs.map fun kv=>if kv.1=k then(kv.1,y) else kv) (xs.map (putAt k u)):=by
 induction r with
 |nil=>exact .nil
 |@cons p q ps qs h t ih=>
  rw[Qqt,Qqt]
  refine .cons ?_ ih
  obtain⟨h1,h2,h3⟩:=h
  unfold putAt
  by_cases e:p.1=k
  ·rw[if_pos e,if_pos (h1.symm.trans e)]; exact⟨h1,h2,ry⟩
  ·rw[if_neg e,if_neg (fun z=>e (h1.trans z))]; exact⟨h1,h2,h3⟩
theorem KT.put{H:Hp}{kvs:List (List Key×V)}{xs:List (List Key×Addr×Value)}(r:KT H kvs xs)(k:List Key){b:Addr}{y:V}{u:Value}(hb:H b=some (.tup (k.map kV)))(ry:RelV y u):
  KT H (putK kvs k y) (storedH xs k b u):=by
 have e:(kvs.any fun kv=>decide (kv.1=k))=(atKey xs k).isSome:=by
  rw[qb2,(r.val k).isSome_eq,Qxl]
 unfold putK storedH
 rw[e]
 by_cases q:(atKey xs k).isSome=true
 ·rw[if_pos q,if_pos q]; exact r.repl k ry
 ·rw[if_neg q,if_neg q]; exact Paired.snoc r ⟨rfl,hb,ry⟩
theorem KT.keeps{H H':Hp}{kvs:List (List Key×V)}{xs:List (List Key×Addr×Value)}(r:KT H kvs xs)(ht:∀ b ys,H b=some (.tup ys)→H' b=some (.tup ys)):KT H' kvs xs:=
 Paired.mapP r fun _ _ z=>⟨z.1,ht _ _ z.2.1,z.2.2⟩
section
variable {P:Program}{w:World}{H:Hp}{h:Heap}{a:Addr}
theorem rd_of{u:HO}(ok:HOk P w H h)(e:Rd H a u):ObjOk P w H h a u:=e.ok ok
theorem qf0{kvs:List (Key×V)}(ok:HOk P w H h)(e:Rd H a (.dK kvs)):kvs.length≤sizeLine∧(a==sysModules)=false∧∃ vs,KV kvs vs∧h.DictOf (mixKind P w) a vs:=
 show ObjOk P w H h a (.dK kvs) from rd_of ok e
theorem dk_of{kvs:List (Key×V)}(ok:HOk P w H h)(e:H a=some (.dK kvs)):kvs.length≤sizeLine∧(a==sysModules)=false∧∃ vs,KV kvs vs∧h.DictOf (mixKind P w) a vs:=qf0 ok (.inl e)
theorem qjm{ks:List Key}(ok:HOk P w H h)(e:H a=some (.tup (ks.map kV))):(tupleKind (mixKind P w)).is h ks a:=by
 obtain⟨_,its,r,o,h1,h2,n,h3⟩:=(show ObjOk P w H h a (.tup (ks.map kV)) from ok a _ e)
 exact⟨o,its.toArray,n,h1,h2,h3,by simpa using qy2 r⟩
theorem qfu{kvs:List (List Key×V)}(ok:HOk P w H h)(e:Rd H a (.dT kvs)):kvs.length≤sizeLine∧(a==sysModules)=false∧
  ∃ xs,KT H kvs xs∧h.DictOfH (tupleKind (mixKind P w)) a xs:=by
 obtain⟨z,y,xs,r,o,es,ep,h1,h2,h3,h4,h5⟩:=(show ObjOk P w H h a (.dT kvs) from rd_of ok e)
 refine⟨z,y,xs,r,o,es,ep,h1,h2,h3,h4,fun x hx=>?_,h5⟩
 have all:∀ {l:List (List Key×V)}{m:List (List Key×Addr×Value)},KT H l m→∀ x∈m,(tupleKind (mixKind P w)).is h x.1 x.2.1:=by
  intro l m q
  induction q with
  |nil=>intro x hx; exact nomatch hx
  |@cons p q ps qs hq t ih=>
   intro x hx
   rcases Qqw.mp hx with e|hx
   ·subst e
    exact qjm ok (by rw[← hq.1]; exact hq.2.1)
   ·exact ih x hx
 exact all r x hx
theorem dt_of{kvs:List (List Key×V)}(ok:HOk P w H h)(e:H a=some (.dT kvs)):kvs.length≤sizeLine∧(a==sysModules)=false∧
  ∃ xs,KT H kvs xs∧h.DictOfH (tupleKind (mixKind P w)) a xs:=qfu ok (.inl e)
end
def DGet(H:Hp)(a:Addr)(y:V)(r:Option V):Prop:=
 (∃ kvs k,Rd H a (.dK kvs)∧y=kV k∧r=valV kvs k)∨∃ kvs k b,Rd H a (.dT kvs)∧y=.ref b∧H b=some (.tup (k.map kV))∧r=valV kvs k
def DPut(H:Hp)(a:Addr)(y v:V)(H':Hp):Prop:=
 (∃ kvs k,H a=some (.dK kvs)∧y=kV k∧kvs.length<sizeLine∧H'=upd H a (.dK (putK kvs k v)))∨
 ∃ kvs k b,H a=some (.dT kvs)∧y=.ref b∧H b=some (.tup (k.map kV))∧kvs.length<sizeLine∧H'=upd H a (.dT (putK kvs k v))
theorem DGet.k{H:Hp}{a:Addr}{kvs:List (Key×V)}{k:Key}(e:H a=some (.dK kvs)):DGet H a (kV k) (valV kvs k):=.inl ⟨kvs,k,.inl e,rfl,rfl⟩
theorem DGet.t{H:Hp}{a b:Addr}{kvs:List (List Key×V)}{k:List Key}(e:H a=some (.dT kvs))(eb:H b=some (.tup (k.map kV))):DGet H a (.ref b) (valV kvs k):=.inr ⟨kvs,k,b,.inl e,rfl,eb,rfl⟩
theorem DPut.k{H:Hp}{a:Addr}{kvs:List (Key×V)}{k:Key}{v:V}(e:H a=some (.dK kvs))(hl:kvs.length<sizeLine):DPut H a (kV k) v (upd H a (.dK (putK kvs k v))):=.inl ⟨kvs,k,e,rfl,hl,rfl⟩
theorem DPut.t{H:Hp}{a b:Addr}{kvs:List (List Key×V)}{k:List Key}{v:V}(e:H a=some (.dT kvs))(eb:H b=some (.tup (k.map kV)))(hl:kvs.length<sizeLine):
  DPut H a (.ref b) v (upd H a (.dT (putK kvs k v))):=.inr ⟨kvs,k,b,e,rfl,eb,hl,rfl⟩
section
variable {X:Cx}{pins:List (Addr×Obj)}{σ:St}{H:Hp}{s:Shared}{a:Addr}{y v:V}{u r:Value}{o:Option V}{A:Around}{E:Value→Shared→Prop}
theorem Inv.big(I:Inv X pins σ H s):sysModules<s.heap.objs.size:=by
 have h:mainGlobals<s.heap.objs.size:=(I.mod.glob.keeps I.bk).lt
 exact Nat.lt_trans (by decide) h
theorem d_in{Q:Value→Shared→Prop}(hu:A.units+1<cLine)(I:Inv X pins σ H s)(g:DGet H a y o)(ry:RelV y u)(h:∀ s',Inv X pins σ H s'→Q (.bool o.isSome) s'):
  wpAny (model X.prog X.w) A (compareOp .In u (.ref a)) Q E s:=by
 rcases g with⟨kvs,k,e,ey,l⟩|⟨kvs,k,b,e,ey,eb,l⟩
 ·subst ey
  obtain⟨z,hd,vs,rel,dd⟩:=qf0 I.hok e
  refine wpAny_in_of (qw1 ry) hd dd.mapOf ?_
  rw[← (rel.val k).isSome_eq,← l]
  exact h _ (I.tok _)
 ·subst ey
  cases (show u=Value.ref b from ry)
  obtain⟨z,hd,xs,rel,dd⟩:=qfu I.hok e
  refine wpAny_in_heap (tupleKind_room_in1 hu) (qjm I.hok eb) hd dd ?_
  have q:=(rel.val k).isSome_eq
  rw[Qxl]at q
  rw[← q,← l]
  exact h _ (I.tok _)
theorem qmi{Q:Value→Shared→Prop}(hu:A.units+1<cLine)(I:Inv X pins σ H s)(g:DGet H a y o)(ry:RelV y u)(h:∀ s',Inv X pins σ H s'→Q (.bool (!o.isSome)) s'):
  wpAny (model X.prog X.w) A (compareOp .NotIn u (.ref a)) Q E s:=by
 rcases g with⟨kvs,k,e,ey,l⟩|⟨kvs,k,b,e,ey,eb,l⟩
 ·subst ey
  obtain⟨z,hd,vs,rel,dd⟩:=qf0 I.hok e
  refine wpAny_notIn_of (qw1 ry) hd dd.mapOf ?_
  rw[← (rel.val k).isSome_eq,← l]
  exact h _ (I.tok _)
 ·subst ey
  cases (show u=Value.ref b from ry)
  obtain⟨z,hd,xs,rel,dd⟩:=qfu I.hok e
  refine wpAny_notIn_heap (tupleKind_room_in1 hu) (qjm I.hok eb) hd dd ?_
  have q:=(rel.val k).isSome_eq
  rw[Qxl]at q
  rw[← q,← l]
  exact h _ (I.tok _)
theorem qbd{h':Heap}{t':Nat}{ob:HO}(I:Inv X pins σ H s)(mu:Mut (H a))(hs:Heap.SameBut a s.heap h')(he:∃ q,h'.get? a=some q)(new:ObjOk X.prog X.w (upd H a ob) h' a ob):
  Inv X pins σ (upd H a ob) { s with heap:=h',toks:=t' }:=
 I.write (x:=a) (e:=a) mu (.inl rfl) (fun b q hb z=>(hs.2 b hb).trans z) he new
theorem dk_new{P:Program}{w:World}{H':Hp}{h':Heap}{kvs:List (Key×V)}{vs:List (Key×Value)}(z:kvs.length≤sizeLine)(hd:(a==sysModules)=false)(rel:KV kvs vs)(dd:h'.DictOf (mixKind P w) a vs):
  ObjOk P w H' h' a (.dK kvs):=⟨z,hd,vs,rel,dd⟩
theorem qf2{H':Hp}{Q:Unit→Shared→Prop}(hu:A.units+1<cLine)(I:Inv X pins σ H s)(g:DPut H a y v H')(ry:RelV y u)(rv:RelV v r)(h:∀ s',Inv X pins σ H' s'→Q () s'):
  wpAny (model X.prog X.w) A (setItem (.ref a) u r) Q E s:=by
 rcases g with⟨kvs,k,e,ey,l,eH⟩|⟨kvs,k,b,e,ey,eb,l,eH⟩
 ·subst ey eH
  obtain⟨z,hd,vs,rel,dd⟩:=dk_of I.hok e
  have hz:vs.length≤sizeLine:=by rw[← rel.length]; exact z
  have hl:(putK kvs k v).length≤sizeLine:=by have:=qjj kvs k v; omega
  refine wpAny_setItem_pairs (hsz:=hz) (qw1 ry) dd fun h' dd' hs=>h _ ?_
  have he:∃ q,h'.get? a=some q:=let ⟨q,_,_,hq,_⟩:=dd'; ⟨q,hq⟩
  exact qbd I (by rw[e]; exact True.intro) hs he (dk_new hl hd (rel.put k rv) dd')
 ·subst ey eH
  cases (show u=Value.ref b from ry)
  obtain⟨z,hd,xs,rel,dd⟩:=dt_of I.hok e
  have hz:xs.length≤sizeLine:=by rw[← Paired.length rel]; exact z
  have hl:(putK kvs k v).length≤sizeLine:=by have:=qjj kvs k v; omega
  refine wpAny_setItem_heap (hsz:=hz) (tupleKind_room_in1 hu) (qjm I.hok eb) dd fun h' dd' hs=>h _ ?_
  obtain⟨q,es,ep,hq,h2,h3,h4,_,h5⟩:=dd'
  refine qbd I (by rw[e]; exact True.intro) hs ⟨q,hq⟩ ⟨hl,hd,_,(rel.put k eb rv).keeps fun c ys ec=>?_,q,es,ep,hq,h2,h3,h4,h5⟩
  rw[qzy (qjh ec e (fun z=>nomatch z))]
  exact ec
end
section
variable {X:Cx}{pins:List (Addr×Obj)}{σ:St}{H:Hp}{s:Shared}{a:Addr}{kvs:List (Key×V)}{k:Key}{u:Value}{A:Around}{E:Value→Shared→Prop}
end
def NoSl(i:Expr):Prop:=∀ ov iv,subscripted i false ov iv=operate [ov,iv] (getItem ov iv)
theorem qlq{prog:Program}{w:World}{A:Around}{E:Value→Shared→Prop}{s:Shared}{env:Env}{value slice:Expr}{pos:Pos}{T id:String}{Q:Value→Shared→Prop}
  (hl:typeLookup (.type T) "__getitem__" = pure (some (.builtin id))) (hs:NoSl slice)
  (h:wpAny (model prog w) A (eval value env) (fun o s₁=>wpAny (model prog w) A (eval slice env) (fun i s₂=>s₂.TypeIs o T∧wpAny (model prog w) A (getItem o i) Q E s₂) E s₁) E s) :
  wpAny (model prog w) A (eval (.Subscript value slice pos) env) Q E s:=by
 refine Subscript_ (wpAny_mono h (fun o s₁ h₁=>wpAny_mono h₁ (fun i s₂ h₂=>?_) fun _ _ x=>x) fun _ _ x=>x)
 obtain⟨hT,h₂⟩:=h₂
 unfold subscriptTail
 refine wpAny_bind ?_
 rw[getitemInPython_of_ne hT.not_modules]
 refine wpAny_bind (wpAny_specialOf hT hl ?_)
 have fin:wpAny (model prog w) A (subscripted slice false o i) (fun r s₃=>wpAny (model prog w) A (letTemporaryGo value o r >>= fun _=>pure r) Q E s₃) E s₂:=by
  rw[hs o i]
  exact wpAny_operating (wpAny_mono h₂ (fun r s₃ h₃=>wpAny_bind (wpAny_letTemporaryGo (wpAny_pure h₃))) fun _ _ x=>x)
 first
  |exact wpAny_pure (wpAny_bind fin)
  |exact wpAny_bind (wpAny_pure (wpAny_bind fin))
  |exact wpAny_bind fin
noncomputable def tDIn(ty td:TE):TE:=fun σ H Q=>ty σ H fun y H1=>td σ H1 fun x H2=>∃ a o,x=.ref a∧DGet H2 a y o∧Q (.bl o.isSome) H2
noncomputable def qd5(ty td:TE):TE:=fun σ H Q=>ty σ H fun y H1=>td σ H1 fun x H2=>∃ a o,x=.ref a∧DGet H2 a y o∧Q (.bl (!o.isSome)) H2
noncomputable def sDPut(td ty tv:TE):TS:=fun D σ H=>tv σ H fun v H1=>td σ H1 fun x H2=>ty σ H2 fun y H3=>∃ a H4,x=.ref a∧DPut H3 a y v H4∧D.nx σ H4
section
variable {X:Cx}{o i e value:Expr}{pos pos' tpos:Pos}{td ty tv:TE}
theorem pc_din(hu:X.A.units+1<cLine)(hi:PE X i ty)(ho:PE X o td):PC X .In i o (tDIn ty td):=by
 intro pins s σ H Q I h
 refine thn (hi pins s σ H _ I h) fun iv s1 ⟨y,H1,I1,ry,q1⟩=>thn (ho pins s1 σ H1 _ I1 q1) fun u s2 ⟨x,H2,I2,rx,a,ov,ex,g,q2⟩=>?_
 subst ex
 obtain rfl:u=Value.ref a:=rx
 exact d_in hu I2 g ry fun s3 I3=>⟨.bl ov.isSome,H2,I3,rfl,q2⟩
theorem qer(hu:X.A.units+1<cLine)(hi:PE X i ty)(ho:PE X o td):PC X .NotIn i o (qd5 ty td):=by
 intro pins s σ H Q I h
 refine thn (hi pins s σ H _ I h) fun iv s1 ⟨y,H1,I1,ry,q1⟩=>thn (ho pins s1 σ H1 _ I1 q1) fun u s2 ⟨x,H2,I2,rx,a,ov,ex,g,q2⟩=>?_
 subst ex
 obtain rfl:u=Value.ref a:=rx
 exact qmi hu I2 g ry fun s3 I3=>⟨.bl (!ov.isSome),H2,I3,rfl,q2⟩
theorem qln(hu:X.A.units+1<cLine)(ho:PE X o td)(hi:PE X i ty)(hv:PE X value tv)(hs:swapsWith value (some (.Subscript o i pos')) pos.line X.env=pure false):
  PS X (.Assign [.Subscript o i pos'] value pos) (sDPut td ty tv):=by
 intro pins s σ H D I h
 refine wpAny_Assign_Subscript (thn (hv pins s σ H _ I h) fun r s1 ⟨v,H1,I1,rv,q1⟩=>thn (ho pins s1 σ H1 _ I1 q1) fun u s2 ⟨x,H2,I2,rx,q2⟩=>thn (hi pins s2 σ H2 _ I2 q2) fun iv s3 ⟨y,H3,I3,ry,a,H4,ex,g,q3⟩=>?_) hs
 subst ex
 obtain rfl:u=Value.ref a:=rx
 exact qf2 hu I3 g ry rv fun s4 I4=>⟨σ,H4,I4,q3⟩
end
theorem qht{P:Program}{w:World}{H:Hp}(h:Heap)(hb:sysModules<h.objs.size):ObjOk P w H (h.push { cls:=.type "dict",data:=.dict #[] }) h.objs.size (.dK []):=
 ⟨Qz5 _,beq_eq_false_iff_ne.mpr (Ne.symm (Qq4 hb)),[],.nil,Heap.DictOf.new h⟩
section
variable {X:Cx}{pos:Pos}
end
noncomputable def qb4:List (TE×TE)→St→Hp→(List (V×V)→Hp→Prop)→Prop
 |[],_,H,Q=>Q [] H
 |(tk,tv)::r,σ,H,Q=>tk σ H fun x H1=>tv σ H1 fun y H2=>qb4 r σ H2 fun ps H3=>Q ((x,y)::ps) H3
abbrev VV:List (V×V)→List (Value×Value)→Prop:=Paired fun p q=>RelV p.1 q.1∧RelV p.2 q.2
def PPs(X:Cx)(pos:Pos)(keys:List (Option Expr))(values:List Expr)(trs:List (TE×TE)):Prop:=
 ∀ (pins:List (Addr×Obj)) (s:Shared) (σ:St) (H:Hp) (Q:List (V×V)→Hp→Prop),Inv X pins σ H s→qb4 trs σ H Q→
  wpAny (model X.prog X.w) X.A (evalPairs (pairTrees keys values X.env pos)) (fun vs s'=>∃ ps H',Inv X pins σ H' s'∧VV ps vs∧Q ps H') X.xe s
theorem qlo{X:Cx}{pos:Pos}:PPs X pos [] [] []:=fun pins s σ H Q I h=>pairTrees_nil_walk ⟨[],H,I,.nil,h⟩
theorem qg6{X:Cx}{pos:Pos}{k v:Expr}{ks:List (Option Expr)}{vs:List Expr}{tk tv:TE}{trs:List (TE×TE)}(hk:PE X k tk)(hv:PE X v tv)(hr:PPs X pos ks vs trs):
  PPs X pos (some k::ks) (v::vs) ((tk,tv)::trs):=fun pins s σ H Q I h=>
 pairTrees_cons_walk (thn (hk pins s σ H _ I h) fun u s1 ⟨x,H1,I1,rx,q1⟩=>thn (hv pins s1 σ H1 _ I1 q1) fun w2 s2 ⟨y,H2,I2,ry,q2⟩=>
  thn (hr pins s2 σ H2 _ I2 q2) fun ws s3 ⟨ps,H3,I3,rel,q3⟩=>⟨(x,y)::ps,H3,I3,.cons ⟨rx,ry⟩ rel,q3⟩)
noncomputable def qv8(kvs more:List (Key×V)):List (Key×V):=more.foldl (fun acc kv=>putK acc kv.1 kv.2) kvs
theorem KV.merge:∀ {more:List (Key×V)}{rs:List (Key×Value)}{kvs:List (Key×V)}{vs:List (Key×Value)},KV more rs→KV kvs vs→KV (qv8 kvs more) (merged vs rs):=by
 intro more rs kvs vs r
 unfold KV at r
 induction r generalizing kvs vs with
 |nil=>intro q; exact q
 |@cons p q ps qs h t ih=>
  intro r0
  have e:KV (putK kvs p.1 p.2) (stored vs q.1 q.2):=by
   have:=r0.put p.1 h.2
   rw[← h.1]; exact this
  exact ih e
theorem qjl:∀ (more kvs:List (Key×V)),(qv8 kvs more).length≤kvs.length+more.length
 |[],kvs=>by show kvs.length≤kvs.length+0; omega
 |p::r,kvs=>by
  have h1:=qjl r (putK kvs p.1 p.2)
  have h2:=qjj kvs p.1 p.2
  show(qv8 (putK kvs p.1 p.2) r).length≤_
  rw[Qqv]; omega
theorem qwy{P:Program}{w:World}:∀ {kvs:List (Key×V)}{ws:List (Value×Value)},VV (kvs.map fun kv=>(kV kv.1,kv.2)) ws→∃ rs,Carries (mixKind P w) ws rs∧KV kvs rs
 |[],_,r=>by rw[Qxr]at r; cases r; exact⟨[],True.intro,.nil⟩
 |p::kvs,_,r=>by
  rw[Qqt]at r
  cases r with
  |@cons a b as bs h t=>
   obtain⟨rs,c,q⟩:=qwy (P:=P) (w:=w) t
   obtain⟨b1,b2⟩:=b
   exact⟨(p.1,b2)::rs,⟨qw1 h.1,rfl,c⟩,.cons ⟨rfl,h.2⟩ q⟩
noncomputable def tDisp(trs:List (TE×TE)):TE:=fun σ H Q=>∀ p,H p=none→qb4 trs σ (upd H p (.dK [])) fun ps H2=>H2 p=some (.dK [])∧∃ kvs:List (Key×V),ps=kvs.map (fun kv=>(kV kv.1,kv.2))∧kvs.length≤15∧Q (.ref p) (upd H2 p (.dK (qv8 [] kvs)))
theorem qlu{X:Cx}{pos:Pos}{keys:List (Option Expr)}{values:List Expr}{trs:List (TE×TE)}(h:PPs X pos keys values trs)(hall:keys.all (·.isSome)=true)(hl:keys.length=values.length)(h0:keys≠[])
  (h15:keys.length≤15):PE X (.Dict keys values pos) (tDisp trs):=by
 intro pins s σ H Q I q
 have hn:=I.hok.fresh (Qqc s.heap.objs.size)
 have I1:=I.laid (a:=s.heap.objs.size) (o:=.dK []) (h':=s.heap.push { cls:=.type "dict",data:=.dict #[] }) (t':=s.toks) (fun _ _ q=>Qqb _ q) (Qqc _) (qht s.heap I.big)
 refine wpAny_Dict_walk (knd:=mixKind X.prog X.w) hall hl h0 h15 (thn (h pins _ σ _ _ I1 (q _ hn)) fun ws s2 ⟨ps,H2,I2,rel,e,kvs,ep,lk,q2⟩=>?_)
 subst ep
 obtain⟨rs,c,rk⟩:=qwy (P:=X.prog) (w:=X.w) rel
 obtain⟨z,hd,vs0,r0,dd⟩:=dk_of I2.hok e
 cases r0
 refine⟨rs,c,dd,fun h' dd' hs=>⟨.ref s.heap.objs.size,_,?_,rfl,q2⟩⟩
 have hz:(qv8 [] kvs).length≤sizeLine:=by
  have h1:=qjl kvs []
  rw[Qz8]at h1
  rw[sizeLine_eq]; omega
 have he:∃ q,h'.get? s.heap.objs.size=some q:=let ⟨q,_,_,hq,_⟩:=dd'; ⟨q,hq⟩
 exact qbd I2 (by rw[e]; exact True.intro) hs he (dk_new hz hd (rk.merge .nil) dd')
structure M1 (X:Cx) (o:Expr) (m:Str) (apos:Pos) (e:Expr) (cpos:Pos):Prop where
 base:attributeBase o m X.env (eval o X.env)=eval o X.env
 few:((backTo cpos (starEach [e] X.env)).all (fun x=>!x.1)&&(backToKw cpos (keywordEach [] X.env)).all (fun x=>x.1.isSome)
  && decide (([e]:List Expr).length+([]:List Keyword).length+(if ([]:List Keyword).isEmpty then 0 else 1)<30))=true
 line:(apos.endLine==cpos.line)=true
 trees:backTo cpos (starEach [e] X.env)=[(false,eval e X.env)]
structure M2 (X:Cx) (o:Expr) (m:Str) (apos:Pos) (e f:Expr) (cpos:Pos):Prop where
 base:attributeBase o m X.env (eval o X.env)=eval o X.env
 few:((backTo cpos (starEach [e,f] X.env)).all (fun x=>!x.1)&&(backToKw cpos (keywordEach [] X.env)).all (fun x=>x.1.isSome)
  && decide (([e,f]:List Expr).length+([]:List Keyword).length+(if ([]:List Keyword).isEmpty then 0 else 1)<30))=true
 line:(apos.endLine==cpos.line)=true
 trees:backTo cpos (starEach [e,f] X.env)=[(false,eval e X.env),(false,eval f X.env)]
def IsD(H:Hp)(a:Addr):Prop:=(∃ kvs,Rd H a (.dK kvs))∨∃ kvs,Rd H a (.dT kvs)
theorem isD_at{X:Cx}{pins:List (Addr×Obj)}{σ:St}{H:Hp}{s:Shared}{a:Addr}(I:Inv X pins σ H s)(d:IsD H a):
  s.TypeIs (.ref a) "dict"∧(∀ b,Value.ref a=.ref b→∃ ob,s.heap.get? b=some ob∧ob.dict=none)∧(a==sysModules)=false:=by
 rcases d with⟨kvs,e⟩|⟨kvs,e⟩
 ·obtain⟨_,hd,vs,_,dd⟩:=qf0 I.hok e
  refine⟨dd.typeIs,fun b q=>?_,hd⟩
  cases q
  obtain⟨ob,_,_,h1,h2,_⟩:=dd
  exact⟨ob,h1,h2.2.1⟩
 ·obtain⟨_,hd,xs,_,dd⟩:=qfu I.hok e
  refine⟨dd.typeIs,fun b q=>?_,hd⟩
  cases q
  obtain⟨ob,_,_,h1,h2,_⟩:=dd
  exact⟨ob,h1,h2.2.1⟩
section
variable {X:Cx}{pins:List (Addr×Obj)}{σ:St}{H:Hp}{s:Shared}{a:Addr}{y d:V}{u r:Value}{o:Option V}{A:Around}{E:Value→Shared→Prop}
theorem d_get1{Q:Value→Shared→Prop}(hu:A.units+1<cLine)(I:Inv X pins σ H s)(g:DGet H a y o)(ry:RelV y u)(h:∀ w' s',Inv X pins σ H s'→RelV (o.getD .non) w'→Q w' s'):
  wpAny (model X.prog X.w) A (call (.builtin "dict.get") [.ref a,u]) Q E s:=by
 rcases g with⟨kvs,k,e,ey,l⟩|⟨kvs,k,b,e,ey,eb,l⟩
 ·subst ey
  obtain⟨z,hd,vs,rel,dd⟩:=qf0 I.hok e
  refine call_meetsIn PySem.F.slot_dict_get dd.typeIs PySem.F.entry_dict_get (PySem.F.args_dict_get_2 _ _) (meets_dict_get (mixKind X.prog X.w) a (qw1 ry) hd) ⟨_,dd.mapOf,h _ _ (I.tok _) ?_⟩
  rw[l]
  exact(rel.val k).getD rfl
 ·subst ey
  cases (show u=Value.ref b from ry)
  obtain⟨z,hd,xs,rel,dd⟩:=qfu I.hok e
  refine call_meetsIn PySem.F.slot_dict_get dd.typeIs PySem.F.entry_dict_get (PySem.F.args_dict_get_2 _ _) (meetsH_dict_get (tupleKind (mixKind X.prog X.w)) a b hd) ⟨tupleKind_room_in1 hu,k,xs,qjm I.hok eb,dd,h _ _ (I.tok _) ?_⟩
  rw[l]
  exact(rel.val k).getD rfl
end
noncomputable def tDGet1(td ty:TE):TE:=fun σ H Q=>td σ H fun x H1=>∃ a,x=.ref a∧IsD H1 a∧ty σ H1 fun y H2=>∃ o,DGet H2 a y o∧Q (o.getD .non) H2
section
variable {X:Cx}{o e f:Expr}{apos cpos:Pos}{td ty tx:TE}
theorem qhx(hu:X.A.units+1<cLine)(ho:PE X o td)(he:PE X e ty)(m:M1 X o "get" apos e cpos):PE X (.Call (.Attribute o "get" apos) [e] [] cpos) (tDGet1 td ty):=by
 intro pins s σ H Q I h
 refine wpAny_Call_method m.base m.few m.line PySem.F.plainAttrs_dict PySem.F.slot_dict_get PySem.F.type_dict_get (thn (ho pins s σ H _ I h) fun u s1 ⟨x,H1,I1,rx,a,ex,d,q1⟩=>?_)
 subst ex
 obtain rfl:u=Value.ref a:=rx
 obtain⟨t1,t2,_⟩:=isD_at I1 d
 refine⟨t1,t2,?_⟩
 rw[m.trees]
 refine Calls.callWith_builtin rfl (Calls.evalArgs_plain (Calls.spliced_cons (thn (he pins s1 σ H1 _ I1 q1) fun iv s2 ⟨y,H2,I2,ry,ov,g,q2⟩=>Calls.spliced_nil ?_)))
 exact d_get1 hu I2 g ry fun w' s3 I3 rw'=>⟨_,H2,I3,rw',q2⟩
end
section
variable {X:Cx}{pins:List (Addr×Obj)}{σ:St}{H:Hp}{s:Shared}{a:Addr}{kvs:List (Key×V)}{A:Around}{E:Value→Shared→Prop}
end
section
variable {X:Cx}{pins:List (Addr×Obj)}{σ:St}{H:Hp}{s:Shared}{a:Addr}{y:V}{u:Value}{A:Around}{E:Value→Shared→Prop}
end
end L2
end
section
namespace M
open PySem (Str Operator CmpOp)
inductive D where
 |non|bl (b:Bool)|int (i:Int)|str (s:Str)|tup (ds:List D)|lst (ds:List D)|loc (l:Nat)
 deriving Inhabited
inductive Cell where
 |lst (w:Bool) (ds:List D)
 /-- a dict,its keys ints and texts -/
 |dic (kvs:List (D×D))
 deriving Inhabited
abbrev Store:=List Cell
abbrev Sl:=List (Option D)
noncomputable def lim:Nat:=16777216
inductive Ty where
 |non|bl|int|str|tup|lst
 deriving DecidableEq
noncomputable def Ty.name:Ty→String
 |.non=>"NoneType"
 |.bl=>"bool"
 |.int=>"int"
 |.str=>"str"
 |.tup=>"tuple"
 |.lst=>"list"
inductive B where
 |len|min|max|tuple|list|all|sorted|int|str|any
inductive Mt where
 |append|find|join|split|extend|index
inductive T where
 |var (i:Nat)
 |tup (is:List Nat)
noncomputable def T.slots:T→List Nat
 |.var i=>[i]
 |.tup is=>is
inductive E where
 |var (i:Nat)
 |lit (d:D)
 |glo (x:Str) (d:D)
 |bin (op:Operator) (a b:E)
 |neg (a:E)
 |not (a:E)
 |cmp (op:CmpOp) (a b:E)
 |cmp2 (op op':CmpOp) (a b c:E)
 |and (a b:E)
 |or (a b:E)
 |ite (c a b:E)
 |tup (es:List E)
 |lst (es:List E)
 |idx (a b:E)
 |sli (a:E) (lo hi:Option E)
 |call (f:Nat) (es:List E)
 |bcall (f:B) (es:List E)
 |isi (a:E) (ts:List Ty) (many:Bool)
 |meth (a:E) (m:Mt) (es:List E)
 /-- what a part made is dropped where nothing else holds it; a list that it tells is a value from then on -/
 |gc (a:E)
 |rng1 (a:E)
 |rng2 (a b:E)
 |rng3 (a b c:E)
 |zip (a b:E)
 /-- a written dict: key,value,key,value .. -/
 |dic (es:List E)
 |didx (a b:E)
 |din (neg:Bool) (a b:E)
 |dgt (a b:E)
 |fmt (a:E)
 |fstr (es:List E)
 /-- of a dict of the file's top: its keys,its values -/
 |gidx (x:Str) (ks:List Str) (ds:List D) (b:E)
 |gin (neg:Bool) (x:Str) (ks:List Str) (b:E)
 /-- the number of unlike things of a tuple of tuples of ints -/
 |lenset (a:E)
 /-- tuples,one behind the other -/
 |cat (a b:E)
 /-- a list,turned about -/
 |rev (a:E)
 |comp (t:T) (it:E) (test:Option E) (elt:E) (src:List (Option Nat))
inductive S where
 |set (t:T) (e:E)
 |setIx (a i e:E)
 |dset (a i e:E)
 |rais
 |expr (e:E)
 |ret (e:E)
 |retN
 |ite (c:E) (a b:List S)
 |forr (t:T) (it:E) (body:List S)
 |whil (c:E) (body:List S)
 |aug (i:Nat) (op:Operator) (e:E)
 |brk|cnt|pass
structure Fn where
 np:Nat
 nl:Nat
 body:List S
mutual
noncomputable def eqT:D→D→Bool
 |.non,.non=>true
 |.bl a,.bl b=>a==b
 |.bl a,.int j=>(if a then 1 else 0)==j
 |.int i,.bl b=>i==(if b then 1 else 0)
 |.int i,.int j=>i==j
 |.str a,.str b=>a==b
 |.tup a,.tup b=>eqTs a b
 |_,_=>false
noncomputable def eqTs:List D→List D→Bool
 |[],[]=>true
 |a::as,b::bs=>eqT a b&&eqTs as bs
 |_,_=>false
end
mutual
/-- no place of the store within,at most n deep -/
noncomputable def flat:Nat→D→Bool
 |_,.loc _=>false
 |_,.lst _=>false
 |0,.tup _=>false
 |n+1,.tup ds=>flats n ds
 |_,_=>true
noncomputable def flats:Nat→List D→Bool
 |_,[]=>true
 |n,d::ds=>flat n d&&flats n ds
end
noncomputable def mulOk(i j:Int):Bool:=(decide (-(2 ^ 64)<i)&&decide (i<2 ^ 64))||(decide (-(2 ^ 64)<j)&&decide (j<2 ^ 64))
noncomputable def listAt(st:Store)(l:Nat):Option (List D):=match st[l]? with|some (.lst _ ds)=>some ds|_=>none
noncomputable def wlistAt(st:Store)(l:Nat):Option (List D):=match st[l]? with|some (.lst true ds)=>some ds|_=>none
noncomputable def seqAt(st:Store):D→Option (List D)
 |.loc l=>listAt st l
 |.lst ds=>some ds
 |_=>none
mutual
/-- no place of the store within -/
noncomputable def noLoc:D→Bool
 |.loc _=>false
 |.tup ds=>noLocs ds
 |.lst ds=>noLocs ds
 |_=>true
noncomputable def noLocs:List D→Bool
 |[]=>true
 |d::ds=>noLoc d&&noLocs ds
end
open Classical in
noncomputable def gcD(st:Store)(p:D×Store):D×Store:=
 if p.2.take st.length=st then
  if noLoc p.1 then(p.1,st) else match p.1 with
   |.loc l=>if st.length≤l then(match p.2[l]? with
    |some (.lst true ds)=>if noLocs ds then(.lst ds,st) else p
    |_=>p) else p
   |_=>p
 else p
noncomputable def dicAt(st:Store)(l:Nat):Option (List (D×D)):=match st[l]? with|some (.dic kvs)=>some kvs|_=>none
noncomputable def isKey:D→Bool
 |.int _=>true
 |.str _=>true
 |_=>false
noncomputable def dget(kvs:List (D×D))(k:D):Option D:=(kvs.find? fun p=>eqT p.1 k).map (·.2)
noncomputable def dput(kvs:List (D×D))(k v:D):List (D×D):=if kvs.any fun p=>eqT p.1 k then kvs.map (fun p=>if eqT p.1 k then(p.1,v) else p) else kvs++[(k,v)]
noncomputable def pairUp:List D→Option (List (D×D))
 |[]=>some []
 |k::v::r=>if isKey k then(pairUp r).map ((k,v)::·) else none
 |_=>none
noncomputable def dall(kvs:List (D×D)):List (D×D):=kvs.foldl (fun acc p=>dput acc p.1 p.2) []
noncomputable def alloc(st:Store)(c:Cell):D×Store:=(.loc st.length,st++[c])
noncomputable def binop(st:Store):Operator→D→D→Option (D×Store)
 |.Add,.int i,.int j=>some (.int (i+j),st)
 |.Add,.tup a,.tup b=>if a.isEmpty||decide (lim<a.length+b.length) then none else some (.tup (a++b),st)
 |.Add,.str a,.str b=>if lim<a.length+b.length then none else some (.str (a++b),st)
 |.Add,a,b=>(seqAt st a).bind fun x=>(seqAt st b).bind fun y=>if lim<x.length+y.length then none else some (alloc st (.lst true (x++y)))
 |.Sub,.int i,.int j=>some (.int (i - j),st)
 |.Mult,.int i,.int j=>if mulOk i j then some (.int (i*j),st) else none
 |.FloorDiv,.int i,.int j=>if 0<j∧j<2 ^ 64 then some (.int (i / j),st) else none
 |.Mod,.int i,.int j=>if 0<j then some (.int (i % j),st) else none
 |.Pow,.int i,.int j=>if 0≤j∧j≤1000∧i.natAbs<2 ^ 64 then some (.int (i ^ j.toNat),st) else none
 |_,_,_=>none
noncomputable def addK(S:List (List Int))(k:List Int):List (List Int):=if k∈S then S else S++[k]
noncomputable def distinct(ks:List (List Int)):List (List Int):=ks.foldl addK []
noncomputable def keyD:D→Option (List Int)
 |.tup ds=>ds.mapM fun d=>match d with|.int i=>some i|_=>none
 |_=>none
noncomputable def qmw:D→Option D
 |.tup ds=>(ds.mapM keyD).bind fun ks=>if ds.length≤16 then some (.int (distinct ks).length) else none
 |_=>none
noncomputable def catT(st:Store):D→D→Option (D×Store)
 |.tup a,.tup b=>if lim<a.length+b.length then none else some (.tup (a++b),st)
 |_,_=>none
noncomputable def ixN(n:Nat)(i:Int):Option Nat:=if 0≤i then(if i<n then some i.toNat else none) else if -(n:Int)≤i then some (i+n).toNat else none
noncomputable def atI{α:Type}(xs:List α)(i:Int):Option α:=(ixN xs.length i).bind fun j=>xs[j]?
noncomputable def idxD(st:Store):D→D→Option D
 |.tup ds,.int i=>atI ds i
 |.str z,.int i=>if lim<z.length then none else(atI z.cps.toList i).map fun c=>.str ⟨#[c]⟩
 |d,.int i=>(seqAt st d).bind fun ds=>atI ds i
 |_,_=>none
noncomputable def cutIx(n d:Nat):Option Int→Nat
 |none=>d
 |some v=>if v<0 then(v+(n:Int)).toNat else min v.toNat n
noncomputable def cut{α:Type}(xs:List α)(lo hi:Option Int):List α:=(xs.drop (cutIx xs.length 0 lo)).take (cutIx xs.length xs.length hi - cutIx xs.length 0 lo)
noncomputable def oneOf(z:Str):Option Nat:=match z.cps.toList with
 |[c]=>some c
 |_=>none
noncomputable def sliD(st:Store):D→Option Int→Option Int→Option (D×Store)
 |.tup ds,lo,hi=>some (.tup (cut ds lo hi),st)
 |.str z,lo,hi=>if lim<z.length then none else some (.str ⟨(cut z.cps.toList lo hi).toArray⟩,st)
 |d,lo,hi=>(seqAt st d).map fun ds=>alloc st (.lst true (cut ds lo hi))
noncomputable def inD(st:Store)(x:D):D→Option Bool
 |.tup ds=>if flat 9 x&&flats 9 ds then some (ds.any fun y=>eqT y x) else none
 |.str z=>match x with
  |.str i=>(oneOf i).map fun c=>decide (c∈z.cps.toList)
  |_=>none
 |d=>(seqAt st d).bind fun ds=>if flat 9 x&&flats 9 ds then some (ds.any fun y=>eqT y x) else none
noncomputable def eqD(st:Store)(x y:D):Option Bool:=match seqAt st x,seqAt st y with
 |some a,some b=>if flats 9 a&&flats 9 b then some (eqTs a b) else none
 |_,_=>if flat 9 x&&flat 9 y then some (eqT x y) else none
noncomputable def neD(st:Store)(a b:D):Option Bool:=(eqD st a b).map (!·)
noncomputable def isNon:D→Bool
 |.non=>true
 |_=>false
noncomputable def cmpD(st:Store):CmpOp→D→D→Option Bool
 |.Lt,.int i,.int j=>some (decide (i<j))
 |.LtE,.int i,.int j=>some (decide (i≤j))
 |.Gt,.int i,.int j=>some (decide (j<i))
 |.GtE,.int i,.int j=>some (decide (j≤i))
 |.Eq,x,y=>eqD st x y
 |.NotEq,x,y=>neD st x y
 |.Is,x,.non=>some (isNon x)
 |.IsNot,x,.non=>some (!isNon x)
 |.In,x,y=>inD st x y
 |.NotIn,x,y=>(inD st x y).map (!·)
 |_,_,_=>none
noncomputable def tyName(st:Store):D→Option Ty
 |.non=>some .non
 |.bl _=>some .bl
 |.int _=>some .int
 |.str _=>some .str
 |.tup _=>some .tup
 |d=>(seqAt st d).map fun _=>.lst
noncomputable def tyIs(t n:Ty):Bool:=t==n||(t==.int&&n==.bl)
noncomputable def truth(st:Store):D→Option Bool
 |.non=>some false
 |.bl b=>some b
 |.int i=>some (i != 0)
 |.tup ds=>some (!ds.isEmpty)
 |.str z=>if lim<z.length then none else some ((z.length:Int) != 0)
 |d=>(seqAt st d).map fun ds=>!ds.isEmpty
noncomputable def insInt(x:Int):List Int→List Int
 |[]=>[x]
 |y::r=>if x≤y then x::y::r else y::insInt x r
noncomputable def sortInt:List Int→List Int
 |[]=>[]
 |x::r=>insInt x (sortInt r)
noncomputable def asInts:List D→Option (List Int)
 |[]=>some []
 |.int i::r=>(asInts r).map (i::·)
 |_=>none
noncomputable def asBools:List D→Option (List Bool)
 |[]=>some []
 |.bl i::r=>(asBools r).map (i::·)
 |_=>none
noncomputable def bLen(st:Store):List D→Option (D×Store)
 |[.tup ds]=>some (.int ds.length,st)
 |[.str z]=>if lim<z.length then none else some (.int z.length,st)
 |[d]=>(seqAt st d).map fun ds=>(.int ds.length,st)
 |_=>none
noncomputable def augD(st:Store):Operator→D→D→Option D
 |.Add,.int i,.int j=>some (.int (i+j))
 |.Sub,.int i,.int j=>some (.int (i - j))
 |.Mult,.int i,.int j=>if mulOk i j then some (.int (i*j)) else none
 |.Add,.str a,.str b=>if lim<a.length+b.length then none else some (.str (a++b))
 |_,_,_=>none
noncomputable def bMin(st:Store):List D→Option (D×Store)
 |[.int i,.int j]=>some (.int (if j<i then j else i),st)
 |_=>none
noncomputable def bMax(st:Store):List D→Option (D×Store)
 |[.int i,.int j]=>some (.int (if j > i then j else i),st)
 |_=>none
noncomputable def bTuple(st:Store):List D→Option (D×Store)
 |[.tup ds]=>some (.tup ds,st)
 |[d]=>(seqAt st d).map fun ds=>(.tup ds,st)
 |_=>none
noncomputable def bList(st:Store):List D→Option (D×Store)
 |[.tup ds]=>some (alloc st (.lst true ds))
 |[d]=>(seqAt st d).map fun ds=>alloc st (.lst true ds)
 |_=>none
noncomputable def bAll(st:Store):List D→Option (D×Store)
 |[d]=>(seqAt st d).bind fun ds=>(asBools ds).map fun bs=>(.bl (bs.all id),st)
 |_=>none
noncomputable def bAny(st:Store):List D→Option (D×Store)
 |[d]=>(seqAt st d).bind fun ds=>(asBools ds).map fun bs=>(.bl (bs.any id),st)
 |_=>none
noncomputable def bSorted(st:Store):List D→Option (D×Store)
 |[d]=>(seqAt st d).bind fun ds=>(if 64≤ds.length then none else asInts ds).map fun ns=>alloc st (.lst true ((sortInt ns).map .int))
 |_=>none
noncomputable def isFig(c:Nat):Bool:=decide (48≤c)&&decide (c≤57)
noncomputable def figVal(cs:List Nat):Nat:=cs.foldl (fun acc c=>acc*10+(c - 48)) 0
noncomputable def bInt(st:Store):List D→Option (D×Store)
 |[.str z]=>if !z.cps.toList.isEmpty&&z.cps.toList.all isFig&&decide (z.length≤640) then some (.int (figVal z.cps.toList:Nat),st) else none
 |[.int i]=>some (.int i,st)
 |[.bl b]=>some (.int (if b then 1 else 0),st)
 |_=>none
noncomputable def bStr(st:Store):List D→Option (D×Store)
 |[.int i]=>if i.natAbs.log2<1920 then some (.str (Str.ofString (toString i)),st) else none
 |[.str z]=>some (.str z,st)
 |_=>none
noncomputable def splitC(c:Nat):List Nat→List (List Nat)
 |[]=>[[]]
 |x::r=>if x=c then []::splitC c r else match splitC c r with
  |[]=>[[x]]
  |p::ps=>(x::p)::ps
noncomputable def mSplit(st:Store):D→List D→Option (D×Store)
 |.str z,[.str y]=>(oneOf y).bind fun c=>if z.length<1000000 then some (alloc st (.lst true ((splitC c z.cps.toList).map fun p=>.str ⟨p.toArray⟩))) else none
 |_,_=>none
noncomputable def fmtD:D→Option D
 |.int i=>if i.natAbs.log2<1920 then some (.str (Str.ofString (toString i))) else none
 |.str z=>if z.length≤lim then some (.str z) else none
 |_=>none
noncomputable def catD:List D→Str→Option Str
 |[],acc=>some acc
 |.str z::r,acc=>if (acc++z).length≤lim then catD r (acc++z) else none
 |_,_=>none
noncomputable def asStrs:List D→Option (List Str)
 |[]=>some []
 |.str i::r=>(asStrs r).map (i::·)
 |_=>none
noncomputable def findC(cs:List Nat)(c:Nat):Int:=match cs.findIdx? (· == c) with
 |some i=>(i:Int)
 |none=>-1
noncomputable def mFind(st:Store):D→List D→Option (D×Store)
 |.str z,[.str y]=>(oneOf y).map fun c=>(.int (findC z.cps.toList c),st)
 |_,_=>none
noncomputable def mJoin(st:Store):D→List D→Option (D×Store)
 |.str z,[d]=>(seqAt st d).bind fun ds=>(asStrs ds).bind fun ts=>if (ts.map (·.length)).sum+ts.length*z.length≤lim then some (.str (Str.join z ts),st) else none
 |_,_=>none
noncomputable def bfun(st:Store):B→List D→Option (D×Store)
 |.len=>bLen st
 |.min=>bMin st
 |.max=>bMax st
 |.tuple=>bTuple st
 |.list=>bList st
 |.all=>bAll st
 |.sorted=>bSorted st
 |.int=>bInt st
 |.str=>bStr st
 |.any=>bAny st
noncomputable def mAppend(st:Store):D→List D→Option (D×Store)
 |.loc l,[d]=>(wlistAt st l).bind fun ds=>if ds.length<lim then some (.non,st.set l (.lst true (ds++[d]))) else none
 |_,_=>none
noncomputable def qmx(st:Store):D→List D→Option (D×Store)
 |.loc l,[d]=>(wlistAt st l).bind fun ds=>(match d with|.tup es=>some es|d=>seqAt st d).bind fun es=>if ds.length+es.length≤lim then some (.non,st.set l (.lst true (ds++es))) else none
 |_,_=>none
noncomputable def mIndex(st:Store):D→List D→Option (D×Store)
 |d,[x]=>(seqAt st d).bind fun ds=>if flat 9 x&&flats 9 ds then(ds.findIdx? fun y=>eqT y x).map fun(j:Nat)=>(.int (j:Int),st) else none
 |_,_=>none
noncomputable def mfun(st:Store):Mt→D→List D→Option (D×Store)
 |.append=>mAppend st
 |.find=>mFind st
 |.join=>mJoin st
 |.split=>mSplit st
 |.extend=>qmx st
 |.index=>mIndex st
noncomputable def Mt.ofList:Mt→Bool
 |.append=>true
 |.extend=>true
 |.index=>true
 |_=>false
noncomputable def mty(st:Store)(m:Mt):D→Bool
 |.str _=>!m.ofList
 |d=>m.ofList&&(seqAt st d).isSome
noncomputable def setIxD(st:Store):D→D→D→Option Store
 |.loc l,.int i,d=>(wlistAt st l).bind fun ds=>(ixN ds.length i).map fun j=>st.set l (.lst true (ds.set j d))
 |_,_,_=>none
inductive Out where
 |nx (τ:Sl)
 |rt (d:D)
 |bk (τ:Sl)
 |ct (τ:Sl)
structure R where
 ev:Sl→Store→E→Option (D×Store)
 tst:Sl→Store→E→Option (Bool×Store)
 ex:Sl→Store→List S→Option (Out×Store)
 call:Nat→List D→Store→Option (D×Store)
noncomputable def evs(f:Store→E→Option (D×Store)):List E→Store→Option (List D×Store)
 |[],st=>some ([],st)
 |e::es,st=>(f st e).bind fun p=>(evs f es p.2).bind fun q=>some (p.1::q.1,q.2)
noncomputable def setIs:List Nat→List D→Sl→Option Sl
 |[],[],τ=>some τ
 |i::is,d::ds,τ=>if i<τ.length then setIs is ds (τ.set i (some d)) else none
 |_,_,_=>none
noncomputable def setT:T→D→Sl→Option Sl
 |.var i,d,τ=>if i<τ.length then some (τ.set i (some d)) else none
 |.tup is,.tup ds,τ=>setIs is ds τ
 |_,_,_=>none
inductive Src where
 |tup (ds:List D)
 |lst (d:D)
 |rng (lo:Int) (n:Nat)
 |rgs (lo c:Int) (n:Nat)
 |zip (a b:D)
 |str (z:Str)
noncomputable def rowAt(st:Store):D→Option (List D)
 |.tup ds=>some ds
 |d=>seqAt st d
noncomputable def pairAt(xs ys:List D)(i:Nat):Option D:=match xs[i]?,ys[i]? with
 |some x,some y=>some (.tup [x,y])
 |_,_=>none
noncomputable def Src.at(st:Store)(i:Nat):Src→Option (Option D)
 |.tup ds=>some ds[i]?
 |.lst d=>(seqAt st d).map fun ds=>ds[i]?
 |.rng lo n=>some (if i<n then some (.int (lo+i)) else none)
 |.rgs lo c n=>some (if i<n then some (.int (lo+i*c)) else none)
 |.zip a b=>(rowAt st a).bind fun xs=>(rowAt st b).map fun ys=>pairAt xs ys i
 |.str z=>some ((z.cps.toList.map fun c=>D.str ⟨#[c]⟩)[i]?)
noncomputable def Src.size(st:Store):Src→Nat
 |.tup ds=>ds.length
 |.lst d=>((seqAt st d).getD []).length
 |.rng _ n=>n
 |.rgs _ _ n=>n
 |.str z=>z.cps.toList.length
 |.zip a b=>min ((rowAt st a).getD []).length ((rowAt st b).getD []).length
noncomputable def big(i:Int):Bool:=decide (i < -(2 ^ 62))||decide (2 ^ 62≤i)
noncomputable def src(r:R)(τ:Sl)(st:Store):E→Option (Src×Store)
 |.rng1 a=>(r.ev τ st a).bind fun p=>match p.1 with
  |.int n=>if big n then none else some (.rng 0 n.toNat,p.2)
  |_=>none
 |.rng2 a b=>(r.ev τ st a).bind fun p=>(r.ev τ p.2 b).bind fun q=>match p.1,q.1 with
  |.int i,.int j=>if big i||big j then none else some (.rng i (j - i).toNat,q.2)
  |_,_=>none
 |.rng3 a b c=>(r.ev τ st a).bind fun p=>(r.ev τ p.2 b).bind fun q=>(r.ev τ q.2 c).bind fun u=>match p.1,q.1,u.1 with
  |.int i,.int j,.int k=>if big i||big j || !(decide (0<k)&&decide (k<1000)) then none else some (.rgs i k (if i<j then(j - i - 1) / k+1 else 0).toNat,u.2)
  |_,_,_=>none
 |.zip a b=>(r.ev τ st a).bind fun p=>(r.ev τ p.2 b).bind fun q=>(rowAt q.2 p.1).bind fun _=>(rowAt q.2 q.1).map fun _=>(.zip p.1 q.1,q.2)
 |e=>(r.ev τ st e).bind fun p=>match p.1 with
  |.tup ds=>some (.tup ds,p.2)
  |.str z=>if z.cps.all (· < 128) then some (.str z,p.2) else none
  |d=>(seqAt p.2 d).map fun _=>(.lst d,p.2)
noncomputable def loop(it:Src)(f:Sl→Store→D→Option (Out×Store)):Nat→Nat→Sl→Store→Option (Out×Store)
 |0,_,_,_=>none
 |k+1,i,τ,st=>(it.at st i).bind fun o=>match o with
  |none=>some (.nx τ,st)
  |some d=>(f τ st d).bind fun p=>match p.1 with
   |.nx τ'=>loop it f k (i+1) τ' p.2
   |.ct τ'=>loop it f k (i+1) τ' p.2
   |.bk τ'=>some (.nx τ',p.2)
   |.rt v=>some (.rt v,p.2)
noncomputable def turnC(r:R)(t:T)(test:Option E)(elt:E)(τ:Sl)(st:Store)(d:D):Option (Option D×Sl×Store):=
 (setT t d τ).bind fun τ'=>match test with
  |none=>(r.ev τ' st elt).map fun p=>(some p.1,τ',p.2)
  |some c=>(r.tst τ' st c).bind fun b=>if b.1 then(r.ev τ' b.2 elt).map fun p=>(some p.1,τ',p.2) else some (none,τ',b.2)
noncomputable def loopC(it:Src)(f:Sl→Store→D→Option (Option D×Sl×Store)):Nat→Nat→List D→Sl→Store→Option (List D×Store)
 |0,_,_,_,_=>none
 |k+1,i,acc,τ,st=>(it.at st i).bind fun o=>match o with
  |none=>if lim<acc.length then none else some (acc,st)
  |some d=>if lim≤acc.length then none else(f τ st d).bind fun p=>loopC it f k (i+1) (match p.1 with|some x=>acc++[x]|none=>acc) p.2.1 p.2.2
noncomputable def inner(src:List (Option Nat))(τ:Sl):Sl:=src.map fun o=>o.bind fun i=>(τ[i]?).bind id
noncomputable def part(r:R)(τ:Sl)(st:Store):Option E→Option (Option Int×Store)
 |none=>some (none,st)
 |some e=>(r.ev τ st e).bind fun p=>match p.1 with
  |.int i=>some (some i,p.2)
  |_=>none
noncomputable def qda(f:Sl→Store→Option (Bool×Store))(g:Sl→Store→Option (Out×Store)):Nat→Sl→Store→Option (Out×Store)
 |0,_,_=>none
 |k+1,τ,st=>(f τ st).bind fun b=>if b.1 then(g τ b.2).bind fun p=>match p.1 with
   |.nx τ'=>qda f g k τ' p.2
   |.ct τ'=>qda f g k τ' p.2
   |.bk τ'=>some (.nx τ',p.2)
   |.rt v=>some (.rt v,p.2)
  else some (.nx τ,b.2)
noncomputable def dinR(r:R)(τ:Sl)(st:Store)(neg:Bool)(a b:E):Option (D×Store):=
 (r.ev τ st a).bind fun p=>(r.ev τ p.2 b).bind fun q=>match q.1 with
  |.loc l=>(dicAt q.2 l).bind fun kvs=>if isKey p.1 then some (.bl ((dget kvs p.1).isSome != neg),q.2) else none
  |_=>none
noncomputable def ginR(r:R)(τ:Sl)(st:Store)(neg:Bool)(ks:List Str)(b:E):Option (D×Store):=
 (r.ev τ st b).bind fun p=>match p.1 with
  |.str z=>some (.bl (ks.contains z != neg),p.2)
  |_=>none
noncomputable def stepEv(r:R)(τ:Sl)(st:Store):E→Option (D×Store)
 |.var i=>match τ[i]? with
  |some (some d)=>some (d,st)
  |_=>none
 |.lit d=>some (d,st)
 |.glo _ d=>some (d,st)
 |.bin op a b=>(r.ev τ st a).bind fun p=>(r.ev τ p.2 b).bind fun q=>binop q.2 op p.1 q.1
 |.neg a=>(r.ev τ st a).bind fun p=>match p.1 with
  |.int i=>some (.int (-i),p.2)
  |_=>none
 |.not a=>(r.ev τ st a).bind fun p=>match p.1 with
  |.bl b=>some (.bl (!b),p.2)
  |_=>none
 |.cmp op a b=>(r.ev τ st a).bind fun p=>(r.ev τ p.2 b).bind fun q=>(cmpD q.2 op p.1 q.1).map fun k=>(.bl k,q.2)
 |.cmp2 op op' a b c=>(r.ev τ st a).bind fun p=>(r.ev τ p.2 b).bind fun q=>(cmpD q.2 op p.1 q.1).bind fun k=>
   if k then(r.ev τ q.2 c).bind fun u=>(cmpD u.2 op' q.1 u.1).map fun k'=>(.bl k',u.2) else some (.bl false,q.2)
 |.and a b=>(r.ev τ st a).bind fun p=>match p.1 with
  |.bl true=>r.ev τ p.2 b
  |.bl false=>some (.bl false,p.2)
  |_=>none
 |.or a b=>(r.ev τ st a).bind fun p=>match p.1 with
  |.bl false=>r.ev τ p.2 b
  |.bl true=>some (.bl true,p.2)
  |_=>none
 |.ite c a b=>(r.tst τ st c).bind fun p=>if p.1 then r.ev τ p.2 a else r.ev τ p.2 b
 |.tup es=>(evs (r.ev τ) es st).bind fun p=>if lim<p.1.length then none else some (.tup p.1,p.2)
 |.lst es=>(evs (r.ev τ) es st).bind fun p=>if lim<p.1.length then none else some (alloc p.2 (.lst true p.1))
 |.idx a b=>(r.ev τ st a).bind fun p=>(r.ev τ p.2 b).bind fun q=>(idxD q.2 p.1 q.1).map fun d=>(d,q.2)
 |.sli a lo hi=>(r.ev τ st a).bind fun p=>(part r τ p.2 lo).bind fun l=>(part r τ l.2 hi).bind fun h=>sliD h.2 p.1 l.1 h.1
 |.call f es=>(evs (r.ev τ) es st).bind fun p=>r.call f p.1 p.2
 |.bcall f es=>(evs (r.ev τ) es st).bind fun p=>bfun p.2 f p.1
 |.isi a ts _=>(r.ev τ st a).bind fun p=>(tyName p.2 p.1).map fun n=>(.bl (ts.any fun t=>tyIs t n),p.2)
 |.meth a m es=>(r.ev τ st a).bind fun p=>if mty p.2 m p.1 then(evs (r.ev τ) es p.2).bind fun q=>mfun q.2 m p.1 q.1 else none
 |.gc a=>(r.ev τ st a).map fun p=>gcD st p
 |.rng1 _=>none
 |.rng2 _ _=>none
 |.rng3 _ _ _=>none
 |.zip _ _=>none
 |.dic es=>(evs (r.ev τ) es (st++[.dic []])).bind fun p=>match dicAt p.2 st.length with
  |some []=>(pairUp p.1).bind fun kvs=>if kvs.length≤15 then some (.loc st.length,p.2.set st.length (.dic (dall kvs))) else none
  |_=>none
 |.didx a b=>(r.ev τ st a).bind fun p=>(r.ev τ p.2 b).bind fun q=>match p.1 with
  |.loc l=>(dicAt q.2 l).bind fun kvs=>if isKey q.1 then(dget kvs q.1).map fun d=>(d,q.2) else none
  |_=>none
 |.din neg a b=>dinR r τ st neg a b
 |.dgt a b=>(r.ev τ st a).bind fun p=>match p.1 with
  |.loc l=>(dicAt p.2 l).bind fun _=>(r.ev τ p.2 b).bind fun q=>(dicAt q.2 l).bind fun kvs=>if isKey q.1 then some ((dget kvs q.1).getD .non,q.2) else none
  |_=>none
 |.fmt a=>(r.ev τ st a).bind fun p=>(fmtD p.1).map fun d=>(d,p.2)
 |.fstr es=>(evs (r.ev τ) es st).bind fun p=>(catD p.1 Str.empty).map fun z=>(.str z,p.2)
 |.gidx _ ks ds b=>(r.ev τ st b).bind fun p=>match p.1 with
  |.str z=>((ks.zip ds).find? fun q=>q.1==z).map fun q=>(q.2,p.2)
  |_=>none
 |.gin neg _ ks b=>ginR r τ st neg ks b
 |.lenset a=>(r.ev τ st a).bind fun p=>(qmw p.1).map fun d=>(d,p.2)
 |.cat a b=>(r.ev τ st a).bind fun p=>(r.ev τ p.2 b).bind fun q=>catT q.2 p.1 q.1
 |.rev a=>(r.ev τ st a).bind fun p=>(seqAt p.2 p.1).map fun ds=>alloc p.2 (.lst true ds.reverse)
 |.comp t it test elt sr=>(src r τ st it).bind fun p=>
   (loopC p.1 (turnC r t test elt) (p.1.size p.2+1) 0 [] (inner sr τ) p.2).map fun q=>alloc q.2 (.lst true q.1)
noncomputable def stepTst(r:R)(τ:Sl)(st:Store):E→Option (Bool×Store)
 |.not a=>(r.tst τ st a).map fun p=>(!p.1,p.2)
 |.and a b=>(r.tst τ st a).bind fun p=>if p.1 then r.tst τ p.2 b else some (false,p.2)
 |.or a b=>(r.tst τ st a).bind fun p=>if p.1 then some (true,p.2) else r.tst τ p.2 b
 |.ite _ _ _=>none
 |.din neg a b=>(dinR r τ st neg a b).bind fun p=>(truth p.2 p.1).map fun k=>(k,p.2)
 |.gin neg _ ks b=>(ginR r τ st neg ks b).bind fun p=>(truth p.2 p.1).map fun k=>(k,p.2)
 |.cmp op a b=>(r.ev τ st a).bind fun p=>(r.ev τ p.2 b).bind fun q=>(cmpD q.2 op p.1 q.1).map fun k=>(k,q.2)
 |.cmp2 op op' a b c=>(r.ev τ st a).bind fun p=>(r.ev τ p.2 b).bind fun q=>(cmpD q.2 op p.1 q.1).bind fun k=>
   if k then(r.ev τ q.2 c).bind fun u=>(cmpD u.2 op' q.1 u.1).map fun k'=>(k',u.2) else some (false,q.2)
 |e=>(r.ev τ st e).bind fun p=>(truth p.2 p.1).map fun k=>(k,p.2)
noncomputable def stepEx(r:R)(τ:Sl)(st:Store):S→Option (Out×Store)
 |.set t e=>(r.ev τ st e).bind fun p=>(setT t p.1 τ).map fun τ'=>(.nx τ',p.2)
 |.setIx a i e=>(r.ev τ st e).bind fun p=>(r.ev τ p.2 a).bind fun q=>(r.ev τ q.2 i).bind fun u=>(setIxD u.2 q.1 u.1 p.1).map fun st'=>(.nx τ,st')
 |.dset a i e=>(r.ev τ st e).bind fun p=>(r.ev τ p.2 a).bind fun q=>(r.ev τ q.2 i).bind fun u=>match q.1 with
  |.loc l=>(dicAt u.2 l).bind fun kvs=>if isKey u.1&&decide (kvs.length<lim) then some (.nx τ,u.2.set l (.dic (dput kvs u.1 p.1))) else none
  |_=>none
 |.rais=>none
 |.expr e=>(r.ev τ st e).map fun p=>(.nx τ,p.2)
 |.ret e=>(r.ev τ st e).map fun p=>(.rt p.1,p.2)
 |.retN=>some (.rt .non,st)
 |.ite c a b=>(r.tst τ st c).bind fun p=>if p.1 then r.ex τ p.2 a else r.ex τ p.2 b
 |.forr t it body=>(src r τ st it).bind fun p=>
   loop p.1 (fun τ st d=>(setT t d τ).bind fun τ'=>r.ex τ' st body) (p.1.size p.2+1) 0 τ p.2
 |.whil c body=>qda (fun τ st=>r.tst τ st c) (fun τ st=>r.ex τ st body) lim τ st
 |.aug i op e=>match τ[i]? with
  |some (some x)=>(r.ev τ st e).bind fun p=>(augD p.2 op x p.1).map fun z=>(.nx (τ.set i (some z)),p.2)
  |_=>none
 |.brk=>some (.bk τ,st)
 |.cnt=>some (.ct τ,st)
 |.pass=>some (.nx τ,st)
noncomputable def exs(f:Sl→Store→S→Option (Out×Store)):List S→Sl→Store→Option (Out×Store)
 |[],τ,st=>some (.nx τ,st)
 |s::ss,τ,st=>(f τ st s).bind fun p=>match p.1 with
  |.nx τ'=>exs f ss τ' p.2
  |o=>some (o,p.2)
noncomputable def stepCall(fns:List Fn)(r:R)(f:Nat)(ds:List D)(st:Store):Option (D×Store):=
 match fns[f]? with
 |some F=>if ds.length=F.np then(r.ex (ds.map some++List.replicate (F.nl - ds.length) none) st F.body).bind fun p=>match p.1 with
   |.rt d=>some (d,p.2)
   |.nx _=>some (.non,p.2)
   |_=>none
  else none
 |none=>none
noncomputable def step(c:Nat→List D→Store→Option (D×Store))(r:R):R:=⟨stepEv r,stepTst r,fun τ st ss=>exs (stepEx r) ss τ st,c⟩
noncomputable def runK(c:Nat→List D→Store→Option (D×Store)):Nat→R
 |0=>⟨fun _ _ _=>none,fun _ _ _=>none,fun _ _ _=>none,c⟩
 |k+1=>step c (runK c k)
open Classical in
noncomputable def lim1{α:Type}(f:Nat→Option α):Option α:=if h:∃ x,∃ n,f n=some x then some h.choose else none
noncomputable def RL(c:Nat→List D→Store→Option (D×Store)):R:=⟨fun τ st e=>lim1 fun n=>(runK c n).ev τ st e,fun τ st e=>lim1 fun n=>(runK c n).tst τ st e,fun τ st e=>lim1 fun n=>(runK c n).ex τ st e,c⟩
noncomputable def callD(fns:List Fn):Nat→Nat→List D→Store→Option (D×Store)
 |0=>fun _ _ _=>none
 |d+1=>stepCall fns (RL (callD fns d))
noncomputable abbrev rn(fns:List Fn)(d n:Nat):R:=runK (callD fns d) n
noncomputable abbrev Lv(fns:List Fn)(d:Nat):R:=RL (callD fns d)
theorem lim1_is{α:Type}{f:Nat→Option α}{x:α}(h:lim1 f=some x):∃ n,f n=some x:=by
 unfold lim1 at h
 split at h
 ·rename_i hx
  obtain⟨n,hn⟩:=hx.choose_spec
  exact⟨n,by rw[hn]; exact h⟩
 ·cases h
theorem runK_call(c:Nat→List D→Store→Option (D×Store)):∀ n,(runK c n).call=c
 |0=>rfl
 |_+1=>rfl
end M
end
section
namespace M
open PySem (Str)
theorem qaz:∀ (a:List S){b:List S}{f:Sl→Store→S→Option (Out×Store)}{τ τ':Sl}{s s':Store},exs f a τ s=some (.nx τ',s')→exs f (a++b) τ s=exs f b τ' s'
 |[],b,f,τ,τ',s,s',h=>by cases h; rfl
 |x::a,b,f,τ,τ',s,s',h=>by
  simp only[exs,Qxv]at h ⊢
  cases q:f τ s x with
  |none=>rw[q]at h; cases h
  |some p=>
   rw[q]at h
   simp only[oBs]at h ⊢
   cases hp:p.1 with
   |nx τ2=>rw[hp]at h; simp only at h ⊢; exact qaz a h
   |rt d=>rw[hp]at h; cases h
   |bk d=>rw[hp]at h; cases h
   |ct d=>rw[hp]at h; cases h
theorem qzz{x:S}{b:List S}{f:Sl→Store→S→Option (Out×Store)}{τ τ':Sl}{s s':Store}(h:f τ s x=some (.nx τ',s')):exs f (x::b) τ s=exs f b τ' s':=by
 simp only[exs,h,oBs]
theorem qzj{x:S}{b:List S}{f:Sl→Store→S→Option (Out×Store)}{τ:Sl}{s s':Store}{d:D}(h:f τ s x=some (.rt d,s')):exs f (x::b) τ s=some (.rt d,s'):=by
 simp only[exs,h,oBs]
theorem eqT_bb(a b:Bool):eqT (.bl a) (.bl b)=(a==b):=by rw[eqT]
theorem eqT_ii(a b:Int):eqT (.int a) (.int b)=(a==b):=by rw[eqT]
theorem eqT_ss(a b:Str):eqT (.str a) (.str b)=(a==b):=by rw[eqT]
theorem eqT_nn:eqT .non .non=true:=by rw[eqT]
theorem flat_b(n:Nat)(a:Bool):flat n (.bl a)=true:=by cases n<;>rfl
theorem qio(n:Nat)(a:Int):flat n (.int a)=true:=by cases n<;>rfl
theorem flat_s(n:Nat)(a:Str):flat n (.str a)=true:=by cases n<;>rfl
theorem qin(n:Nat):flat n .non=true:=by cases n<;>rfl
theorem qax(st:Store)(a b:Bool):eqD st (.bl a) (.bl b)=some (a==b):=by simp[eqD,seqAt,flat_b,eqT_bb]
theorem qqs(st:Store)(a b:Int):eqD st (.int a) (.int b)=some (a==b):=by simp[eqD,seqAt,qio,eqT_ii]
theorem qvg(st:Store)(a b:Str):eqD st (.str a) (.str b)=some (a==b):=by simp[eqD,seqAt,flat_s,eqT_ss]
theorem eqD_nn(st:Store):eqD st .non .non=some true:=by simp[eqD,seqAt,qin,eqT_nn]
theorem qy0{f:Sl→Store→D→Option (Out×Store)}{lo:Int}{n:Nat}(P:Nat→Sl→Store→Prop)(hs:∀ i τ st,i<n→P i τ st→∃ τ' st',f τ st (.int (lo+i))=some (.nx τ',st')∧P (i+1) τ' st'):
  ∀ (k i:Nat) (τ:Sl) (st:Store),i+k=n→P i τ st→∃ τ' st',loop (.rng lo n) f (k+1) i τ st=some (.nx τ',st')∧P n τ' st'
 |0,i,τ,st,h,p=>by
  have:i=n:=by omega
  subst this
  exact⟨τ,st,by simp[loop,Src.at],p⟩
 |k+1,i,τ,st,h,p=>by
  have hi:i<n:=by omega
  obtain⟨τ',st',e,q⟩:=hs i τ st hi p
  obtain⟨τ2,st2,e2,q2⟩:=qy0 P hs k (i+1) τ' st' (by omega) q
  refine⟨τ2,st2,?_,q2⟩
  rw[loop]
  simp only[Src.at,hi,if_true,oBs,e]
  exact e2
theorem qca{f:Sl→Store→D→Option (Out×Store)}{lo:Int}{n:Nat}{τ:Sl}{st:Store}(P:Nat→Sl→Store→Prop)(h0:P 0 τ st)(hs:∀ i τ st,i<n→P i τ st→∃ τ' st',f τ st (.int (lo+i))=some (.nx τ',st')∧P (i+1) τ' st'):
  ∃ τ' st',loop (.rng lo n) f (n+1) 0 τ st=some (.nx τ',st')∧P n τ' st':=qy0 P hs n 0 τ st (by omega) h0
end M
end
section
namespace M
open PySem (Str)
def Co{α:Type}(a:Option α)(b:Nat→Option α):Prop:=∀ x,a=some x→∃ n,∀ m,n≤m→b m=some x
theorem Co.refl{α:Type}(a:Option α):Co a fun _=>a:=fun _ h=>⟨0,fun _ _=>h⟩
theorem Co.none{α:Type}(b:Nat→Option α):Co Option.none b:=fun _ h=>by cases h
theorem Co.bind{α β:Type}{f:Option α}{f':Nat→Option α}{g:α→Option β}{g':Nat→α→Option β}(hf:Co f f')(hg:∀ a,Co (g a) fun m=>g' m a):Co (f.bind g) fun m=>(f' m).bind (g' m):=fun x h=>by
 cases e:f with
 |none=>rw[e]at h; cases h
 |some a=>
  rw[e]at h
  obtain⟨n,hn⟩:=hf a e
  obtain⟨k,hk⟩:=hg a x h
  refine⟨max n k,fun m hm=>?_⟩
  simp only
  rw[hn m (by omega)]
  exact hk m (by omega)
theorem Co.map{α β:Type}{f:Option α}{f':Nat→Option α}(g:α→β)(hf:Co f f'):Co (f.map g) fun m=>(f' m).map g:=fun x h=>by
 cases e:f with
 |none=>rw[e]at h; cases h
 |some a=>
  rw[e]at h
  obtain⟨n,hn⟩:=hf a e
  refine⟨n,fun m hm=>?_⟩
  simp only
  rw[hn m hm]
  exact h
theorem Co.ite{α:Type}{c:Prop} [Decidable c]{a b:Option α}{a' b':Nat→Option α}(ha:Co a a') (hb:Co b b'):Co (if c then a else b) fun m=>if c then a' m else b' m:=by
 by_cases h:c
 ·simp only[if_pos h]; exact ha
 ·simp only[if_neg h]; exact hb
structure Le (r:R) (r':Nat→R):Prop where
 ev:∀ τ st e,Co (r.ev τ st e) fun m=>(r' m).ev τ st e
 tst:∀ τ st e,Co (r.tst τ st e) fun m=>(r' m).tst τ st e
 ex:∀ τ st e,Co (r.ex τ st e) fun m=>(r' m).ex τ st e
 call:∀ f ds st,Co (r.call f ds st) fun m=>(r' m).call f ds st
theorem qqh{f:Store→E→Option (D×Store)}{f':Nat→Store→E→Option (D×Store)}(h:∀ st e,Co (f st e) fun m=>f' m st e):∀ (es:List E) (st:Store),Co (evs f es st) fun m=>evs (f' m) es st
 |[],st=>.refl _
 |e::es,st=>(h st e).bind fun p=>(qqh h es p.2).bind fun q=>.refl _
theorem qvj{it:Src}{f:Sl→Store→D→Option (Out×Store)}{f':Nat→Sl→Store→D→Option (Out×Store)}(h:∀ τ st d,Co (f τ st d) fun m=>f' m τ st d):∀ (k i:Nat) (τ:Sl) (st:Store),Co (loop it f k i τ st) fun m=>loop it (f' m) k i τ st
 |0,_,_,_=>.refl _
 |k+1,i,τ,st=>by
  unfold loop
  refine(Co.refl _).bind fun o=>?_
  cases o with
  |none=>exact .refl _
  |some d=>
   refine(h τ st d).bind fun p=>?_
   cases hp:p.1 with
   |nx τ'=>exact qvj h k _ _ _
   |ct τ'=>exact qvj h k _ _ _
   |bk τ'=>exact .refl _
   |rt v=>exact .refl _
theorem qv9{it:Src}{f:Sl→Store→D→Option (Option D×Sl×Store)}{f':Nat→Sl→Store→D→Option (Option D×Sl×Store)}(h:∀ τ st d,Co (f τ st d) fun m=>f' m τ st d):∀ (k i:Nat) (acc:List D) (τ:Sl) (st:Store),Co (loopC it f k i acc τ st) fun m=>loopC it (f' m) k i acc τ st
 |0,_,_,_,_=>.refl _
 |k+1,i,acc,τ,st=>by
  unfold loopC
  refine(Co.refl _).bind fun o=>?_
  cases o with
  |none=>exact .refl _
  |some d=>exact Co.ite (.refl _) ((h τ st d).bind fun p=>qv9 h k _ _ _ _)
theorem qj8{f:Sl→Store→Option (Bool×Store)}{f':Nat→Sl→Store→Option (Bool×Store)}{g:Sl→Store→Option (Out×Store)}{g':Nat→Sl→Store→Option (Out×Store)}(h:∀ τ st,Co (f τ st) fun m=>f' m τ st)(h':∀ τ st,Co (g τ st) fun m=>g' m τ st):∀ (k:Nat) (τ:Sl) (st:Store),Co (qda f g k τ st) fun m=>qda (f' m) (g' m) k τ st
 |0,_,_=>.refl _
 |k+1,τ,st=>by
  unfold qda
  refine(h τ st).bind fun b=>Co.ite ((h' τ _).bind fun p=>?_) (.refl _)
  cases hp:p.1 with
  |nx τ'=>exact qj8 h h' k _ _
  |ct τ'=>exact qj8 h h' k _ _
  |bk τ'=>exact .refl _
  |rt v=>exact .refl _
theorem qcn{f:Sl→Store→S→Option (Out×Store)}{f':Nat→Sl→Store→S→Option (Out×Store)}(h:∀ τ st s,Co (f τ st s) fun m=>f' m τ st s):∀ (ss:List S) (τ:Sl) (st:Store),Co (exs f ss τ st) fun m=>exs (f' m) ss τ st
 |[],_,_=>.refl _
 |s::ss,τ,st=>by
  unfold exs
  refine(h τ st s).bind fun p=>?_
  cases hp:p.1 with
  |nx τ'=>exact qcn h ss _ _
  |_=>exact .refl _
section
variable {r:R}{r':Nat→R}(h:Le r r')
include h
theorem qb6(τ:Sl)(st:Store)(e:E):Co (src r τ st e) fun m=>src (r' m) τ st e:=by
 cases e with
 |rng1 a=>exact(h.ev τ st a).bind fun p=>.refl _
 |rng2 a b=>exact(h.ev τ st a).bind fun p=>(h.ev τ _ b).bind fun q=>.refl _
 |rng3 a b c=>exact(h.ev τ st a).bind fun p=>(h.ev τ _ b).bind fun q=>(h.ev τ _ c).bind fun u=>.refl _
 |zip a b=>exact(h.ev τ st a).bind fun p=>(h.ev τ _ b).bind fun q=>.refl _
 |_=>exact(h.ev τ st _).bind fun p=>.refl _
theorem qym(τ:Sl)(st:Store)(e:Option E):Co (part r τ st e) fun m=>part (r' m) τ st e:=by
 cases e with
 |none=>exact .refl _
 |some e=>exact(h.ev τ st e).bind fun p=>.refl _
theorem qc7(t:T)(test:Option E)(elt:E)(τ:Sl)(st:Store)(d:D):Co (turnC r t test elt τ st d) fun m=>turnC (r' m) t test elt τ st d:=by
 unfold turnC
 refine(Co.refl _).bind fun τ'=>?_
 cases test with
 |none=>exact(h.ev _ _ _).map _
 |some c=>exact(h.tst _ _ _).bind fun b=>Co.ite ((h.ev _ _ _).map _) (.refl _)
theorem qaj(τ:Sl)(st:Store)(neg:Bool)(a b:E):Co (dinR r τ st neg a b) fun m=>dinR (r' m) τ st neg a b:=(h.ev τ st a).bind fun p=>(h.ev τ _ b).bind fun q=>.refl _
theorem qy7(τ:Sl)(st:Store)(neg:Bool)(ks:List PySem.Str)(b:E):Co (ginR r τ st neg ks b) fun m=>ginR (r' m) τ st neg ks b:=(h.ev τ st b).bind fun p=>.refl _
theorem qat(τ:Sl)(st:Store)(e:E):Co (stepEv r τ st e) fun m=>stepEv (r' m) τ st e:=by
 cases e with
 |var i=>exact .refl _
 |lit d=>exact .refl _
 |glo x d=>exact .refl _
 |bin op a b=>exact(h.ev τ st a).bind fun p=>(h.ev τ _ b).bind fun q=>.refl _
 |neg a=>exact(h.ev τ st a).bind fun p=>.refl _
 |not a=>exact(h.ev τ st a).bind fun p=>.refl _
 |cmp op a b=>exact(h.ev τ st a).bind fun p=>(h.ev τ _ b).bind fun q=>.refl _
 |cmp2 op op' a b c=>exact(h.ev τ st a).bind fun p=>(h.ev τ _ b).bind fun q=>(Co.refl _).bind fun k=>Co.ite ((h.ev τ _ c).bind fun u=>.refl _) (.refl _)
 |and a b=>
  refine(h.ev τ st a).bind fun p=>?_
  obtain⟨d,s⟩:=p
  cases d with
  |bl k=>cases k with
   |true=>exact h.ev τ _ b
   |false=>exact .refl _
  |_=>exact .refl _
 |or a b=>
  refine(h.ev τ st a).bind fun p=>?_
  obtain⟨d,s⟩:=p
  cases d with
  |bl k=>cases k with
   |false=>exact h.ev τ _ b
   |true=>exact .refl _
  |_=>exact .refl _
 |ite c a b=>exact(h.tst τ st c).bind fun p=>Co.ite (h.ev τ _ a) (h.ev τ _ b)
 |tup es=>exact(qqh (h.ev τ) es st).bind fun p=>.refl _
 |lst es=>exact(qqh (h.ev τ) es st).bind fun p=>.refl _
 |idx a b=>exact(h.ev τ st a).bind fun p=>(h.ev τ _ b).bind fun q=>.refl _
 |sli a lo hi=>exact(h.ev τ st a).bind fun p=>(qym h τ _ lo).bind fun l=>(qym h τ _ hi).bind fun u=>.refl _
 |call f es=>exact(qqh (h.ev τ) es st).bind fun p=>h.call f _ _
 |bcall f es=>exact(qqh (h.ev τ) es st).bind fun p=>.refl _
 |isi a ts m=>exact(h.ev τ st a).bind fun p=>.refl _
 |rev a=>exact(h.ev τ st a).bind fun p=>.refl _
 |lenset a=>exact(h.ev τ st a).bind fun p=>.refl _
 |cat a b=>exact(h.ev τ st a).bind fun p=>(h.ev τ _ b).bind fun q=>.refl _
 |gc a=>exact(h.ev τ st a).map _
 |meth a m es=>exact(h.ev τ st a).bind fun p=>Co.ite ((qqh (h.ev τ) es _).bind fun q=>.refl _) (.refl _)
 |rng1 a=>exact .refl _
 |rng2 a b=>exact .refl _
 |rng3 a b c=>exact .refl _
 |zip a b=>exact .refl _
 |dic es=>exact(qqh (h.ev τ) es _).bind fun p=>.refl _
 |didx a b=>exact(h.ev τ st a).bind fun p=>(h.ev τ _ b).bind fun q=>.refl _
 |din neg a b=>exact qaj h τ st neg a b
 |dgt a b=>
  refine(h.ev τ st a).bind fun p=>?_
  obtain⟨d,s⟩:=p
  cases d with
  |loc l=>exact(Co.refl _).bind fun _=>(h.ev τ _ b).bind fun q=>.refl _
  |_=>exact .refl _
 |fmt a=>exact(h.ev τ st a).bind fun p=>.refl _
 |fstr es=>exact(qqh (h.ev τ) es st).bind fun p=>.refl _
 |gidx x ks ds b=>exact(h.ev τ st b).bind fun p=>.refl _
 |gin neg x ks b=>exact qy7 h τ st neg ks b
 |comp t it test elt sr=>exact(qb6 h τ st it).bind fun p=>(qv9 (qc7 h t test elt) _ _ _ _ _).map _
theorem qyv(τ:Sl)(st:Store)(e:E):Co (stepTst r τ st e) fun m=>stepTst (r' m) τ st e:=by
 cases e with
 |not a=>exact(h.tst τ st a).map _
 |and a b=>exact(h.tst τ st a).bind fun p=>Co.ite (h.tst τ _ b) (.refl _)
 |or a b=>exact(h.tst τ st a).bind fun p=>Co.ite (.refl _) (h.tst τ _ b)
 |ite _ _ _=>exact .refl _
 |din neg a b=>exact(qaj h τ st neg a b).bind fun p=>.refl _
 |gin neg x ks b=>exact(qy7 h τ st neg ks b).bind fun p=>.refl _
 |cmp op a b=>exact(h.ev τ st a).bind fun p=>(h.ev τ _ b).bind fun q=>.refl _
 |cmp2 op op' a b c=>exact(h.ev τ st a).bind fun p=>(h.ev τ _ b).bind fun q=>(Co.refl _).bind fun k=>Co.ite ((h.ev τ _ c).bind fun u=>.refl _) (.refl _)
 |_=>exact(h.ev τ st _).bind fun p=>.refl _
theorem qas(τ:Sl)(st:Store)(s:S):Co (stepEx r τ st s) fun m=>stepEx (r' m) τ st s:=by
 cases s with
 |set t e=>exact(h.ev τ st e).bind fun p=>.refl _
 |setIx a i e=>exact(h.ev τ st e).bind fun p=>(h.ev τ _ a).bind fun q=>(h.ev τ _ i).bind fun u=>.refl _
 |dset a i e=>exact(h.ev τ st e).bind fun p=>(h.ev τ _ a).bind fun q=>(h.ev τ _ i).bind fun u=>.refl _
 |rais=>exact .refl _
 |expr e=>exact(h.ev τ st e).map _
 |ret e=>exact(h.ev τ st e).map _
 |retN=>exact .refl _
 |ite c a b=>exact(h.tst τ st c).bind fun p=>Co.ite (h.ex τ _ a) (h.ex τ _ b)
 |forr t it body=>exact(qb6 h τ st it).bind fun p=>qvj (fun τ st d=>(Co.refl _).bind fun τ'=>h.ex τ' st body) _ _ _ _
 |whil c body=>exact qj8 (fun τ st=>h.tst τ st c) (fun τ st=>h.ex τ st body) _ _ _
 |aug i op e=>
  simp only[stepEx]
  cases h1:τ[i]? with
  |none=>exact .none _
  |some o=>
   cases o with
   |none=>exact .none _
   |some x=>exact(h.ev τ st e).bind fun p=>.refl _
 |brk=>exact .refl _
 |cnt=>exact .refl _
 |pass=>exact .refl _
theorem qd8(c:Nat→List D→Store→Option (D×Store)):Le (step c r) fun m=>step c (r' m):=
 ⟨qat h,qyv h,fun τ st ss=>qcn (qas h) ss τ st,fun f ds st=>.refl _⟩
end
theorem qb8(c:Nat→List D→Store→Option (D×Store)):∀ n,Le (runK c n) fun _=>runK c (n+1)
 |0=>⟨fun _ _ _=>.none _,fun _ _ _=>.none _,fun _ _ _=>.none _,fun _ _ _=>.refl _⟩
 |n+1=>qd8 (qb8 c n) c
section
variable {c:Nat→List D→Store→Option (D×Store)}{n N:Nat}
theorem ex_up{τ:Sl}{st:Store}{e:List S}{x:Out×Store}(h:(runK c n).ex τ st e=some x)(hN:n≤N):(runK c N).ex τ st e=some x:=by
 induction hN with
 |refl=>exact h
 |step _ ih=>obtain⟨k,hk⟩:=(qb8 c _).ex τ st e x ih; exact hk k (Qqc _)
end
theorem qmv{α:Type}{f:Nat→Option α}{n:Nat}{x:α}(up:∀ n N x,f n=some x→n≤N→f N=some x)(h:f n=some x):lim1 f=some x:=by
 have hx:∃ x,∃ n,f n=some x:=⟨x,n,h⟩
 unfold lim1
 rw[dif_pos hx]
 obtain⟨k,hk⟩:=hx.choose_spec
 have e1:=up _ (max n k) _ h (by omega)
 have e2:=up _ (max n k) _ hk (by omega)
 rw[e1]at e2
 exact e2.symm
section
variable {fns:List Fn}{d:Nat}{τ:Sl}{st:Store}
theorem call_of{f:Nat}{F:Fn}{ds:List D}{st':Store}{v:D}(n:Nat)(hf:fns[f]?=some F)(hl:ds.length=F.np)(hτ:ds.map some++List.replicate (F.nl - ds.length) none=τ)
  (h:exs (stepEx (rn fns d n)) F.body τ st=some (.rt v,st')):callD fns (d+1) f ds st=some (v,st'):=by
 show stepCall fns (RL (callD fns d)) f ds st=_
 unfold stepCall
 rw[hf]
 dsimp only
 have e:(RL (callD fns d)).ex τ st F.body=some (.rt v,st'):=qmv (n:=n+1) (fun _ _ _ h k=>ex_up h k) h
 rw[if_pos hl,hτ,e]
 rfl
theorem ev_k{c:Nat→List D→Store→Option (D×Store)}{n:Nat}(e:E):(runK c (n+1)).ev τ st e=stepEv (runK c n) τ st e:=rfl
theorem qzl{c:Nat→List D→Store→Option (D×Store)}{n:Nat}(e:E):(runK c (n+1)).tst τ st e=stepTst (runK c n) τ st e:=rfl
theorem ex_k{c:Nat→List D→Store→Option (D×Store)}{n:Nat}(e:List S):(runK c (n+1)).ex τ st e=exs (stepEx (runK c n)) e τ st:=rfl
theorem call_k{c:Nat→List D→Store→Option (D×Store)}{n:Nat}(f:Nat)(ds:List D):(runK c (n+1)).call f ds st=c f ds st:=rfl
end
end M
end
section
namespace M
open PySem (Str)
section
variable {r:R}{s:Src}{S:Store}{rest:Sl}{elt:E}{ds:List D}
theorem qy1{es:List D}(hat:∀ i,s.at S i=some ds[i]?)(hlen:es.length=ds.length)(hlim:ds.length<lim)(he:∀ (i:Nat) (d e:D),ds[i]?=some d→es[i]?=some e→r.ev (some d::rest) S elt=some (e,S)):
  ∀ (k i:Nat) (o:Option D),i+k=ds.length→loopC s (turnC r (.var 0) none elt) (k+1) i (es.take i) (o::rest) S=some (es,S)
 |0,i,o,h=>by
  have e:i=ds.length:=by omega
  subst e
  have h1:es.take ds.length=es:=Qzz (by omega)
  rw[loopC,hat,h1]
  simp only[oBs,Qz1 (Qqc _)]
  rw[if_neg (by omega)]
 |k+1,i,o,h=>by
  have hi:i<ds.length:=by omega
  have h1:ds[i]?=some ds[i]:=by simp
  have h2:es[i]?=some (es[i]'(by omega)):=by simp
  have h3:=he i _ _ h1 h2
  rw[loopC,hat,h1]
  simp only[oBs]
  rw[if_neg (by rw[Qzf]; omega)]
  have e1:turnC r (.var 0) none elt (o::rest) S ds[i]=some (some (es[i]'(by omega)),some ds[i]::rest,S):=by
   unfold turnC
   simp only[setT,Qqv,Nat.zero_lt_succ,if_true,List.set_cons_zero,oBs,h3,oMs]
  rw[e1]
  simp only[oBs]
  rw[show es.take i++[es[i]'(by omega)]=es.take (i+1) by rw[List.take_succ_eq_append_getElem (by omega)]]
  exact qy1 hat hlen hlim he k (i+1) _ (by omega)
end
theorem qh1{r:R}{τ:Sl}{S S':Store}{it elt:E}{sr:List (Option Nat)}{s:Src}{rest:Sl}{ds es:List D}(hsrc:src r τ S it=some (s,S'))(hat:∀ i,s.at S' i=some ds[i]?)(hsz:s.size S'=ds.length)(hin:inner sr τ=none::rest)(hlen:es.length=ds.length)(hlim:ds.length<lim)
  (he:∀ (i:Nat) (d e:D),ds[i]?=some d→es[i]?=some e→r.ev (some d::rest) S' elt=some (e,S')):stepEv r τ S (.comp (.var 0) it none elt sr)=some (.loc S'.length,S'++[.lst true es]):=by
 have h:=qy1 (r:=r) (s:=s) (S:=S') (rest:=rest) (elt:=elt) hat hlen hlim he ds.length 0 none (by omega)
 show((src r τ S it).bind fun p=>(loopC p.1 (turnC r (.var 0) none elt) (p.1.size p.2+1) 0 [] (inner sr τ) p.2).map fun q=>alloc q.2 (.lst true q.1))=_
 rw[hsrc]
 simp only[oBs,hsz,hin]
 rw[show([]:List D)=es.take 0 by simp,h]
 rfl
theorem qgg{S:Store}(lo:Int)(n:Nat)(i:Nat):(Src.rng lo n).at S i=some ((List.range n).map fun(j:Nat)=>D.int (lo+j))[i]?:=by
 simp only[Src.at,Qqn]
 by_cases h:i<n
 ·rw[if_pos h,List.getElem?_range h]; rfl
 ·rw[if_neg h,Qz1 (by simpa using h)]; rfl
end M
end
section
namespace M
open PySem (Str)
section
variable {st r:Store}{d:D}{ds:List D}
theorem qch(h:noLoc d=true):gcD st (d,st++r)=(d,st):=by
 unfold gcD
 rw[if_pos (by simp),if_pos h]
theorem qby(h:noLoc d=true):gcD st (d,st)=(d,st):=by
 have:=qch (st:=st) (r:=[]) h
 rwa [Qqh]at this
theorem qqf(i:Int):gcD st (.int i,st)=(.int i,st):=qby rfl
theorem gc_bl(i:Bool):gcD st (.bl i,st)=(.bl i,st):=qby rfl
theorem qzg:noLoc (.tup ds)=noLocs ds:=by rw[noLoc]
theorem qjg:noLoc (.lst ds)=noLocs ds:=by rw[noLoc]
theorem qdw:noLocs []=true:=rfl
theorem qzu:noLocs (d::ds)=(noLoc d&&noLocs ds):=rfl
theorem qqo:∀ {ds:List D},noLocs ds=ds.all noLoc
 |[]=>rfl
 |d::ds=>by rw[qzu,Qjq,qqo]
theorem qvz(h:∀ d∈ds,noLoc d=true):noLocs ds=true:=by rw[qqo,Qq3]; exact h
theorem qz0{α:Type}{xs:List α}{g:α→D}(h:∀ x∈xs,noLoc (g x)=true):noLocs (xs.map g)=true:=qvz fun d hd=>by
 obtain⟨x,hx,rfl⟩:=Qq5.mp hd
 exact h x hx
theorem qjf{es:List D}:noLocs (ds++es)=(noLocs ds&&noLocs es):=by rw[qqo,qqo,qqo,List.all_append]
theorem qii(h:noLocs ds=true):gcD st (.loc st.length,st++[.lst true ds])=(.lst ds,st):=by
 unfold gcD
 rw[if_pos (by simp),if_neg (by simp[noLoc])]
 simp[h]
theorem qme{k:Nat}(h:noLocs ds=true)(hk:r[k]?=some (.lst true ds)):gcD st (.loc (st.length+k),st++r)=(.lst ds,st):=by
 unfold gcD
 rw[if_pos (by simp),if_neg (by simp[noLoc])]
 have e:(st++r)[st.length+k]?=some (.lst true ds):=by rw[Qq8 (by omega),show st.length+k - st.length=k by omega]; exact hk
 simp only[e,h]
 simp
end
theorem qzk{r:R}{τ:Sl}{st st':Store}{c:E}{a b:List S}(h:r.tst τ st c=some (true,st')):stepEx r τ st (.ite c a b)=r.ex τ st' a:=by
 show(r.tst τ st c).bind _=_
 rw[h]; rfl
theorem qzx{r:R}{τ:Sl}{st st':Store}{c:E}{a b:List S}(h:r.tst τ st c=some (false,st')):stepEx r τ st (.ite c a b)=r.ex τ st' b:=by
 show(r.tst τ st c).bind _=_
 rw[h]; rfl
noncomputable def cDraw:List S:=[
 .set (.var 4) (.lit (.int 0)),
 .set (.var 5) (.lit (.int 1)),
 .ite (.cmp .Gt (.bcall .len [(.var 0)]) (.lit (.int 0))) [.set (.var 4) (.idx (.var 0) (.bin .Mod (.var 1) (.bcall .len [(.var 0)]))),.set (.var 5) (.bin .FloorDiv (.var 1) (.bcall .len [(.var 0)]))] [],
 .set (.var 6) (.var 4),
 .forr (.var 7) (.rng1 (.var 2)) [.set (.var 6) (.bin .FloorDiv (.var 6) (.bin .Pow (.lit (.int 10)) (.lit (.int 10))))],
 .ite (.and (.cmp .Eq (.var 5) (.lit (.int 0))) (.and (.cmp .GtE (.var 4) (.bin .Pow (.lit (.int 10)) (.lit (.int 18)))) (.cmp .Gt (.var 6) (.lit (.int 0))))) [.ret (.bin .Mod (.bin .Mod (.var 6) (.bin .Pow (.lit (.int 10)) (.lit (.int 10)))) (.var 3))] [],
 .set (.var 8) (.bin .Mod (.bin .Add (.bin .Add (.bin .Add (.bin .Mult (.var 4) (.lit (.int 7919))) (.bin .Mult (.var 1) (.lit (.int 104729)))) (.bin .Mult (.var 2) (.lit (.int 1299709)))) (.lit (.int 31))) (.lit (.int 1000000007))),
 .set (.var 9) (.bin .Mod (.bin .Add (.bin .Mult (.var 8) (.lit (.int 48271))) (.bin .FloorDiv (.var 4) (.lit (.int 1009)))) (.lit (.int 998244353))),
 .set (.var 9) (.bin .Mod (.bin .Add (.bin .Mult (.var 9) (.bin .Add (.bin .Mod (.var 8) (.lit (.int 9973))) (.lit (.int 1)))) (.var 2)) (.lit (.int 1000000009))),
 .ret (.bin .Mod (.bin .Mod (.bin .Add (.bin .Add (.bin .Mult (.var 8) (.lit (.int 69621))) (.bin .Mult (.var 9) (.lit (.int 40692)))) (.bin .FloorDiv (.var 9) (.lit (.int 1013)))) (.lit (.int 2147483647))) (.var 3))]
noncomputable def qho:Fn:=⟨4,10,cDraw⟩
theorem qmz{a b:Int}(h1:-(2 ^ 64)<b)(h2:b<2 ^ 64):mulOk a b=true:=by unfold mulOk; simp; omega
theorem qfx{a b:Int}(h1:-(2 ^ 64)<a)(h2:a<2 ^ 64):mulOk a b=true:=by unfold mulOk; simp; omega
noncomputable def qkn(ns:List Int)(k:Int):Int×Int:=if ns=[] then(0,1) else(ns.getD (k % (ns.length:Int)).toNat 0,k / ns.length)
noncomputable def qvu:Nat→Int→Int
 |0,c=>c
 |n+1,c=>qvu n c / 10000000000
noncomputable def drawF(c k j many:Int):Int:=(fun one=>(fun two=>(fun two'=>(one*69621+two'*40692+two' / 1013) % 2147483647 % many) ((two*(one % 9973+1)+j) % 1000000009)) ((one*48271+c / 1009) % 998244353)) ((c*7919+k*104729+j*1299709+31) % 1000000007)
noncomputable def drawV(ns:List Int)(k j many:Int):Int:=
 if (qkn ns k).2=0∧1000000000000000000≤(qkn ns k).1∧0<qvu j.toNat (qkn ns k).1 then qvu j.toNat (qkn ns k).1 % 10000000000 % many else drawF (qkn ns k).1 k j many
theorem qq7(ns:List Int)(k j:Int){many:Int}(h:0<many):0≤drawV ns k j many:=by
 unfold drawV
 split
 ·exact Int.emod_nonneg _ (by omega)
 ·exact Int.emod_nonneg _ (by omega)
theorem qq8(ns:List Int)(k j:Int){many:Int}(h:0<many):drawV ns k j many<many:=by
 unfold drawV
 split
 ·exact Int.emod_lt_of_pos _ h
 ·exact Int.emod_lt_of_pos _ h
section
variable {c:Nat→List D→Store→Option (D×Store)}{n:Nat}{τ:Sl}{st:Store}
theorem evB{op:PySem.Operator}{A B:E}{a b r:D}(ha:(runK c n).ev τ st A=some (a,st))(hb:(runK c n).ev τ st B=some (b,st))(hr:binop st op a b=some (r,st)):(runK c (n+1)).ev τ st (.bin op A B)=some (r,st):=by
 rw[ev_k]
 simp only[stepEv,ha,hb,oBs,hr]
theorem evX{a b:E}{x y r:D}(ha:(runK c n).ev τ st a=some (x,st))(hb:(runK c n).ev τ st b=some (y,st))(h:idxD st x y=some r):(runK c (n+1)).ev τ st (.idx a b)=some (r,st):=by
 rw[ev_k]
 simp only[stepEv,ha,hb,oBs,h,oMs]
theorem stS{τ':Sl}{i:Nat}{e:E}{d:D}(he:(runK c n).ev τ st e=some (d,st))(ht:setT (.var i) d τ=some τ'):stepEx (runK c n) τ st (.set (.var i) e)=some (.nx τ',st):=by
 simp only[stepEx,he,oBs,ht,oMs]
theorem stR{e:E}{d:D}(he:(runK c n).ev τ st e=some (d,st)):stepEx (runK c n) τ st (.ret e)=some (.rt d,st):=by
 simp only[stepEx,he,oMs]
theorem tCmp{op:PySem.CmpOp}{a b:E}{x y:D}{k:Bool}(ha:(runK c n).ev τ st a=some (x,st))(hb:(runK c n).ev τ st b=some (y,st))(h:cmpD st op x y=some k):(runK c (n+1)).tst τ st (.cmp op a b)=some (k,st):=by
 rw[qzl]
 simp only[stepTst,ha,hb,oBs,h,oMs]
theorem tAnd{a b:E}{x y:Bool}(ha:(runK c n).tst τ st a=some (x,st))(hb:(runK c n).tst τ st b=some (y,st)):(runK c (n+1)).tst τ st (.and a b)=some (x&&y,st):=by
 rw[qzl]
 simp only[stepTst,ha,oBs]
 cases x with
 |true=>rw[if_pos rfl,hb]; rfl
 |false=>rfl
end
theorem bMu(S:Store)(a:Int){b:Int}(h0:-(2 ^ 64)<b)(h1:b<2 ^ 64):binop S .Mult (.int a) (.int b)=some (.int (a*b),S):=by
 simp only[binop]
 rw[if_pos (qmz h0 h1)]
theorem bMo(S:Store)(a:Int){b:Int}(h:0<b):binop S .Mod (.int a) (.int b)=some (.int (a % b),S):=by
 simp only[binop]
 rw[if_pos h]
theorem bDi(S:Store)(a:Int){b:Int}(h:0<b)(h1:b<2 ^ 64):binop S .FloorDiv (.int a) (.int b)=some (.int (a / b),S):=by
 simp only[binop]
 rw[if_pos ⟨h,h1⟩]
noncomputable abbrev dT(ns:List Int)(k j many:Int)(r:Sl):Sl:=some (.lst (ns.map D.int))::some (.int k)::some (.int j)::some (.int many)::r
theorem qde{c:Nat→List D→Store→Option (D×Store)}(st:Store)(ns:List Int)(k j many:Int)(hn:ns.length≤63):
  exs (stepEx (runK c 30)) (cDraw.take 4) (dT ns k j many [none,none,none,none,none,none]) st=some (.nx (dT ns k j many [some (.int (qkn ns k).1),some (.int (qkn ns k).2),some (.int (qkn ns k).1),none,none,none]),st):=by
 by_cases he:ns=[]
 ·subst he
  rfl
 ·have hp:0<ns.length:=List.length_pos_iff.mpr he
  have hz:0<(ns.length:Int):=by omega
  have h1:0≤k % (ns.length:Int):=Int.emod_nonneg _ (by omega)
  have h2:k % (ns.length:Int)<ns.length:=Int.emod_lt_of_pos _ hz
  have h5:(k % (ns.length:Int)).toNat<ns.length:=by omega
  have eC:qkn ns k=(ns[(k % (ns.length:Int)).toNat]'h5,k / ns.length):=by
   unfold qkn
   rw[if_neg he,Qzm,Qqi h5]
   rfl
  rw[eC]
  have l:∀ (m:Nat) (r:Sl),(runK c (m+2)).ev (dT ns k j many r) st (.bcall .len [(.var 0)])=some (.int ns.length,st):=fun m r=>by
   have v:(runK c (m+1)).ev (dT ns k j many r) st (.var 0)=some (.lst (ns.map D.int),st):=rfl
   rw[ev_k]
   simp only[stepEv,evs,v,oBs,bfun,bLen,seqAt,oMs,Qqj]
  have x:idxD st (.lst (ns.map D.int)) (.int (k % ns.length))=some (.int (ns[(k % (ns.length:Int)).toNat]'h5)):=by
   simp only[idxD,seqAt,oBs,atI,ixN,h1,if_true,Qqj,h2,Qqn,Qqi h5,oMs]
  refine(qzz (τ':=dT ns k j many [some (.int 0),none,none,none,none,none]) (s':=st) rfl).trans ?_
  refine(qzz (τ':=dT ns k j many [some (.int 0),some (.int 1),none,none,none,none]) (s':=st) rfl).trans ?_
  have t:=tCmp (c:=c) (n:=29) (τ:=dT ns k j many [some (.int 0),some (.int 1),none,none,none,none]) (st:=st) (op:=.Gt) (b:=.lit (.int 0)) (y:=.int 0) (k:=true) (l 27 _) rfl (by
   show some (decide ((0:Int)<ns.length))=_
   rw[decide_eq_true hz])
  refine(qzz (τ':=dT ns k j many [some (.int (ns[(k % (ns.length:Int)).toNat]'h5)),some (.int (k / ns.length)),none,none,none,none]) (s':=st) ((qzk t).trans ?_)).trans rfl
  refine(qzz (τ':=dT ns k j many [some (.int (ns[(k % (ns.length:Int)).toNat]'h5)),some (.int 1),none,none,none,none]) (s':=st) (stS (evX (n:=28) (x:=.lst (ns.map D.int)) rfl (evB (n:=27) (a:=.int k) rfl (l 25 _) (bMo _ _ hz)) x) rfl)).trans ?_
  exact(qzz (τ':=dT ns k j many [some (.int (ns[(k % (ns.length:Int)).toNat]'h5)),some (.int (k / ns.length)),none,none,none,none]) (s':=st) (stS (evB (n:=28) (a:=.int k) rfl (l 26 _) (bDi _ _ hz (by omega))) rfl)).trans rfl
theorem qbc{c:Nat→List D→Store→Option (D×Store)}(st:Store)(ns:List Int)(k j many cell turn:Int)(hj:0≤j)(hj2:j<100000):
  ∃ o,stepEx (runK c 30) (dT ns k j many [some (.int cell),some (.int turn),some (.int cell),none,none,none]) st (.forr (.var 7) (.rng1 (.var 2)) [.set (.var 6) (.bin .FloorDiv (.var 6) (.bin .Pow (.lit (.int 10)) (.lit (.int 10))))])=some (.nx (dT ns k j many [some (.int cell),some (.int turn),some (.int (qvu j.toNat cell)),o,none,none]),st):=by
 have hb:big j=false:=by unfold big; simp; omega
 obtain⟨τ',st',e,o,hT,hS⟩:=qca (lo:=0) (n:=j.toNat) (τ:=dT ns k j many [some (.int cell),some (.int turn),some (.int cell),none,none,none]) (st:=st)
  (f:=fun τ st d=>(setT (.var 7) d τ).bind fun τ'=>(runK c 30).ex τ' st [.set (.var 6) (.bin .FloorDiv (.var 6) (.bin .Pow (.lit (.int 10)) (.lit (.int 10))))])
  (fun i τ s=>∃ (o:Option D),τ=dT ns k j many [some (.int cell),some (.int turn),some (.int (qvu i cell)),o,none,none]∧s=st) ⟨none,rfl,rfl⟩ (by
   rintro i τ s hi ⟨o,rfl,rfl⟩
   refine⟨dT ns k j many [some (.int cell),some (.int turn),some (.int (qvu i cell / 10000000000)),some (.int (0+i)),none,none],s,?_,_,rfl,rfl⟩
   show exs (stepEx (runK c 29)) _ (dT ns k j many [some (.int cell),some (.int turn),some (.int (qvu i cell)),some (.int (0+i)),none,none]) s=_
   exact(qzz (τ':=dT ns k j many [some (.int cell),some (.int turn),some (.int (qvu i cell / 10000000000)),some (.int (0+i)),none,none]) (s':=s) (stS (evB (n:=28) (a:=.int (qvu i cell)) (b:=.int 10000000000) rfl rfl (bDi _ _ (by decide) (by decide))) rfl)).trans rfl)
 rw[hT,hS]at e
 refine⟨o,?_⟩
 have v:(runK c 30).ev (dT ns k j many [some (.int cell),some (.int turn),some (.int cell),none,none,none]) st (.var 2)=some (.int j,st):=rfl
 simp only[stepEx,src,v,oBs,hb,Qq0,if_false,Src.size]
 exact e
theorem qhs{fns:List Fn}{f:Nat}(hf:fns[f]?=some qho)(n:Nat)(st:Store)(ns:List Int)(k j many:Int)(hn:ns.length≤63)(hj:0≤j)(hj2:j<100000)(hm:0<many):
  callD fns (n+1) f [.lst (ns.map D.int),.int k,.int j,.int many] st=some (.int (drawV ns k j many),st):=by
 refine call_of 30 hf rfl rfl ?_
 show exs (stepEx (rn fns n 30)) (cDraw.take 4++cDraw.drop 4) (dT ns k j many [none,none,none,none,none,none]) st=_
 rw[qaz _ (qde st ns k j many hn)]
 unfold drawV
 generalize (qkn ns k).1=cell
 generalize (qkn ns k).2=turn
 obtain⟨o,e2⟩:=qbc (c:=callD fns n) st ns k j many cell turn hj hj2
 refine(qzz e2).trans ?_
 generalize qvu j.toNat cell=rest
 have t:=tAnd (c:=callD fns n) (n:=29) (τ:=dT ns k j many [some (.int cell),some (.int turn),some (.int rest),o,none,none]) (st:=st) (tCmp (n:=28) (op:=.Eq) (a:=.var 5) (b:=.lit (.int 0)) (x:=.int turn) (y:=.int 0) (k:=turn==0) rfl rfl (qqs st turn 0)) (tAnd (n:=28) (tCmp (n:=27) (op:=.GtE) (a:=.var 4) (b:=.bin .Pow (.lit (.int 10)) (.lit (.int 18))) (x:=.int cell) (y:=.int 1000000000000000000) rfl rfl rfl) (tCmp (n:=27) (op:=.Gt) (a:=.var 6) (b:=.lit (.int 0)) (x:=.int rest) (y:=.int 0) rfl rfl rfl))
 by_cases hc:turn=0∧1000000000000000000≤cell∧0<rest
 ·rw[if_pos hc]
  have tb:((turn==0)&&(decide (1000000000000000000≤cell)&&decide (0<rest)))=true:=by
   rw[hc.1,decide_eq_true hc.2.1,decide_eq_true hc.2.2]; rfl
  rw[tb]at t
  exact qzj ((qzk t).trans (qzj (stR (evB (n:=28) (b:=.int many) (evB (n:=27) (a:=.int rest) (b:=.int 10000000000) rfl rfl (bMo _ _ (by decide))) rfl (bMo _ _ hm)))))
 ·rw[if_neg hc]
  have tb:((turn==0)&&(decide (1000000000000000000≤cell)&&decide (0<rest)))=false:=by
   rw[← Qxs,Qqk,Qqk,beq_iff_eq,decide_eq_true_iff,decide_eq_true_iff]
   exact hc
  rw[tb]at t
  refine(qzz (τ':=dT ns k j many [some (.int cell),some (.int turn),some (.int rest),o,none,none]) (s':=st) ((qzx t).trans rfl)).trans ?_
  unfold drawF
  refine(qzz (stS (evB (n:=29) (b:=.int 1000000007) (evB (n:=28) (b:=.int 31) (evB (n:=27) (evB (n:=26) (evB (n:=25) (a:=.int cell) (b:=.int 7919) rfl rfl (bMu _ _ (by decide) (by decide))) (evB (n:=25) (a:=.int k) (b:=.int 104729) rfl rfl (bMu _ _ (by decide) (by decide))) rfl) (evB (n:=26) (a:=.int j) (b:=.int 1299709) rfl rfl (bMu _ _ (by decide) (by decide))) rfl) rfl rfl) rfl (bMo _ _ (by decide))) rfl)).trans ?_
  generalize (cell*7919+k*104729+j*1299709+31) % 1000000007=one
  try dsimp only
  refine(qzz (stS (evB (n:=29) (b:=.int 998244353) (evB (n:=28) (evB (n:=27) (a:=.int one) (b:=.int 48271) rfl rfl (bMu _ _ (by decide) (by decide))) (evB (n:=27) (a:=.int cell) (b:=.int 1009) rfl rfl (bDi _ _ (by decide) (by decide))) rfl) rfl (bMo _ _ (by decide))) rfl)).trans ?_
  generalize (one*48271+cell / 1009) % 998244353=two
  try dsimp only
  have h1:0≤one % 9973:=Int.emod_nonneg _ (by decide)
  have h2:one % 9973<9973:=Int.emod_lt_of_pos _ (by decide)
  refine(qzz (stS (evB (n:=29) (b:=.int 1000000009) (evB (n:=28) (b:=.int j) (evB (n:=27) (a:=.int two) rfl (evB (n:=26) (b:=.int 1) (evB (n:=25) (a:=.int one) (b:=.int 9973) rfl rfl (bMo _ _ (by decide))) rfl rfl) (bMu _ _ (by omega) (by omega))) rfl rfl) rfl (bMo _ _ (by decide))) rfl)).trans ?_
  generalize (two*(one % 9973+1)+j) % 1000000009=two'
  try dsimp only
  exact qzj (stR (evB (n:=29) (b:=.int many) (evB (n:=28) (b:=.int 2147483647) (evB (n:=27) (evB (n:=26) (evB (n:=25) (a:=.int one) (b:=.int 69621) rfl rfl (bMu _ _ (by decide) (by decide))) (evB (n:=25) (a:=.int two') (b:=.int 40692) rfl rfl (bMu _ _ (by decide) (by decide))) rfl) (evB (n:=26) (a:=.int two') (b:=.int 1013) rfl rfl (bDi _ _ (by decide) (by decide))) rfl) rfl (bMo _ _ (by decide))) rfl (bMo _ _ hm)))
theorem qmh{fns:List Fn}{f:Nat}(hf:fns[f]?=some qho){N:Nat}(hN:1≤N){st:Store}{ns:List Int}{k j many:Int}(hn:ns.length≤63)(hj:0≤j)(hj2:j<100000)(hm:0<many):
  callD fns N f [.lst (ns.map D.int),.int k,.int j,.int many] st=some (.int (drawV ns k j many),st):=by
 have:=qhs hf (N - 1) st ns k j many hn hj hj2 hm
 rwa [show N - 1+1=N by omega]at this
end M
end
section
namespace M
open PySem (Str)
abbrev CF:=Nat→List D→Store→Option (D×Store)
section
variable {c:CF}{n:Nat}{τ:Sl}{st:Store}{it elt:E}{sr:List (Option Nat)}{s:Src}{rest:Sl}{α:Type}
theorem qqw(xs:List α)(f g:α→D)(hsrc:src (runK c n) τ st it=some (s,st))(hat:∀ i,s.at st i=some (xs.map f)[i]?)(hsz:s.size st=xs.length)(hin:inner sr τ=none::rest)(hlim:xs.length<1000000)(hg:∀ x∈xs,noLoc (g x)=true)
  (he:∀ x∈xs,(runK c n).ev (some (f x)::rest) st elt=some (g x,st)):(runK c (n+2)).ev τ st (.gc (.comp (.var 0) it none elt sr))=some (.lst (xs.map g),st):=by
 have h:=qh1 (r:=runK c n) (τ:=τ) (S:=st) (S':=st) (it:=it) (elt:=elt) (sr:=sr) (s:=s) (rest:=rest) (ds:=xs.map f) (es:=xs.map g) hsrc hat (by rw[hsz,Qqj]) hin (by rw[Qqj,Qqj]) (by rw[Qqj]; unfold lim; omega) (fun i d e h1 h2=>by
  rw[Qqn]at h1 h2
  cases hx:xs[i]? with
  |none=>rw[hx]at h1; cases h1
  |some x=>
   rw[hx]at h1 h2
   cases h1
   cases h2
   exact he x (Qzb hx))
 have e1:(runK c (n+1)).ev τ st (.comp (.var 0) it none elt sr)=some (.loc st.length,st++[.lst true (xs.map g)]):=h
 show((runK c (n+1)).ev τ st (.comp (.var 0) it none elt sr)).map (fun p=>gcD st p)=_
 rw[e1]
 show some (gcD st (.loc st.length,st++[.lst true (xs.map g)]))=_
 rw[qii (qz0 hg)]
theorem qw4{d:D}{e:E}(h:(runK c n).ev τ st e=some (d,st))(hd:noLoc d=true):(runK c (n+1)).ev τ st (.gc e)=some (d,st):=by
 show((runK c n).ev τ st e).map (fun p=>gcD st p)=_
 rw[h]
 show some (gcD st (d,st))=_
 rw[qby hd]
theorem qva{ds:List D}{e:E}(h:(runK c n).ev τ st e=some (.loc st.length,st++[.lst true ds]))(hd:noLocs ds=true):(runK c (n+1)).ev τ st (.gc e)=some (.lst ds,st):=by
 show((runK c n).ev τ st e).map (fun p=>gcD st p)=_
 rw[h]
 show some (gcD st _)=_
 rw[qii hd]
theorem qxa{es:List E}{ds:List D}(h:evs ((runK c n).ev τ) es st=some (ds,st))(hl:ds.length≤1000)(hd:noLocs ds=true):(runK c (n+2)).ev τ st (.gc (.lst es))=some (.lst ds,st):=by
 refine qva ?_ hd
 show(evs ((runK c n).ev τ) es st).bind _=_
 rw[h]
 simp only[oBs]
 rw[if_neg (by unfold lim; omega)]
 rfl
theorem qci{a b:E}{x y:D}{xs ys:List D}(ha:(runK c n).ev τ st a=some (x,st))(hb:(runK c n).ev τ st b=some (y,st))(hx:x=.lst xs)(hy:y=.lst ys)(hl:xs.length+ys.length≤1000000)(hd:noLocs (xs++ys)=true):(runK c (n+2)).ev τ st (.gc (.bin .Add a b))=some (.lst (xs++ys),st):=by
 subst hx hy
 refine qva ?_ hd
 show((runK c n).ev τ st a).bind _=_
 rw[ha]
 simp only[oBs,hb,binop,seqAt]
 rw[if_neg (by unfold lim; omega)]
 rfl
theorem qau{i:Nat}{ds:List D}(h:τ[i]?=some (some (.lst ds))):src (runK c (n+1)) τ st (.var i)=some (.lst (.lst ds),st):=by
 simp only[src,ev_k,stepEv,h,oBs,seqAt,oMs]
end
theorem qxg{ds:List D}(S:Store)(i:Nat):(Src.lst (.lst ds)).at S i=some ds[i]?:=rfl
theorem qjc{ds:List D}(S:Store):(Src.lst (.lst ds)).size S=ds.length:=rfl
noncomputable def qga(f:Nat):List S:=[
 .ite (.isi (.var 1) [.tup,.lst] true) [.ite (.or (.not (.isi (.var 0) [.tup,.lst] true)) (.cmp .NotEq (.bcall .len [(.var 0)]) (.bcall .len [(.var 1)]))) [.ret (.lit (.bl false))] [],.set (.var 2) (.bcall .all [(.gc (.comp (.var 0) (.rng1 (.bcall .len [(.var 1)])) none (.gc (.call f [(.idx (.var 1) (.var 0)),(.idx (.var 2) (.var 0))])) [none,some 0,some 1]))]),.ret (.and (.var 2) (.cmp .Eq (.isi (.var 0) [.tup] false) (.isi (.var 1) [.tup] false)))] [],
 .set (.var 2) (.cmp .Eq (.isi (.var 0) [.int] false) (.isi (.var 1) [.int] false)),
 .set (.var 2) (.and (.var 2) (.cmp .Eq (.isi (.var 0) [.bl] false) (.isi (.var 1) [.bl] false))),
 .ret (.and (.var 2) (.and (.cmp .Eq (.isi (.var 0) [.str] false) (.isi (.var 1) [.str] false)) (.cmp .Eq (.var 0) (.var 1))))]
noncomputable def qhn(f:Nat):Fn:=⟨2,3,qga f⟩
inductive Dp:Nat→D→Prop
 |non {k}:Dp k .non
 |bl {k b}:Dp k (.bl b)
 |int {k i}:Dp k (.int i)
 |str {k s}:Dp k (.str s)
 |tup {k ds} (h:∀ d∈ds,Dp k d) (hl:ds.length<100000):Dp (k+1) (.tup ds)
 |lst {k ds} (h:∀ d∈ds,Dp k d) (hl:ds.length<100000):Dp (k+1) (.lst ds)
theorem Dp.noLoc{k:Nat}{d:D}(h:Dp k d):noLoc d=true:=by
 induction h with
 |tup h hl ih=>rw[qzg]; exact qvz ih
 |lst h hl ih=>rw[qjg]; exact qvz ih
 |_=>rfl
section
variable {fns:List Fn}{f:Nat}
theorem qjd(hf:fns[f]?=some (qhn f))(q m:Nat)(st:Store)(d:D)(t:Ty)(ht:∀ S,tyName S d=some t)(h1:tyIs .tup t=false)(h2:tyIs .lst t=false)(hi:Bool)(e1:tyIs .int t=hi)(hb:Bool)(e2:tyIs .bl t=hb)(hs:Bool)(e3:tyIs .str t=hs)(he:∀ S,eqD S d d=some true):callD fns (m+1) f [d,d] st=some (.bl true,st):=by
 refine call_of (q+20) hf rfl rfl ?_
 show exs (stepEx (rn fns m (q+20))) (qga f) [some d,some d,none] st=_
 unfold qga
 rw[qzz (τ':=[some d,some d,none]) (s':=st) (by
  refine(qzx (st':=st) ?_).trans rfl
  simp only[qzl,stepTst,ev_k,stepEv,Qqx,Qqz,oBs,ht,oMs,Qq2,Qzr,h1,h2,truth,Bool.or_self])]
 rw[qzz (τ':=[some d,some d,some (.bl true)]) (s':=st) (by
  simp only[stepEx,ev_k,stepEv,Qqx,Qqz,oBs,ht,oMs,Qq2,Qzr,e1,cmpD,Qzl,qax,beq_self_eq_true]
  rfl)]
 rw[qzz (τ':=[some d,some d,some (.bl true)]) (s':=st) (by
  simp only[stepEx,ev_k,stepEv,Qqx,Qqz,oBs,ht,oMs,Qq2,Qzr,e2,cmpD,Qzl,qax,beq_self_eq_true]
  rfl)]
 refine qzj ?_
 simp only[stepEx,ev_k,stepEv,Qqx,Qqz,oBs,ht,oMs,Qq2,Qzr,e3,cmpD,Qzl,qax,beq_self_eq_true,he]
theorem qb7(hf:fns[f]?=some (qhn f))(q m:Nat)(st:Store)(d:D)(ds:List D)(k:Bool)(hd:(d=.tup ds∧k=true)∨(d=.lst ds∧k=false))(hl:ds.length<100000)(ih:∀ x∈ds,callD fns m f [x,x] st=some (.bl true,st)):callD fns (m+1) f [d,d] st=some (.bl true,st):=by
 have ty:∀ S,∃ t,tyName S d=some t∧(tyIs .tup t||tyIs .lst t)=true∧tyIs .tup t=k:=fun S=>by
  rcases hd with⟨rfl,rfl⟩|⟨rfl,rfl⟩
  ·exact⟨.tup,rfl,rfl,rfl⟩
  ·exact⟨.lst,rfl,rfl,rfl⟩
 have ln:∀ S,bLen S [d]=some (.int ds.length,S):=fun S=>by
  rcases hd with⟨rfl,rfl⟩|⟨rfl,rfl⟩
  ·rfl
  ·rfl
 have ix:∀ S (i:Nat) x,ds[i]?=some x→idxD S d (.int ((0:Int)+i))=some x:=fun S i x hx=>by
  have hi:=(Qqd.mp hx).1
  have h1:(0:Int)≤0+i:=by omega
  have h2:(0:Int)+i<ds.length:=by omega
  have h3:((0:Int)+i).toNat=i:=by omega
  rcases hd with⟨rfl,rfl⟩|⟨rfl,rfl⟩
  ·simp only[idxD,atI,ixN,h1,h2,h3,if_true,oBs,hx]
  ·simp only[idxD,seqAt,atI,ixN,h1,h2,h3,if_true,oBs,hx]
 obtain⟨t,t1,t2,t3⟩:=ty st
 have hb:big (ds.length:Int)=false:=by unfold big; simp; omega
 have cm:∀ n:Nat,(rn fns m (n+10)).ev [some d,some d,none] st (.gc (.comp (.var 0) (.rng1 (.bcall .len [(.var 1)])) none (.gc (.call f [(.idx (.var 1) (.var 0)),(.idx (.var 2) (.var 0))])) [none,some 0,some 1]))=some (.lst ((List.range ds.length).map fun _=>.bl true),st):=fun n=>by
  refine qqw (n:=n+8) (s:=.rng 0 ds.length) (rest:=[some d,some d]) (List.range ds.length) (fun(i:Nat)=>.int ((0:Int)+i)) (fun _=>.bl true) ?_ (fun i=>qgg 0 _ i) (by simp[Src.size]) rfl (by simpa using (by omega:ds.length<1000000)) (fun _ _=>rfl) fun i hi=>?_
  ·simp only[src,ev_k,stepEv,evs,Qqx,Qqz,oBs,bfun,ln,hb,Qq0,if_false]
   rfl
  ·have hi:i<ds.length:=by simpa using hi
   have hx:ds[i]?=some ds[i]:=by simp
   refine qw4 (n:=n+7) ?_ rfl
   simp only[ev_k,stepEv,evs,Qqx,Qqz,oBs,ix _ i _ hx,oMs,call_k]
   exact ih _ (Qz3 hi)
 refine call_of (q+20) hf rfl rfl ?_
 show exs (stepEx (rn fns m (q+20))) (qga f) [some d,some d,none] st=_
 unfold qga
 refine qzj ?_
 refine(qzk (st':=st) ?_).trans ?_
 ·simp only[qzl,stepTst,ev_k,stepEv,Qqx,Qqz,oBs,t1,oMs,Qq2,Qzr,Qzl,t2,truth]
 rw[ex_k]
 rw[qzz (τ':=[some d,some d,none]) (s':=st) (by
  refine(qzx (st':=st) ?_).trans rfl
  simp only[qzl,stepTst,ev_k,stepEv,evs,Qqx,Qqz,oBs,t1,oMs,Qq2,Qzr,Qzl,t2,truth,Qxh,Qq0,if_false,bfun,ln,cmpD,neD,qqs,beq_self_eq_true])]
 rw[qzz (τ':=[some d,some d,some (.bl true)]) (s':=st) (by
  have al:bAll st [.lst ((List.range ds.length).map fun _=>.bl true)]=some (.bl true,st):=by
   have:∀ n:Nat,asBools ((List.range n).map fun _=>D.bl true)=some (List.replicate n true):=fun n=>by
    rw[List.map_const',List.length_range]
    induction n with
    |zero=>rfl
    |succ n ih=>rw[List.replicate_succ,List.replicate_succ,asBools,ih]; rfl
   simp only[bAll,seqAt,oBs,this,oMs]
   simp
  simp only[stepEx]
  rw[ev_k]
  simp only[stepEv,evs,cm,oBs,bfun,al]
  rfl)]
 refine qzj ?_
 simp only[stepEx,ev_k,stepEv,Qqx,Qqz,oBs,t1,oMs,Qq2,Qzr,cmpD,Qzl,qax,beq_self_eq_true]
theorem qlc(hf:fns[f]?=some (qhn f)){k:Nat}{d:D}(h:Dp k d):∀ (m:Nat) (st:Store),k<m→callD fns m f [d,d] st=some (.bl true,st):=by
 induction h with
 |non=>intro m st hm; obtain⟨m,rfl⟩:∃ j,m=j+1:=⟨m - 1,by omega⟩; exact qjd hf 0 m st .non .non (fun _=>rfl) rfl rfl _ rfl _ rfl _ rfl fun _=>eqD_nn _
 |@bl _ b=>intro m st hm; obtain⟨m,rfl⟩:∃ j,m=j+1:=⟨m - 1,by omega⟩; exact qjd hf 0 m st (.bl b) .bl (fun _=>rfl) rfl rfl _ rfl _ rfl _ rfl fun _=>by rw[qax]; simp
 |@int _ b=>intro m st hm; obtain⟨m,rfl⟩:∃ j,m=j+1:=⟨m - 1,by omega⟩; exact qjd hf 0 m st (.int b) .int (fun _=>rfl) rfl rfl _ rfl _ rfl _ rfl fun _=>by rw[qqs]; simp
 |@str _ b=>intro m st hm; obtain⟨m,rfl⟩:∃ j,m=j+1:=⟨m - 1,by omega⟩; exact qjd hf 0 m st (.str b) .str (fun _=>rfl) rfl rfl _ rfl _ rfl _ rfl fun _=>by rw[qvg]; simp
 |@tup k ds h hl ih=>intro m st hm; obtain⟨m,rfl⟩:∃ j,m=j+1:=⟨m - 1,by omega⟩; exact qb7 hf 0 m st _ ds true (.inl ⟨rfl,rfl⟩) hl fun x hx=>ih x hx m st (by omega)
 |@lst k ds h hl ih=>intro m st hm; obtain⟨m,rfl⟩:∃ j,m=j+1:=⟨m - 1,by omega⟩; exact qb7 hf 0 m st _ ds false (.inr ⟨rfl,rfl⟩) hl fun x hx=>ih x hx m st (by omega)
end
end M
end
section
namespace M
open PySem (Str)
noncomputable def mk(cs:List Nat):Str:=⟨cs.toArray⟩
noncomputable def sgn(c:Nat):D:=.str ⟨#[c]⟩
theorem qx7(cs:List Nat):(mk cs).cps.toList=cs:=rfl
theorem qz2(cs:List Nat):(mk cs).length=cs.length:=by simp[mk,Str.length]
theorem qv7(a b:List Nat):mk a++mk b=mk (a++b):=by
 show(⟨a.toArray++b.toArray⟩:Str)=⟨(a++b).toArray⟩
 simp
theorem qie{a b:List Nat}(h:mk a=mk b):a=b:=by
 have:=congrArg (fun z:Str=>z.cps.toList) h
 exact this
theorem qvq(a b:List Nat):(mk a==mk b)=(a==b):=by
 rw[Qq1,beq_iff_eq,beq_iff_eq]
 exact⟨qie,fun h=>by rw[h]⟩
theorem qji{cs:List Nat}(h:∀ c∈cs,c<128):(mk cs).cps.all (· < 128)=true:=by
 simp only[mk]
 rw[← Array.all_toList]
 simpa using h
theorem qe3(c:Nat):oneOf ⟨#[c]⟩=some c:=rfl
theorem qke:∀ zs:List Str,asStrs (zs.map D.str)=some zs
 |[]=>rfl
 |z::r=>by
  show(asStrs (r.map D.str)).map (z::·)=_
  rw[qke r]
  rfl
theorem qvp(z:Str)(S:Store)(i:Nat):(Src.str z).at S i=some ((z.cps.toList.map sgn)[i]?):=rfl
theorem at0{α:Type}(a:α)(r:List α):atI (a::r) 0=some a:=by simp[atI,ixN]
noncomputable def natD(n:Nat):List Nat:=(Nat.toDigits 10 n).map Char.toNat
theorem qlx{i:Int}(h:0≤i):Str.ofString (toString i)=mk (natD i.toNat):=by
 obtain⟨m,rfl⟩:=Int.eq_ofNat_of_zero_le h
 have e:=PySem.W.KIN.signs_num m
 have:∀ a b:Str,a.cps.toList=b.cps.toList→a=b:=fun a b q=>by
  obtain⟨x⟩:=a
  obtain⟨y⟩:=b
  have:x=y:=Array.toList_inj.mp q
  rw[this]
 exact this _ _ e
theorem qyt{n:Nat}(h:10≤n):natD n=natD (n / 10)++[n % 10+48]:=by
 have hm:n % 10<10:=Nat.mod_lt n (by decide)
 have t:Nat.toDigits 10 (n / 10)++Nat.toDigits 10 (n % 10)=Nat.toDigits 10 (10*(n / 10)+n % 10):=Nat.toDigits_append_toDigits (by decide) (by omega) hm
 rw[Nat.div_add_mod]at t
 unfold natD
 rw[← t,Qzu,Qxt hm]
 congr 1
 have:∀ d:Nat,d<10→(Nat.digitChar d).toNat=d+48:=by decide
 simp[this _ hm]
theorem qxm{n:Nat}(h:n<10):natD n=[n+48]:=by
 unfold natD
 rw[Qxt h]
 have:∀ d:Nat,d<10→(Nat.digitChar d).toNat=d+48:=by decide
 simp[this _ h]
theorem qcw(n:Nat):(natD n).all isFig=true:=by
 induction n using Nat.strongRecOn with
 |_ n ih=>
  by_cases h:n<10
  ·rw[qxm h]
   simp[isFig]
   omega
  ·rw[qyt (by omega),List.all_append,ih (n / 10) (by omega)]
   have:n % 10<10:=Nat.mod_lt n (by decide)
   simp[isFig]
   omega
theorem qfq(n:Nat):∀ c∈natD n,c<128:=fun c hc=>by
 have:=Qq3.mp (qcw n) c hc
 unfold isFig at this
 simp only[Qqk,decide_eq_true_eq]at this
 omega
noncomputable def cFig:List S:=[
 .ret (.and (.cmp .NotEq (.var 0) (.lit (.str ""))) (.bcall .all [(.gc (.comp (.var 0) (.var 0) none (.cmp .In (.var 0) (.glo "FIGURES" (.str "0123456789"))) [none]))]))]
noncomputable def fFig:Fn:=⟨1,1,cFig⟩
noncomputable def cNum(g:Nat):List S:=[
 .ite (.not (.gc (.call g [(.var 0)]))) [.ret (.lit .non)] [],
 .ite (.and (.cmp .Eq (.idx (.var 0) (.lit (.int 0))) (.lit (.str "0"))) (.cmp .NotEq (.var 0) (.lit (.str "0")))) [.ret (.lit .non)] [],
 .ret (.bcall .int [(.var 0)])]
noncomputable def fNum(g:Nat):Fn:=⟨1,1,cNum g⟩
theorem t0:PySem.Str.ofString "0" = mk [48]:=by decide +kernel
theorem te:PySem.Str.ofString "" = mk []:=by decide +kernel
noncomputable def digs:List Nat:=[48,49,50,51,52,53,54,55,56,57]
theorem td:PySem.Str.ofString "0123456789" = mk digs:=by decide +kernel
theorem qis(c:Nat):decide (c∈digs)=isFig c:=by
 by_cases h:c<58
 ·have q:∀ c<58,decide (c∈digs)=isFig c:=by decide +kernel
  exact q c h
 ·have q:∀ x∈digs,x<58:=by decide +kernel
  have e:isFig c=false:=by
   unfold isFig
   rw[Qxw,decide_eq_false_iff_not,decide_eq_false_iff_not]
   exact .inr (by omega)
  rw[e,decide_eq_false_iff_not]
  exact fun z=>h (q c z)
noncomputable def numV(cs:List Nat):D:=if cs≠[]∧cs.all isFig=true∧¬ (cs.head?=some 48∧cs≠[48]) then .int (figVal cs:Nat) else .non
theorem qfr{fns:List Fn}{g:Nat}(hg:fns[g]?=some fFig)(q m:Nat)(st:Store)(cs:List Nat)(ha:∀ c∈cs,c<128)(hl:cs.length<1000):callD fns (m+1) g [.str (mk cs)] st=some (.bl (!cs.isEmpty&&cs.all isFig),st):=by
 refine call_of (q+20) (F:=fFig) hg rfl rfl ?_
 show exs (stepEx (rn fns m (q+20))) cFig [some (.str (mk cs))] st=_
 unfold cFig
 refine qzj ?_
 have e1:∀ n:Nat,(rn fns m (n+6)).ev [some (.str (mk cs))] st (.gc (.comp (.var 0) (.var 0) none (.cmp .In (.var 0) (.glo "FIGURES" (.str "0123456789"))) [none]))=some (.lst (cs.map fun c=>D.bl (isFig c)),st):=fun n=>by
  refine qqw (n:=n+4) (s:=.str (mk cs)) (rest:=[]) cs sgn (fun c=>D.bl (isFig c)) ?_ (fun i=>qvp _ _ i) (by simp[Src.size,qx7]) rfl (by omega) (fun _ _=>rfl) fun c hc=>?_
  ·simp only[src,ev_k,stepEv,Qqz,oBs,qji ha,if_true]
  ·simp only[ev_k,stepEv,Qqz,oBs,cmpD,inD,sgn,qe3,oMs,td]
   show some (D.bl (decide (c∈digs)),st)=_
   rw[qis]
 have hb:∀ l:List Nat,asBools (l.map fun c=>D.bl (isFig c))=some (l.map isFig):=fun l=>by
  induction l with
  |nil=>rfl
  |cons a r ih=>simp[asBools,ih]
 have al:∀ S,bAll S [.lst (cs.map fun c=>D.bl (isFig c))]=some (.bl (cs.all isFig),S):=fun S=>by
  simp only[bAll,seqAt,oBs,hb,oMs,List.all_map]
  rfl
 have hne:(mk cs==mk [])=cs.isEmpty:=by
  rw[qvq]
  cases cs<;>rfl
 cases he:cs.isEmpty with
 |true=>
  simp only[stepEx,ev_k,stepEv,Qqz,oBs,te,cmpD,neD,qvg,hne,he,oMs,Qxh,Bool.false_and]
 |false=>
  simp only[stepEx]
  rw[ev_k]
  have e3:∀ n:Nat,(rn fns m (n+3)).ev [some (.str (mk cs))] st (.cmp .NotEq (.var 0) (.lit (.str "")))=some (.bl true,st):=fun n=>by
   simp only[ev_k,stepEv,Qqz,oBs,te,cmpD,neD,qvg,hne,he,oMs,Qxe]
  simp only[stepEv,e3,oBs]
  rw[ev_k]
  simp only[stepEv,evs,e1,oBs,bfun,al,oMs,Qxe,Qxi]
theorem qe5{fns:List Fn}{g f:Nat}(hg:fns[g]?=some fFig)(hf:fns[f]?=some (fNum g))(q m:Nat)(st:Store)(cs:List Nat)(ha:∀ c∈cs,c<128)(hl:cs.length<600):callD fns (m+2) f [.str (mk cs)] st=some (numV cs,st):=by
 have e0:=qfr hg 0 m st cs ha (by omega)
 refine call_of (q+20) (F:=fNum g) hf rfl rfl ?_
 show exs (stepEx (rn fns (m+1) (q+20))) (cNum g) [some (.str (mk cs))] st=_
 have t1:∀ n:Nat,(rn fns (m+1) (n+8)).tst [some (.str (mk cs))] st (.not (.gc (.call g [(.var 0)])))=some (!(!cs.isEmpty&&cs.all isFig),st):=fun n=>by
  simp only[qzl,stepTst,ev_k,stepEv,evs,Qqz,oBs,call_k,e0,oMs,gc_bl,truth]
 unfold cNum numV
 by_cases h1:cs≠[]∧cs.all isFig=true
 ·have hb:(!(!cs.isEmpty&&cs.all isFig))=false:=by
   rw[h1.2,Qjz]
   simpa using h1.1
  rw[qzz (τ':=[some (.str (mk cs))]) (s':=st) (by refine(qzx (st':=st) ?_).trans rfl; rw[t1,hb])]
  cases cs with
  |nil=>exact absurd rfl h1.1
  |cons c cr=>
   have hli:¬ lim<(mk (c::cr)).length:=by rw[qz2]; unfold lim; omega
   have hix:∀ S,idxD S (.str (mk (c::cr))) (.int 0)=some (.str (mk [c])):=fun S=>by
    simp only[idxD,hli,if_false,qx7,at0]
    rfl
   have hm:(mk [c]==mk [48])=(c==48):=by rw[qvq]; simp[Qq1]
   have t2:∀ n:Nat,(rn fns (m+1) (n+8)).tst [some (.str (mk (c::cr)))] st (.and (.cmp .Eq (.idx (.var 0) (.lit (.int 0))) (.lit (.str "0"))) (.cmp .NotEq (.var 0) (.lit (.str "0"))))=some ((c==48) && !((c::cr)==[48]),st):=fun n=>by
    simp only[qzl,stepTst,ev_k,stepEv,Qqz,oBs,hix,oMs,cmpD,neD,qvg,t0,hm,qvq]
    cases (c==48)<;>rfl
   by_cases h2:(c::cr).head?=some 48∧(c::cr)≠[48]
   ·rw[if_neg (by rintro⟨_,_,h⟩; exact h h2)]
    have hc:c=48:=by simpa using h2.1
    have h3:((c==48) && !((c::cr)==[48]))=true:=by
     rw[Qqk]
     exact⟨by simpa using hc,by rw[Qzc,beq_eq_false_iff_ne]; exact h2.2⟩
    refine qzj ((qzk (st':=st) (by rw[t2,h3])).trans ?_)
    rw[ex_k]
    exact qzj rfl
   ·rw[if_pos ⟨h1.1,h1.2,h2⟩]
    have hint:∀ S,bInt S [.str (mk (c::cr))]=some (.int (figVal (c::cr):Nat),S):=fun S=>by
     simp only[bInt,qx7,qz2]
     rw[if_pos]
     rw[h1.2]
     simpa using (show cr.length+1≤640 by simp at hl; omega)
    have h3:((c==48) && !((c::cr)==[48]))=false:=by
     cases hx:((c==48) && !((c::cr)==[48])) with
     |false=>rfl
     |true=>
      rw[Qqk]at hx
      exact absurd ⟨by simpa using hx.1,by have:=hx.2; rw[Qzc,beq_eq_false_iff_ne]at this; exact this⟩ h2
    rw[qzz (τ':=[some (.str (mk (c::cr)))]) (s':=st) (by refine(qzx (st':=st) ?_).trans rfl; rw[t2,h3])]
    refine qzj ?_
    simp only[stepEx,ev_k,stepEv,evs,Qqz,oBs,bfun,hint,oMs]
 ·rw[if_neg (fun h=>h1 ⟨h.1,h.2.1⟩)]
  have hb:(!(!cs.isEmpty&&cs.all isFig))=true:=by
   by_cases q:cs=[]
   ·subst q; rfl
   ·have:¬ cs.all isFig=true:=fun z=>h1 ⟨q,z⟩
    simp only[Qxs]at this
    rw[this,Qx7]
    rfl
  refine qzj ((qzk (st':=st) (by rw[t1,hb])).trans ?_)
  rw[ex_k]
  exact qzj rfl
noncomputable def qjo(c:Nat):List (List Nat)→List Nat
 |[]=>[]
 |[p]=>p
 |p::q::r=>p++c::qjo c (q::r)
theorem qff(c:Nat):∀ ps:List (List Nat),Str.join (mk [c]) (ps.map mk)=mk (qjo c ps)
 |[]=>rfl
 |[p]=>rfl
 |p::q::r=>by
  have ih:=qff c (q::r)
  show mk p++mk [c]++Str.join (mk [c]) ((q::r).map mk)=_
  rw[ih,qv7,qv7]
  show mk (p++[c]++qjo c (q::r))=mk (p++c::qjo c (q::r))
  simp
theorem qvk(c B:Nat):∀ ps:List (List Nat),(∀ p∈ps,p.length≤B)→(qjo c ps).length≤ps.length*(B+1)
 |[],_=>by simp[qjo]
 |[p],h=>by have:=h p Qqe; simp[qjo]; omega
 |p::q::r,h=>by
  have ih:=qvk c B (q::r) fun z hz=>h z (Qqy _ hz)
  have:=h p Qqe
  show(p++c::qjo c (q::r)).length≤_
  simp only[Qqu,Qqv]at ih ⊢
  have e:(r.length+1+1)*(B+1)=(r.length+1)*(B+1)+(B+1):=Nat.succ_mul _ _
  omega
theorem qjn(c:Nat):∀ (ps:List (List Nat)) (x:Nat),x∈qjo c ps→x=c∨∃ p∈ps,x∈p
 |[],x,h=>by simp[qjo]at h
 |[p],x,h=>.inr ⟨p,Qqe,h⟩
 |p::q::r,x,h=>by
  have h:x∈p++c::qjo c (q::r):=h
  rcases Qz7.mp h with z|z
  ·exact .inr ⟨p,Qqe,z⟩
  ·rcases Qqw.mp z with y|y
   ·exact .inl y
   ·rcases qjn c (q::r) x y with w|⟨p',hp,w⟩
    ·exact .inl w
    ·exact .inr ⟨p',Qqy _ hp,w⟩
theorem qwu:∀ (k n:Nat),n<10 ^ (k+1)→(natD n).length≤k+1
 |0,n,h=>by rw[qxm (by simpa using h)]; simp
 |k+1,n,h=>by
  by_cases h1:n<10
  ·rw[qxm h1]; simp
  ·have:n / 10<10 ^ (k+1):=by
    rw[Nat.div_lt_iff_lt_mul (by decide)]
    rw[Nat.pow_succ]at h
    exact h
   have ih:=qwu k (n / 10) this
   rw[qyt (by omega),Qqu,Qzi]
   omega
def Sm(i:Int):Prop:=0≤i∧i<10 ^ 45
theorem Sm.log{i:Int}(h:Sm i):i.natAbs.log2<1920:=by
 obtain⟨h0,h1⟩:=h
 have h2:i.natAbs<10 ^ 45:=by omega
 by_cases hz:i.natAbs=0
 ·rw[hz]; decide
 ·exact(Nat.log2_lt hz).mpr (Qql h2 (Qq9 (show 10 ^ 45≤2 ^ 150 by decide) (Nat.pow_le_pow_right (by decide) (by decide))))
theorem Sm.len{i:Int}(h:Sm i):(natD i.toNat).length≤45:=qwu 44 i.toNat (by have:=h.1; have:=h.2; omega)
theorem Sm.str{i:Int}(h:Sm i)(S:Store):bStr S [.int i]=some (.str (mk (natD i.toNat)),S):=by
 simp only[bStr]
 rw[if_pos h.log,qlx h.1]
theorem qir{c n:Nat}(hc:isFig c=false):c ∉ natD n:=fun h=>by
 have:=Qq3.mp (qcw n) c h
 rw[hc]at this
 cases this
theorem join_list{S:Store}{d:D}{c:Nat}{ps:List (List Nat)}(hl:seqAt S d=some (ps.map fun p=>D.str (mk p)))(hb:∀ p∈ps,p.length≤1000)(hn:ps.length≤1000):mJoin S (.str (mk [c])) [d]=some (.str (mk (qjo c ps)),S):=by
 have e1:asStrs (ps.map fun p=>D.str (mk p))=some (ps.map mk):=by
  have:=qke (ps.map mk)
  rw[Qq6]at this
  exact this
 simp only[mJoin,hl,e1,oBs,qff]
 rw[if_pos]
 have hs:∀ qs:List (List Nat),(∀ p∈qs,p.length≤1000)→(List.map (fun x:Str=>x.length) (qs.map mk)).sum≤qs.length*1000:=fun qs=>by
  induction qs with
  |nil=>simp
  |cons q r ih=>
   intro h
   have h1:=h q Qqe
   have h2:=ih fun z hz=>h z (Qqy _ hz)
   simp only[Qqt,List.sum_cons,Qqv,qz2]
   have:(r.length+1)*1000=r.length*1000+1000:=Nat.succ_mul _ _
   omega
 have:=hs ps hb
 rw[Qqj,qz2,Qzi]
 unfold lim
 have:ps.length*1000≤1000*1000:=Nat.mul_le_mul_right _ hn
 omega
end M
end
section
namespace M
open PySem (Str)
noncomputable def tD(p:List Nat):D:=.str (mk p)
noncomputable def iD(k:Nat):D:=.int (k:Int)
def nSm(k:Nat):Prop:=k<10 ^ 45
theorem nSm.sm{k:Nat}(h:nSm k):Sm (k:Int):=⟨by omega,by unfold nSm at h; omega⟩
theorem nSm.str{k:Nat}(h:nSm k)(S:Store):bStr S [iD k]=some (tD (natD k),S):=h.sm.str S
theorem nSm.len{k:Nat}(h:nSm k):(natD k).length≤45:=h.sm.len
theorem qb0:PySem.Str.ofString " " = mk [32]:=by decide +kernel
theorem qvb{α:Type}(g:α→D)(n:Nat)(h:∀ x,flat n (g x)=true):∀ xs:List α,flats n (xs.map g)=true
 |[]=>rfl
 |x::r=>by rw[Qqt,flats,h,qvb g n h r]; rfl
theorem qvi(n d v:Nat):cutIx n d (some (v:Int))=min v n:=by
 show(if (v:Int)<0 then((v:Int)+(n:Int)).toNat else min (v:Int).toNat n)=_
 rw[if_neg (by omega)]
 rfl
theorem qh0{α:Type}(xs:List α)(n:Nat)(h:n≤xs.length):cut xs (some (n:Int)) none=xs.drop n:=by
 unfold cut
 rw[qvi,Qx0 h]
 exact Qzz (by rw[Qzp]; exact Qqc _)
theorem gc_sli{c:CF}{n:Nat}{τ:Sl}{st:Store}{a:E}{lo hi:Option E}{xs:List D}{l h:Option Int}(ha:(runK c n).ev τ st a=some (.lst xs,st))(hlo:part (runK c n) τ st lo=some (l,st))(hhi:part (runK c n) τ st hi=some (h,st))(hd:noLocs (cut xs l h)=true):(runK c (n+2)).ev τ st (.gc (.sli a lo hi))=some (.lst (cut xs l h),st):=by
 refine qva ?_ hd
 show((runK c n).ev τ st a).bind _=_
 rw[ha]
 simp only[oBs,hlo,hhi,sliD,seqAt,oMs]
 rfl
theorem qe8(ws:List (List Nat)):noLocs (ws.map tD)=true:=qz0 fun _ _=>rfl
theorem qbk(ws:List Nat):noLocs (ws.map iD)=true:=qz0 fun _ _=>rfl
noncomputable def qh5(g:Nat):List S:=[
 .set (.var 1) (.gc (.comp (.var 0) (.var 0) none (.gc (.call g [(.var 0)])) [none])),
 .ite (.cmp .In (.lit .non) (.var 1)) [.rais] [],
 .ret (.var 1)]
noncomputable def fNums(g:Nat):Fn:=⟨1,2,qh5 g⟩
theorem qez{c:CF}{n:Nat}{τ:Sl}{st:Store}{a b:E}{ds:List D}(h:(runK c n).ev τ st (.idx a b)=some (.tup ds,st)):src (runK c n) τ st (.idx a b)=some (.tup ds,st):=by
 show((runK c n).ev τ st (.idx a b)).bind _=_
 rw[h]
 rfl
theorem qcs{c:CF}{n:Nat}{τ:Sl}{st:Store}{it:E}(ps:List (D×List Nat))(hit:src (runK c (n+4)) τ st it=some (.tup (ps.map Prod.fst),st))(hs:∀ p∈ps,∀ S,bStr S [p.1]=some (tD p.2,S))(hl:ps.length<1000):
  (runK c (n+6)).ev τ st (.gc (.comp (.var 0) it none (.bcall .str [(.var 0)]) [none]))=some (.lst ((ps.map Prod.snd).map tD),st):=by
 have:=qqw (n:=n+4) (τ:=τ) (st:=st) (it:=it) (elt:=.bcall .str [(.var 0)]) (sr:=[none]) (rest:=[]) (s:=.tup (ps.map Prod.fst)) ps Prod.fst (fun p=>tD p.2) hit (fun i=>rfl) (by simp[Src.size]) rfl (by omega) (fun _ _=>rfl) (fun p hp=>by
  simp only[ev_k,stepEv,evs,Qqz,oBs,bfun,hs p hp])
 rw[this,Qq6]
 rfl
theorem qek(A r:Store)(w:Bool)(ds:List D):seqAt (A++.lst w ds::r) (.loc A.length)=some ds:=by simp[seqAt,listAt]
theorem qi4(A r:Store)(ds:List D):wlistAt (A++.lst true ds::r) A.length=some ds:=by simp[wlistAt]
theorem qlb(A r:Store)(c c':Cell):(A++c::r).set A.length c'=A++c'::r:=by
 rw[List.set_append_right _ _ (Qqc _)]; simp
theorem qwl(A:Store)(w:Bool)(ds:List D):seqAt (A++[.lst w ds]) (.loc A.length)=some ds:=qek A [] w ds
noncomputable def sD(ns:List Int):D:=.lst (ns.map D.int)
theorem drw{fns:List Fn}{g N:Nat}{ns:List Int}(hg:fns[g]?=some qho)(hN:1≤N)(hn:ns.length≤63)(st:Store)(k j many:Int)(hj:0≤j)(hj2:j<100000)(hm:0<many):callD fns N g [sD ns,.int k,.int j,.int many] st=some (.int (drawV ns k j many),st):=qmh hg hN hn hj hj2 hm
theorem qzc{c:CF}{n f:Nat}{τ:Sl}{st:Store}{es:List E}{ds:List D}{d:D}(hes:evs ((runK c (n+1)).ev τ) es st=some (ds,st))(h:c f ds st=some (d,st))(hd:noLoc d=true):(runK c (n+3)).ev τ st (.gc (.call f es))=some (d,st):=by
 refine qw4 (n:=n+2) ?_ hd
 show(evs ((runK c (n+1)).ev τ) es st).bind _=_
 rw[hes]
 exact h
theorem pA(S:Store)(a b:Int):binop S .Add (.int a) (.int b)=some (.int (a+b),S):=rfl
theorem getD_mem{α:Type}(xs:List α)(z:α)(i:Int)(h0:0≤i)(h1:i<xs.length):xs.getD i.toNat z∈xs:=by
 have h2:i.toNat<xs.length:=by omega
 rw[Qzm,Qqi h2]
 exact Qz3 h2
theorem qwq{α:Type}(g:α→D)(xs:List α)(z:α)(i:Int)(h0:0≤i)(h1:i<xs.length)(S:Store):idxD S (.lst (xs.map g)) (.int i)=some (g (xs.getD i.toNat z)):=by
 have h2:i.toNat<xs.length:=by omega
 simp only[idxD,seqAt,oBs,atI,ixN,h0,if_true,Qqj,h1,Qqn]
 rw[Qzm,Qqi h2]
 rfl
end M
end
section
namespace M
open PySem (Str Operator CmpOp)
inductive XE (fns:List Fn) (d:Nat) (C:Nat→List D→Store→Store→Prop):Sl→Store→E→Store→Prop
 |call {τ st f es ds st1 st'} (n:Nat) (h:evs ((rn fns d n).ev τ) es st=some (ds,st1)) (x:C f ds st1 st'):XE fns d C τ st (.call f es) st'
 |gc {τ st e st'} (x:XE fns d C τ st e st'):XE fns d C τ st (.gc e) st'
 |tuple {τ st e st'} (x:XE fns d C τ st e st'):XE fns d C τ st (.bcall .tuple [e]) st'
 |idx {τ st a b st'} (x:XE fns d C τ st a st'):XE fns d C τ st (.idx a b) st'
 |bin {τ st op a b v st1 st'} (n:Nat) (h:(rn fns d n).ev τ st a=some (v,st1)) (x:XE fns d C τ st1 b st'):XE fns d C τ st (.bin op a b) st'
 |tup {τ st pre e post ds st1 st'} (n:Nat) (h:evs ((rn fns d n).ev τ) pre st=some (ds,st1)) (x:XE fns d C τ st1 e st'):XE fns d C τ st (.tup (pre++e::post)) st'
 |comp {τ st t it elt sr s st' τ1 dd} (n i:Nat) (τs:Nat→Sl) (sts:Nat→Store) (h:src (rn fns d n) τ st it=some (s,sts 0)) (h0:τs 0=inner sr τ) (hi:i<lim)
   (hj:∀ j,j<i→∃ dd v,s.at (sts j) j=some (some dd)∧turnC (rn fns d n) t none elt (τs j) (sts j) dd=some (some v,τs (j+1),sts (j+1))) (ha:s.at (sts i) i=some (some dd)) (ht:setT t dd (τs i)=some τ1)
   (x:XE fns d C τ1 (sts i) elt st'):XE fns d C τ st (.comp t it none elt sr) st'
noncomputable def ncomp:E→Bool
 |.comp _ _ _ _ _=>false
 |.gc e=>ncomp e
 |_=>true
inductive XS (fns:List Fn) (d:Nat) (C:Nat→List D→Store→Store→Prop):Sl→Store→List S→Store→Prop
 |rais {τ st ss}:XS fns d C τ st (.rais::ss) st
 |set {τ st i e ss st'} (hc:ncomp e=true) (x:XE fns d C τ st e st'):XS fns d C τ st (.set (.var i) e::ss) st'
 |ret {τ st e ss st'} (x:XE fns d C τ st e st'):XS fns d C τ st (.ret e::ss) st'
 |iteT {τ st c a b ss st1 st'} (n:Nat) (h:(rn fns d n).tst τ st c=some (true,st1)) (x:XS fns d C τ st1 a st'):XS fns d C τ st (.ite c a b::ss) st'
 |iteF {τ st c a b ss st1 st'} (n:Nat) (h:(rn fns d n).tst τ st c=some (false,st1)) (x:XS fns d C τ st1 b st'):XS fns d C τ st (.ite c a b::ss) st'
 |next {τ st s ss τ1 st1 st'} (n:Nat) (h:stepEx (rn fns d n) τ st s=some (.nx τ1,st1)) (x:XS fns d C τ1 st1 ss st'):XS fns d C τ st (s::ss) st'
noncomputable def XC(fns:List Fn)(ok:Nat→Bool):Nat→Nat→List D→Store→Store→Prop
 |0=>fun _ _ _ _=>False
 |d+1=>fun f ds st st'=>ok f=true∧∃ F,fns[f]?=some F∧ds.length=F.np∧XS fns d (XC fns ok d) (ds.map some++List.replicate (F.nl - ds.length) none) st F.body st'
theorem XC.ok{fns:List Fn}{ok:Nat→Bool}:∀ {d f:Nat}{ds:List D}{st st':Store},XC fns ok d f ds st st'→ok f=true
 |0,_,_,_,_,h=>h.elim
 |_+1,_,_,_,_,h=>h.1
end M
end
section
namespace K08
open M
open PySem (Str)
noncomputable def qj5:List M.S:=[
 .ret (.and (.cmp .NotEq (.var 0) (.lit (.str ""))) (.bcall .all [(.gc (.comp (.var 0) (.var 0) none (.cmp .In (.var 0) (.glo "FIGURES" (.str "0123456789"))) [none]))]))]
noncomputable def qju:M.Fn:=⟨1,1,qj5⟩
noncomputable def qc2:List M.S:=[
 .ite (.not (.gc (.call 0 [(.var 0)]))) [.ret (.lit .non)] [],
 .ite (.and (.cmp .Eq (.idx (.var 0) (.lit (.int 0))) (.lit (.str "0"))) (.cmp .NotEq (.var 0) (.lit (.str "0")))) [.ret (.lit .non)] [],
 .ret (.bcall .int [(.var 0)])]
noncomputable def qcm:M.Fn:=⟨1,1,qc2⟩
noncomputable def qjz:List M.S:=[
 .set (.var 1) (.gc (.comp (.var 0) (.var 0) none (.gc (.call 1 [(.var 0)])) [none])),
 .ite (.cmp .In (.lit .non) (.var 1)) [.rais] [],
 .ret (.var 1)]
noncomputable def qx9:M.Fn:=⟨1,2,qjz⟩
noncomputable def qz6:List M.S:=[
 .ite (.cmp .Eq (.var 0) (.glo "NO_STEPS" (.str "-"))) [.ret (.tup [])] [],
 .ite (.not (.gc (.call 0 [(.var 0)]))) [.rais] [],
 .ret (.bcall .tuple [(.gc (.comp (.var 0) (.var 0) none (.bcall .int [(.var 0)]) [none]))])]
noncomputable def qqg:M.Fn:=⟨1,1,qz6⟩
noncomputable def qqe:List M.S:=[
 .set (.var 1) (.gc (.call 2 [(.gc (.meth (.var 0) .split [(.lit (.str ","))]))])),
 .ite (.cmp .NotEq (.bcall .len [(.var 1)]) (.lit (.int 2))) [.rais] [],
 .ret (.bcall .tuple [(.var 1)])]
noncomputable def qq4:M.Fn:=⟨1,2,qqe⟩
noncomputable def qqc:List M.S:=[
 .ite (.cmp .Lt (.bcall .len [(.var 0)]) (.lit (.int 2))) [.rais] [],
 .ret (.tup [(.lit (.str "vein")),(.gc (.call 3 [(.idx (.var 0) (.lit (.int 0)))])),(.bcall .tuple [(.gc (.comp (.var 0) (.gc (.sli (.var 0) (some (.lit (.int 1))) none)) none (.gc (.call 4 [(.var 0)])) [none]))])])]
noncomputable def qq2:M.Fn:=⟨1,1,qqc⟩
noncomputable def qqd:List M.S:=[
 .set (.var 1) (.gc (.meth (.var 0) .split [(.lit (.str " "))])),
 .set (.var 2) (.idx (.var 1) (.lit (.int 0))),
 .ite (.cmp .Eq (.var 2) (.lit (.str "vein"))) [.ret (.call 5 [(.gc (.sli (.var 1) (some (.lit (.int 1))) none))])] [],
 .ite (.gin true "ASKS" ["join","stake","work","sell","part","give","dig","pay"] (.var 2)) [.rais] [],
 .set (.var 3) (.gc (.call 2 [(.gc (.sli (.var 1) (some (.lit (.int 1))) none))])),
 .ite (.cmp .NotEq (.bcall .len [(.var 3)]) (.bcall .len [(.gidx "ASKS" ["join","stake","work","sell","part","give","dig","pay"] [(.tup [(.str "day"),(.str "day"),(.str "below")]),(.tup [(.str "folk"),(.str "x"),(.str "y"),(.str "x"),(.str "y")]),(.tup [(.str "day")]),(.tup [(.str "day"),(.str "folk")]),(.tup [(.str "day"),(.str "side"),(.str "line"),(.str "folk")]),(.tup [(.str "day")]),(.tup [(.str "folk"),(.str "x"),(.str "y"),(.str "x"),(.str "y"),(.str "floor"),(.str "coins")]),(.tup [(.str "folk"),(.str "folk"),(.str "coins")])] (.var 2))])) [.rais] [],
 .ret (.bin .Add (.tup [(.var 2)]) (.bcall .tuple [(.var 3)]))]
noncomputable def qq3:M.Fn:=⟨1,4,qqd⟩
noncomputable def qwb:List M.S:=[
 .set (.var 4) (.lit (.int 0)),
 .set (.var 5) (.lit (.int 1)),
 .ite (.cmp .Gt (.bcall .len [(.var 0)]) (.lit (.int 0))) [.set (.var 4) (.idx (.var 0) (.bin .Mod (.var 1) (.bcall .len [(.var 0)]))),.set (.var 5) (.bin .FloorDiv (.var 1) (.bcall .len [(.var 0)]))] [],
 .set (.var 6) (.var 4),
 .forr (.var 7) (.rng1 (.var 2)) [.set (.var 6) (.bin .FloorDiv (.var 6) (.bin .Pow (.lit (.int 10)) (.lit (.int 10))))],
 .ite (.and (.cmp .Eq (.var 5) (.lit (.int 0))) (.and (.cmp .GtE (.var 4) (.bin .Pow (.lit (.int 10)) (.lit (.int 18)))) (.cmp .Gt (.var 6) (.lit (.int 0))))) [.ret (.bin .Mod (.bin .Mod (.var 6) (.bin .Pow (.lit (.int 10)) (.lit (.int 10)))) (.var 3))] [],
 .set (.var 8) (.bin .Mod (.bin .Add (.bin .Add (.bin .Add (.bin .Mult (.var 4) (.lit (.int 7919))) (.bin .Mult (.var 1) (.lit (.int 104729)))) (.bin .Mult (.var 2) (.lit (.int 1299709)))) (.lit (.int 31))) (.lit (.int 1000000007))),
 .set (.var 9) (.bin .Mod (.bin .Add (.bin .Mult (.var 8) (.lit (.int 48271))) (.bin .FloorDiv (.var 4) (.lit (.int 1009)))) (.lit (.int 998244353))),
 .set (.var 9) (.bin .Mod (.bin .Add (.bin .Mult (.var 9) (.bin .Add (.bin .Mod (.var 8) (.lit (.int 9973))) (.lit (.int 1)))) (.var 2)) (.lit (.int 1000000009))),
 .ret (.bin .Mod (.bin .Mod (.bin .Add (.bin .Add (.bin .Mult (.var 8) (.lit (.int 69621))) (.bin .Mult (.var 9) (.lit (.int 40692)))) (.bin .FloorDiv (.var 9) (.lit (.int 1013)))) (.lit (.int 2147483647))) (.var 3))]
noncomputable def qwv:M.Fn:=⟨4,10,qwb⟩
noncomputable def qwa:List M.S:=[
 .ite (.isi (.var 1) [.tup,.lst] true) [.ite (.or (.not (.isi (.var 0) [.tup,.lst] true)) (.cmp .NotEq (.bcall .len [(.var 0)]) (.bcall .len [(.var 1)]))) [.ret (.lit (.bl false))] [],.set (.var 2) (.bcall .all [(.gc (.comp (.var 0) (.rng1 (.bcall .len [(.var 1)])) none (.gc (.call 8 [(.idx (.var 1) (.var 0)),(.idx (.var 2) (.var 0))])) [none,some 0,some 1]))]),.ret (.and (.var 2) (.cmp .Eq (.isi (.var 0) [.tup] false) (.isi (.var 1) [.tup] false)))] [],
 .set (.var 2) (.cmp .Eq (.isi (.var 0) [.int] false) (.isi (.var 1) [.int] false)),
 .set (.var 2) (.and (.var 2) (.cmp .Eq (.isi (.var 0) [.bl] false) (.isi (.var 1) [.bl] false))),
 .ret (.and (.var 2) (.and (.cmp .Eq (.isi (.var 0) [.str] false) (.isi (.var 1) [.str] false)) (.cmp .Eq (.var 0) (.var 1))))]
noncomputable def qwk:M.Fn:=⟨2,3,qwa⟩
noncomputable def qxt:List M.S:=[
 .set (.var 2) (.bin .Add (.lit (.int 1)) (.gc (.call 7 [(.var 0),(.var 1),(.lit (.int 0)),(.lit (.int 6))]))),
 .set (.var 3) (.bin .Add (.lit (.int 1)) (.gc (.call 7 [(.var 0),(.var 1),(.lit (.int 1)),(.lit (.int 6))]))),
 .set (.var 4) (.gc (.call 7 [(.var 0),(.var 1),(.lit (.int 2)),(.lit (.int 6))])),
 .set (.var 5) (.gc (.lst [(.tup [(.lit (.int 24)),(.bin .Add (.lit (.int 1)) (.bin .FloorDiv (.var 3) (.lit (.int 3)))),(.bin .FloorDiv (.var 4) (.lit (.int 2)))]),(.tup [(.bin .Add (.lit (.int 1)) (.bin .FloorDiv (.var 2) (.lit (.int 3)))),(.lit (.int 24)),(.bin .FloorDiv (.var 4) (.lit (.int 2)))])])),
 .set (.var 5) (.gc (.bin .Add (.var 5) (.gc (.lst [(.tup [(.bin .Add (.lit (.int 1)) (.bin .FloorDiv (.var 2) (.lit (.int 3)))),(.bin .Add (.lit (.int 1)) (.bin .FloorDiv (.var 3) (.lit (.int 3)))),(.lit (.int 12))]),(.tup [(.var 2),(.var 3),(.var 4)])])))),
 .ret (.idx (.var 5) (.bcall .min [(.lit (.int 3)),(.gc (.call 7 [(.var 0),(.var 1),(.lit (.int 3)),(.lit (.int 12))]))]))]
noncomputable def qkj:M.Fn:=⟨2,6,qxt⟩
noncomputable def qxu:List M.S:=[
 .set (.var 5) (.gc (.bcall .sorted [(.gc (.lst [(.call 7 [(.var 0),(.var 1),(.var 2),(.var 3)]),(.call 7 [(.var 0),(.var 1),(.bin .Add (.var 2) (.lit (.int 1))),(.var 3)])]))])),
 .set (.var 6) (.gc (.bcall .sorted [(.gc (.lst [(.call 7 [(.var 0),(.var 1),(.bin .Add (.var 2) (.lit (.int 2))),(.var 4)]),(.call 7 [(.var 0),(.var 1),(.bin .Add (.var 2) (.lit (.int 3))),(.var 4)])]))])),
 .ret (.tup [(.idx (.var 5) (.lit (.int 0))),(.idx (.var 6) (.lit (.int 0))),(.idx (.var 5) (.lit (.int 1))),(.idx (.var 6) (.lit (.int 1)))])]
noncomputable def qkk:M.Fn:=⟨5,7,qxu⟩
noncomputable def qxz:List M.S:=[
 .ret (.bcall .tuple [(.gc (.comp (.var 0) (.rng1 (.var 3)) none (.idx (.gc (.lst [(.lit (.int 0)),(.lit (.int 1)),(.lit (.int 2)),(.lit (.int 3)),(.lit (.int 4)),(.lit (.int 0)),(.lit (.int 0))])) (.gc (.call 7 [(.var 1),(.var 2),(.bin .Add (.var 3) (.var 0)),(.lit (.int 7))]))) [none,some 0,some 1,some 2]))])]
noncomputable def qjy:M.Fn:=⟨4,4,qxz⟩
noncomputable def qx1:List M.S:=[
 .set (.var 4) (.bin .Mult (.idx (.var 3) (.lit (.int 0))) (.idx (.var 3) (.lit (.int 1)))),
 .set (.var 5) (.gc (.call 7 [(.var 0),(.var 1),(.var 2),(.var 4)])),
 .set (.var 6) (.bin .Add (.lit (.int 1)) (.gc (.call 7 [(.var 0),(.var 1),(.bin .Add (.var 2) (.lit (.int 1))),(.var 4)]))),
 .set (.var 7) (.lst []),
 .forr (.var 8) (.rng1 (.bin .Add (.lit (.int 1)) (.gc (.call 7 [(.var 0),(.var 1),(.bin .Add (.var 2) (.lit (.int 3))),(.idx (.gc (.lst [(.lit (.int 16)),(.lit (.int 4)),(.lit (.int 4)),(.lit (.int 4))])) (.gc (.call 7 [(.var 0),(.var 1),(.bin .Add (.var 2) (.lit (.int 2))),(.lit (.int 4))])))])))) [.set (.var 9) (.bin .Mod (.bin .Add (.var 5) (.bin .Mult (.var 8) (.var 6))) (.var 4)),.ite (.cmp .NotIn (.tup [(.bin .Mod (.var 9) (.idx (.var 3) (.lit (.int 0)))),(.bin .FloorDiv (.var 9) (.idx (.var 3) (.lit (.int 0))))]) (.var 7)) [.expr (.meth (.var 7) .append [(.tup [(.bin .Mod (.var 9) (.idx (.var 3) (.lit (.int 0)))),(.bin .FloorDiv (.var 9) (.idx (.var 3) (.lit (.int 0))))])])] []],
 .ret (.bcall .tuple [(.var 7)])]
noncomputable def qkw:M.Fn:=⟨4,10,qx1⟩
noncomputable def qj2:List M.S:=[
 .ret (.bin .Add (.lit (.int 1)) (.gc (.call 7 [(.var 0),(.var 1),(.var 2),(.idx (.gc (.lst [(.lit (.int 40)),(.lit (.int 4)),(.lit (.int 4)),(.lit (.int 4)),(.lit (.int 4)),(.lit (.int 4))])) (.gc (.call 7 [(.var 0),(.var 1),(.bin .Add (.var 2) (.lit (.int 1))),(.lit (.int 6))])))])))]
noncomputable def qvc:M.Fn:=⟨3,3,qj2⟩
noncomputable def qqk:List M.S:=[
 .ite (.or (.cmp .Eq (.bcall .len [(.var 3)]) (.lit (.int 0))) (.cmp .Eq (.gc (.call 7 [(.var 0),(.var 1),(.var 2),(.lit (.int 14))])) (.lit (.int 0)))) [.ret (.bin .Add (.lit (.int 1)) (.gc (.call 7 [(.var 0),(.var 1),(.bin .Add (.var 2) (.lit (.int 1))),(.lit (.int 400))])))] [],
 .ret (.idx (.var 3) (.gc (.call 7 [(.var 0),(.var 1),(.bin .Add (.var 2) (.lit (.int 1))),(.bcall .len [(.var 3)])])))]
noncomputable def qxr:M.Fn:=⟨4,4,qqk⟩
noncomputable def qxs:List M.S:=[
 .ret (.tup [(.lit (.str "vein")),(.gc (.call 11 [(.var 0),(.var 1),(.lit (.int 8)),(.idx (.var 2) (.lit (.int 2)))])),(.gc (.call 12 [(.var 0),(.var 1),(.lit (.int 1)),(.var 2)]))])]
noncomputable def qkq:M.Fn:=⟨3,3,qxs⟩
noncomputable def qzt:List M.S:=[
 .set (.var 5) (.gc (.call 14 [(.var 0),(.var 1),(.lit (.int 1)),(.var 4)])),
 .set (.var 6) (.gc (.call 13 [(.var 0),(.var 1),(.lit (.int 3))])),
 .set (.var 7) (.gc (.call 7 [(.var 0),(.var 1),(.lit (.int 5)),(.lit (.int 2))])),
 .set (.var 8) (.bin .Add (.lit (.int 1)) (.gc (.call 7 [(.var 0),(.var 1),(.lit (.int 6)),(.bcall .min [(.lit (.int 23)),(.idx (.var 3) (.var 7))])]))),
 .ite (.cmp .Lt (.var 2) (.lit (.int 3))) [.ret (.tup [(.lit (.str "work")),(.var 5)])] [],
 .ret (.idx (.gc (.lst [(.tup [(.lit (.str "sell")),(.var 5),(.var 6)]),(.tup [(.lit (.str "part")),(.var 5),(.var 7),(.var 8),(.var 6)]),(.tup [(.lit (.str "give")),(.var 5)])])) (.bin .Sub (.bin .FloorDiv (.var 2) (.lit (.int 2))) (.lit (.int 1))))]
noncomputable def qz8:M.Fn:=⟨5,9,qzt⟩
noncomputable def qx2:List M.S:=[
 .set (.var 4) (.gc (.call 7 [(.var 0),(.var 1),(.lit (.int 0)),(.lit (.int 20))])),
 .set (.var 5) (.gc (.comp (.tup [0,1]) (.var 3) (some (.cmp .Eq (.idx (.var 1) (.lit (.int 0))) (.lit (.str "vein")))) (.var 0) [none,none])),
 .set (.var 6) (.gc (.comp (.tup [0,1]) (.var 3) (some (.cmp .In (.idx (.var 1) (.lit (.int 0))) (.tup [(.lit (.str "stake")),(.lit (.str "part"))]))) (.var 0) [none,none])),
 .ite (.or (.cmp .Lt (.var 4) (.lit (.int 3))) (.and (.cmp .Lt (.var 4) (.lit (.int 8))) (.cmp .Eq (.bcall .len [(.var 5)]) (.lit (.int 0))))) [.ret (.call 15 [(.var 0),(.var 1),(.var 2)])] [],
 .ite (.and (.cmp .Lt (.var 4) (.lit (.int 5))) (.cmp .Gt (.idx (.var 2) (.lit (.int 2))) (.lit (.int 0)))) [.set (.var 7) (.bin .Add (.lit (.int 1)) (.gc (.call 7 [(.var 0),(.var 1),(.lit (.int 5)),(.idx (.var 2) (.lit (.int 2)))]))),.ret (.tup [(.lit (.str "join")),(.gc (.call 14 [(.var 0),(.var 1),(.lit (.int 1)),(.var 5)])),(.gc (.call 14 [(.var 0),(.var 1),(.lit (.int 3)),(.var 5)])),(.var 7)])] [],
 .ite (.or (.cmp .Lt (.var 4) (.lit (.int 12))) (.and (.cmp .Lt (.var 4) (.lit (.int 17))) (.cmp .Eq (.bcall .len [(.var 6)]) (.lit (.int 0))))) [.ret (.bin .Add (.tup [(.lit (.str "stake")),(.gc (.call 13 [(.var 0),(.var 1),(.lit (.int 1))]))]) (.gc (.call 10 [(.var 0),(.var 1),(.lit (.int 3)),(.idx (.var 2) (.lit (.int 0))),(.idx (.var 2) (.lit (.int 1)))])))] [],
 .ret (.call 16 [(.var 0),(.var 1),(.bin .Sub (.var 4) (.lit (.int 12))),(.var 2),(.var 6)])]
noncomputable def qky:M.Fn:=⟨4,8,qx2⟩
noncomputable def qj4:List M.S:=[
 .set (.var 3) (.gc (.sli (.gc (.call 10 [(.var 0),(.var 1),(.lit (.int 1)),(.idx (.var 2) (.lit (.int 0))),(.idx (.var 2) (.lit (.int 1)))])) none (some (.lit (.int 2))))),
 .set (.var 4) (.bin .Add (.gc (.sli (.gc (.call 10 [(.var 0),(.var 1),(.lit (.int 5)),(.idx (.var 2) (.lit (.int 0))),(.idx (.var 2) (.lit (.int 1)))])) (some (.lit (.int 2))) none)) (.tup [(.gc (.call 7 [(.var 0),(.var 1),(.lit (.int 9)),(.bin .Add (.idx (.var 2) (.lit (.int 2))) (.lit (.int 1)))]))])),
 .set (.var 5) (.bin .Add (.lit (.int 1)) (.gc (.call 7 [(.var 0),(.var 1),(.lit (.int 10)),(.idx (.gc (.lst [(.lit (.int 9)),(.lit (.int 300)),(.bin .Pow (.lit (.int 10)) (.lit (.int 6)))])) (.gc (.call 7 [(.var 0),(.var 1),(.lit (.int 11)),(.lit (.int 3))])))]))),
 .ret (.bin .Add (.bin .Add (.bin .Add (.tup [(.lit (.str "dig")),(.gc (.call 13 [(.var 0),(.var 1),(.lit (.int 12))]))]) (.var 3)) (.var 4)) (.tup [(.var 5)]))]
noncomputable def qve:M.Fn:=⟨3,6,qj4⟩
noncomputable def qj3:List M.S:=[
 .set (.var 2) (.gc (.call 13 [(.var 0),(.var 1),(.lit (.int 1))])),
 .set (.var 3) (.gc (.call 13 [(.var 0),(.var 1),(.lit (.int 3))])),
 .ite (.cmp .Eq (.var 3) (.var 2)) [.set (.var 3) (.bin .Add (.bin .Mod (.var 2) (.lit (.int 40))) (.lit (.int 1)))] [],
 .ret (.tup [(.lit (.str "pay")),(.var 2),(.var 3),(.bin .Add (.lit (.int 1)) (.gc (.call 7 [(.var 0),(.var 1),(.lit (.int 5)),(.idx (.gc (.lst [(.lit (.int 9)),(.bin .Pow (.lit (.int 10)) (.lit (.int 6)))])) (.gc (.call 7 [(.var 0),(.var 1),(.lit (.int 6)),(.lit (.int 2))])))])))])]
noncomputable def qvd:M.Fn:=⟨2,4,qj3⟩
noncomputable def qql:List M.S:=[
 .set (.var 2) (.tup [(.lit (.int 1)),(.lit (.int 400))]),
 .set (.var 3) (.tup [(.lit (.int 1)),(.lit (.int 40))]),
 .set (.var 4) (.tup [(.lit (.int 1)),(.bin .Pow (.lit (.int 10)) (.lit (.int 6)))]),
 .set (.var 5) (.tup [(.lit (.int 0)),(.bin .Sub (.idx (.var 0) (.lit (.int 0))) (.lit (.int 1)))]),
 .set (.var 6) (.tup [(.lit (.int 0)),(.bin .Sub (.idx (.var 0) (.lit (.int 1))) (.lit (.int 1)))]),
 .set (.var 7) (.dic [(.lit (.str "join")),(.lst [(.var 2),(.var 2),(.tup [(.lit (.int 1)),(.idx (.var 0) (.lit (.int 2)))])]),(.lit (.str "stake")),(.lst [(.var 3),(.var 5),(.var 6),(.var 5),(.var 6)]),(.lit (.str "work")),(.lst [(.var 2)])]),
 .dset (.var 7) (.lit (.str "sell")) (.lst [(.var 2),(.var 3)]),
 .dset (.var 7) (.lit (.str "part")) (.lst [(.var 2),(.tup [(.lit (.int 0)),(.lit (.int 1))]),(.tup [(.lit (.int 1)),(.lit (.int 23))]),(.var 3)]),
 .dset (.var 7) (.lit (.str "give")) (.lst [(.var 2)]),
 .dset (.var 7) (.lit (.str "dig")) (.lst [(.var 3),(.var 5),(.var 6),(.var 5),(.var 6),(.tup [(.lit (.int 0)),(.idx (.var 0) (.lit (.int 2)))]),(.var 4)]),
 .dset (.var 7) (.lit (.str "pay")) (.lst [(.var 3),(.var 3),(.var 4)]),
 .ret (.dgt (.var 7) (.var 1))]
noncomputable def qxd:M.Fn:=⟨2,8,qql⟩
noncomputable def qz3:List M.S:=[
 .set (.var 3) (.gc (.call 7 [(.var 0),(.var 1),(.lit (.int 24)),(.lit (.int 5))])),
 .ite (.cmp .Eq (.var 3) (.lit (.int 0))) [.ret (.call 18 [(.var 0),(.var 1),(.var 2)])] [],
 .ite (.cmp .Eq (.var 3) (.lit (.int 1))) [.ret (.call 19 [(.var 0),(.var 1)])] [],
 .ret (.call 17 [(.var 0),(.var 1),(.var 2),(.gc (.lst [(.tup [(.lit (.int 7)),(.tup [(.lit (.str "vein"))])]),(.tup [(.bin .Add (.lit (.int 1)) (.gc (.call 7 [(.var 0),(.var 1),(.lit (.int 21)),(.lit (.int 400))]))),(.tup [(.lit (.str "stake"))])])]))])]
noncomputable def qqy:M.Fn:=⟨3,4,qz3⟩
noncomputable def qqi:List M.S:=[
 .ite (.or (.cmp .Eq (.var 0) (.lit (.str ""))) (.and (.cmp .Gt (.bcall .len [(.var 0)]) (.lit (.int 1))) (.cmp .Eq (.idx (.var 0) (.lit (.int 0))) (.lit (.str "0"))))) [.ret (.lit .non)] [],
 .set (.var 1) (.lit (.int 0)),
 .forr (.var 2) (.var 0) [.set (.var 3) (.meth (.lit (.str "0123456789")) .find [(.var 2)]),.ite (.cmp .Lt (.var 3) (.lit (.int 0))) [.ret (.lit .non)] [],.set (.var 1) (.bin .Add (.bin .Mult (.var 1) (.lit (.int 10))) (.var 3))],
 .ret (.var 1)]
noncomputable def qxc:M.Fn:=⟨1,4,qqi⟩
noncomputable def qqj:List M.S:=[
 .set (.var 1) (.gc (.comp (.var 0) (.var 0) none (.gc (.call 22 [(.var 0)])) [none])),
 .ite (.bcall .any [(.gc (.comp (.var 0) (.var 1) none (.cmp .Is (.var 0) (.lit .non)) [none]))]) [.ret (.lit .non)] [],
 .ret (.var 1)]
noncomputable def qq6:M.Fn:=⟨1,2,qqj⟩
noncomputable def qz4:List M.S:=[
 .ite (.or (.cmp .Lt (.bcall .len [(.var 0)]) (.lit (.int 3))) (.cmp .Eq (.idx (.var 0) (.lit (.int 1))) (.lit (.str "")))) [.ret (.lit .non)] [],
 .set (.var 1) (.lst []),
 .ite (.cmp .NotEq (.idx (.var 0) (.lit (.int 1))) (.lit (.str "-"))) [.forr (.var 2) (.idx (.var 0) (.lit (.int 1))) [.expr (.meth (.var 1) .append [(.meth (.lit (.str "0123456789")) .find [(.var 2)])])]] [],
 .set (.var 3) (.lst []),
 .forr (.var 4) (.gc (.sli (.var 0) (some (.lit (.int 2))) none)) [.set (.var 5) (.gc (.call 23 [(.gc (.meth (.var 4) .split [(.lit (.str ","))]))])),.ite (.or (.cmp .Is (.var 5) (.lit .non)) (.cmp .NotEq (.bcall .len [(.var 5)]) (.lit (.int 2)))) [.ret (.lit .non)] [],.expr (.meth (.var 3) .append [(.bcall .tuple [(.var 5)])])],
 .ite (.bcall .any [(.gc (.comp (.var 0) (.var 1) none (.cmp .Lt (.var 0) (.lit (.int 0))) [none]))]) [.ret (.lit .non)] [],
 .ret (.tup [(.lit (.str "vein")),(.bcall .tuple [(.var 1)]),(.bcall .tuple [(.var 3)])])]
noncomputable def qqa:M.Fn:=⟨1,6,qz4⟩
noncomputable def qx0:List M.S:=[
 .ite (.cmp .Eq (.idx (.var 0) (.lit (.int 0))) (.lit (.str "vein"))) [.ret (.call 24 [(.var 0)])] [],
 .set (.var 1) (.gc (.call 20 [(.tup [(.lit (.int 1)),(.lit (.int 1)),(.lit (.int 1))]),(.idx (.var 0) (.lit (.int 0)))])),
 .set (.var 2) (.gc (.call 23 [(.gc (.sli (.var 0) (some (.lit (.int 1))) none))])),
 .ite (.or (.cmp .Is (.var 1) (.lit .non)) (.or (.cmp .Is (.var 2) (.lit .non)) (.cmp .NotEq (.bcall .len [(.var 2)]) (.bcall .len [(.var 1)])))) [.ret (.lit .non)] [],
 .ret (.bin .Add (.tup [(.idx (.var 0) (.lit (.int 0)))]) (.bcall .tuple [(.var 2)]))]
noncomputable def qkv:M.Fn:=⟨1,3,qx0⟩
noncomputable def qqx:List M.S:=[
 .ite (.cmp .NotEq (.idx (.var 0) (.lit (.int 0))) (.lit (.str "vein"))) [.ret (.meth (.lit (.str " ")) .join [(.gc (.bin .Add (.gc (.lst [(.idx (.var 0) (.lit (.int 0)))])) (.gc (.comp (.var 0) (.gc (.sli (.var 0) (some (.lit (.int 1))) none)) none (.bcall .str [(.var 0)]) [none]))))])] [],
 .set (.var 1) (.meth (.lit (.str "")) .join [(.gc (.comp (.var 0) (.idx (.var 0) (.lit (.int 1))) none (.bcall .str [(.var 0)]) [none]))]),
 .ite (.cmp .Eq (.bcall .len [(.idx (.var 0) (.lit (.int 1)))]) (.lit (.int 0))) [.set (.var 1) (.lit (.str "-"))] [],
 .ret (.meth (.lit (.str " ")) .join [(.gc (.bin .Add (.gc (.lst [(.lit (.str "vein")),(.var 1)])) (.gc (.comp (.var 0) (.idx (.var 0) (.lit (.int 2))) none (.bin .Add (.bin .Add (.bcall .str [(.idx (.var 0) (.lit (.int 0)))]) (.lit (.str ","))) (.bcall .str [(.idx (.var 0) (.lit (.int 1)))])) [none]))))])]
noncomputable def qq5:M.Fn:=⟨1,2,qqx⟩
noncomputable def qx3:List M.S:=[
 .set (.var 4) (.gc (.call 7 [(.var 0),(.var 1),(.var 2),(.bin .Add (.bcall .len [(.var 3)]) (.lit (.int 1)))])),
 .set (.var 5) (.lit (.str " 0123456789,-+._~aehijknoprstuvwxyz\nA")),
 .set (.var 6) (.idx (.var 5) (.gc (.call 7 [(.var 0),(.var 1),(.bin .Add (.var 2) (.lit (.int 1))),(.bcall .len [(.var 5)])]))),
 .set (.var 7) (.gc (.call 7 [(.var 0),(.var 1),(.bin .Add (.var 2) (.lit (.int 2))),(.lit (.int 6))])),
 .ite (.cmp .Eq (.var 7) (.lit (.int 0))) [.ret (.bin .Add (.bin .Add (.gc (.sli (.var 3) none (some (.var 4)))) (.var 6)) (.gc (.sli (.var 3) (some (.var 4)) none)))] [],
 .ite (.cmp .Eq (.var 7) (.lit (.int 1))) [.ret (.bin .Add (.gc (.sli (.var 3) none (some (.var 4)))) (.gc (.sli (.var 3) (some (.bin .Add (.var 4) (.lit (.int 1)))) none)))] [],
 .ite (.cmp .Eq (.var 7) (.lit (.int 2))) [.ret (.bin .Add (.bin .Add (.gc (.sli (.var 3) none (some (.var 4)))) (.var 6)) (.gc (.sli (.var 3) (some (.bin .Add (.var 4) (.lit (.int 1)))) none)))] [],
 .ite (.cmp .Eq (.var 7) (.lit (.int 3))) [.ret (.sli (.var 3) none (some (.var 4)))] [],
 .ite (.cmp .Eq (.var 7) (.lit (.int 4))) [.ret (.sli (.var 3) (some (.var 4)) none)] [],
 .ret (.bin .Add (.var 3) (.idx (.gc (.lst [(.lit (.str " ")),(.lit (.str "\n")),(.lit (.str " 0")),(.lit (.str "0")),(.lit (.str ",1"))])) (.gc (.call 7 [(.var 0),(.var 1),(.bin .Add (.var 2) (.lit (.int 3))),(.lit (.int 5))]))))]
noncomputable def qka:M.Fn:=⟨4,8,qx3⟩
noncomputable def qqu:List M.S:=[
 .ite (.and (.isi (.var 0) [.str] false) (.cmp .LtE (.bcall .len [(.var 0)]) (.lit (.int 590)))) [] [.brk],
 .forr (.var 1) (.var 0) [],
 .expr (.gc (.call 30 [(.var 0)])),
 .ret (.gc (.call 38 [(.var 0)]))]
noncomputable def qkx:M.Fn:=⟨1,2,qqu⟩
noncomputable def qh7:List M.S:=[
 .set (.var 1) (.gc (.call 21 [(.var 0),(.lit (.int 1)),(.gc (.call 9 [(.var 0),(.lit (.int 0))]))])),
 .set (.var 2) (.gc (.call 26 [(.var 1)])),
 .set (.var 3) (.gc (.lst [(.lit (.str "")),(.lit (.str " ")),(.lit (.str "vein")),(.lit (.str "vein - ")),(.lit (.str "vein 0 1")),(.lit (.str "vein 0")),(.lit (.str "vein - 1,2,3")),(.lit (.str "vein -- 1,2")),(.lit (.str "vein 00 1,"))])),
 .set (.var 3) (.gc (.bin .Add (.var 3) (.gc (.lst [(.lit (.str "work")),(.lit (.str "Work 3")),(.lit (.str "vein  1,2"))])))),
 .set (.var 3) (.gc (.bin .Add (.var 3) (.gc (.lst [(.lit (.str "works 3")),(.lit (.str "work 03")),(.lit (.str "work 3 ")),(.lit (.str " work 3")),(.lit (.str "work  3")),(.lit (.str "work 3 4")),(.lit (.str "give -3")),(.lit (.str "pay 1 2")),(.lit (.str "vein 5 01,2"))])))),
 .ite (.cmp .Eq (.gc (.call 7 [(.var 0),(.lit (.int 2)),(.lit (.int 20)),(.lit (.int 8))])) (.lit (.int 0))) [.set (.var 2) (.idx (.var 3) (.gc (.call 7 [(.var 0),(.lit (.int 2)),(.lit (.int 21)),(.bcall .len [(.var 3)])])))] [],
 .forr (.var 4) (.rng1 (.gc (.call 7 [(.var 0),(.lit (.int 2)),(.lit (.int 22)),(.lit (.int 3))]))) [.set (.var 2) (.gc (.call 27 [(.var 0),(.bin .Add (.lit (.int 3)) (.var 4)),(.lit (.int 0)),(.var 2)]))],
 .set (.var 5) (.gc (.call 25 [(.gc (.meth (.var 2) .split [(.lit (.str " "))]))])),
 .set (.var 6) (.gc (.call 28 [(.var 2)])),
 .ite (.cmp .Is (.var 5) (.lit .non)) [.ret (.cmp .Is (.var 6) (.lit .non))] [],
 .ret (.call 8 [(.var 6),(.var 5)])]
noncomputable def qhm:M.Fn:=⟨1,7,qh7⟩
noncomputable def f_ch0:M.Fn:=⟨1,1,[.ret (.gc (.call 31 [(.var 0)]))]⟩
noncomputable def f_ch1:M.Fn:=⟨1,1,[.ret (.gc (.call 32 [(.var 0)]))]⟩
noncomputable def f_ch2:M.Fn:=⟨1,1,[.ret (.gc (.call 33 [(.var 0)]))]⟩
noncomputable def f_ch3:M.Fn:=⟨1,1,[.ret (.gc (.call 34 [(.var 0)]))]⟩
noncomputable def f_ch4:M.Fn:=⟨1,1,[.ret (.gc (.call 35 [(.var 0)]))]⟩
noncomputable def f_ch5:M.Fn:=⟨1,1,[.ret (.gc (.call 36 [(.var 0)]))]⟩
noncomputable def f_ch6:M.Fn:=⟨1,1,[.ret (.gc (.call 37 [(.var 0)]))]⟩
noncomputable def f_ch7:M.Fn:=⟨1,1,[.ret (.var 0)]⟩
noncomputable def f_tl:M.Fn:=⟨1,4,[
 .set (.var 1) (.gc (.meth (.var 0) .split [(.lit (.str " "))])),
 .set (.var 2) (.idx (.var 1) (.lit (.int 0))),
 .ite (.cmp .Eq (.var 2) (.lit (.str "vein"))) [.ret (.call 24 [(.var 1)])] [],
 .ite (.gin true "ASKS" ["join","stake","work","sell","part","give","dig","pay"] (.var 2)) [.ret (.lit .non)] [],
 .set (.var 3) (.gc (.call 23 [(.gc (.sli (.var 1) (some (.lit (.int 1))) none))])),
 .ite (.cmp .Is (.var 3) (.lit .non)) [.ret (.lit .non)] [],
 .ite (.cmp .NotEq (.bcall .len [(.var 3)]) (.bcall .len [(.gidx "ASKS" ["join","stake","work","sell","part","give","dig","pay"] [(.tup [(.str "day"),(.str "day"),(.str "below")]),(.tup [(.str "folk"),(.str "x"),(.str "y"),(.str "x"),(.str "y")]),(.tup [(.str "day")]),(.tup [(.str "day"),(.str "folk")]),(.tup [(.str "day"),(.str "side"),(.str "line"),(.str "folk")]),(.tup [(.str "day")]),(.tup [(.str "folk"),(.str "x"),(.str "y"),(.str "x"),(.str "y"),(.str "floor"),(.str "coins")]),(.tup [(.str "folk"),(.str "folk"),(.str "coins")])] (.var 2))])) [.ret (.lit .non)] [],
 .ret (.bin .Add (.tup [(.var 2)]) (.bcall .tuple [(.var 3)]))]⟩
noncomputable def fns:List M.Fn:=[qju,qcm,qx9,qqg,qq4,qq2,qq3,qwv,qwk,qkj,qkk,qjy,qkw,qvc,qxr,qkq,qz8,qky,qve,qvd,qxd,qqy,qxc,qq6,qqa,qkv,qq5,qka,qkx,qhm,f_ch0,f_ch1,f_ch2,f_ch3,f_ch4,f_ch5,f_ch6,f_ch7,f_tl]
theorem hFig:fns[0]?=some fFig:=rfl
theorem hNum:fns[1]?=some (fNum 0):=rfl
theorem hNums:fns[2]?=some (fNums 1):=rfl
theorem hDraw:fns[7]?=some qho:=rfl
theorem hSame:fns[8]?=some (qhn 8):=rfl
def nS7(k:Nat):Prop:=k<10 ^ 7
theorem nS7.sm{k:Nat}(h:nS7 k):nSm k:=by unfold nS7 at h; unfold nSm; omega
theorem nS7.str{k:Nat}(h:nS7 k)(S:Store):bStr S [iD k]=some (tD (natD k),S):=h.sm.str S
theorem nS7.len{k:Nat}(h:nS7 k):(natD k).length≤7:=qwu 6 k h
noncomputable def cD(p:Nat×Nat):D:=.tup [iD p.1,iD p.2]
noncomputable def wVein:List Nat:=[118,101,105,110]
theorem qwd:PySem.Str.ofString "vein" = mk wVein:=by decide +kernel
theorem qds:PySem.Str.ofString "," = mk [44]:=by decide +kernel
theorem qi2:PySem.Str.ofString "-" = mk [45]:=by decide +kernel
inductive Fact where
 |word (w ks:List Nat)
 |vein (ss:List Nat) (cs:List (Nat×Nat))
noncomputable def sT(ss:List Nat):List Nat:=if ss=[] then [45] else ss.map (· + 48)
noncomputable def cT(p:Nat×Nat):List Nat:=qjo 44 [natD p.1,natD p.2]
noncomputable def fP:Fact→List (List Nat)
 |.word w ks=>w::ks.map natD
 |.vein ss cs=>wVein::sT ss::cs.map cT
noncomputable def fD:Fact→D
 |.word w ks=>.tup (tD w::ks.map iD)
 |.vein ss cs=>.tup [tD wVein,.tup (ss.map iD),.tup (cs.map cD)]
noncomputable def fX(f:Fact):List Nat:=qjo 32 (fP f)
noncomputable def wordsN:List (List Nat×Nat):=[([106,111,105,110],3),([115,116,97,107,101],5),([119,111,114,107],1),([115,101,108,108],2),([112,97,114,116],4),([103,105,118,101],1),([100,105,103],7),([112,97,121],3)]
noncomputable def Fact.ok:Fact→Prop
 |.word w ks=>(w,ks.length)∈wordsN∧∀ k∈ks,nS7 k
 |.vein ss cs=>(∀ s∈ss,s<10)∧ss.length≤20∧(∀ c∈cs,nS7 c.1∧nS7 c.2)∧cs.length≤20∧cs≠[]
def gd(p:List Nat):Prop:=32 ∉ p∧p.length≤20
theorem gd_nat{k:Nat}(h:nS7 k):gd (natD k):=⟨qir (by decide),by have:=h.len; omega⟩
theorem gd_s{ss:List Nat}(h:∀ s∈ss,s<10)(hl:ss.length≤20):gd (sT ss):=by
 unfold sT gd
 split
 ·decide
 ·refine⟨fun z=>?_,by rw[Qqj]; omega⟩
  obtain⟨s,hs,e⟩:=Qq5.mp z
  omega
theorem gd_c{p:Nat×Nat}(h:nS7 p.1∧nS7 p.2):gd (cT p):=by
 unfold cT gd
 refine⟨fun z=>?_,?_⟩
 ·rcases qjn 44 _ 32 z with e|⟨q,hq,e⟩
  ·omega
  ·simp only[Qqw,Qqo,or_false]at hq
   rcases hq with rfl|rfl<;>exact qir (by decide) e
 ·have:=qvk 44 7 [natD p.1,natD p.2] (fun q hq=>by
   simp only[Qqw,Qqo,or_false]at hq
   rcases hq with rfl|rfl
   ·exact h.1.len
   ·exact h.2.len)
  simp only[Qqv,Qz8]at this
  omega
theorem qwf:∀ p∈wordsN,gd p.1∧p.1≠wVein∧p.2≤7:=by unfold gd; decide
theorem f_gd{f:Fact}(h:f.ok):∀ x∈fP f,gd x:=by
 intro x hx
 cases f with
 |word w ks=>
  rcases Qqw.mp hx with rfl|hx
  ·exact(qwf _ h.1).1
  ·obtain⟨k,hk,rfl⟩:=Qq5.mp hx
   exact gd_nat (h.2 k hk)
 |vein ss cs=>
  obtain⟨h1,h2,h3,_,_⟩:=h
  rcases Qqw.mp hx with rfl|hx
  ·unfold gd; decide
  ·rcases Qqw.mp hx with rfl|hx
   ·exact gd_s h1 h2
   ·obtain⟨c,hc,rfl⟩:=Qq5.mp hx
    exact gd_c (h3 c hc)
theorem f_len{f:Fact}(h:f.ok):(fP f).length≤22:=by
 cases f with
 |word w ks=>
  have:=(qwf _ h.1).2.2
  simp only[fP,Qqv,Qqj]
  simp only at this
  omega
 |vein ss cs=>
  obtain⟨_,_,_,h4,_⟩:=h
  simp only[fP,Qqv,Qqj]
  omega
theorem qfe{f:Fact}(h:f.ok)(S:Store)(d:D)(hd:seqAt S d=some ((fP f).map tD)):mJoin S (.str (mk [32])) [d]=some (.str (mk (fX f)),S):=
 join_list (ps:=fP f) hd (fun x hx=>by have:=(f_gd h x hx).2; omega) (by have:=f_len h; omega)
theorem cD_nl(cs:List (Nat×Nat)):noLocs (cs.map cD)=true:=qz0 fun _ _=>rfl
theorem fD_nl(f:Fact):noLoc (fD f)=true:=by
 cases f with
 |word w ks=>rw[fD,qzg,qzu,qbk]; rfl
 |vein ss cs=>rw[fD,qzg,qzu,qzu,qzu,qzg,qzg,qbk,cD_nl]; rfl
theorem qkg:∀ cs:List Nat,Str.join (mk []) (cs.map fun c=>mk [c])=mk cs
 |[]=>rfl
 |[c]=>rfl
 |c::d::r=>by
  have ih:=qkg (d::r)
  show mk [c]++mk []++Str.join (mk []) ((d::r).map fun c=>mk [c])=_
  rw[ih,qv7,qv7]
  rfl
theorem qdc(S:Store)(ss:List Nat)(hn:ss.length≤20):mJoin S (.str (mk [])) [.lst ((ss.map fun s=>[s+48]).map tD)]=some (tD (ss.map (· + 48)),S):=by
 have e1:asStrs ((ss.map fun s=>[s+48]).map tD)=some ((ss.map (· + 48)).map fun c=>mk [c]):=by
  have:=qke ((ss.map (· + 48)).map fun c=>mk [c])
  rw[← this,Qq6,Qq6,Qq6]
  rfl
 simp only[mJoin,seqAt,e1,oBs,qkg]
 rw[if_pos]
 ·rfl
 have hs:∀ qs:List Nat,(List.map (fun x:Str=>x.length) (qs.map fun c=>mk [c])).sum=qs.length:=fun qs=>by
  induction qs with
  |nil=>rfl
  |cons q r ih=>
   simp only[Qqt,List.sum_cons,Qqv,ih]
   show(1:Nat)+_=_
   omega
 rw[hs,qz2]
 simp only[Qqj,Qz8]
 unfold lim
 omega
theorem s_str{ss:List Nat}(h:∀ s∈ss,s<10):∀ p∈ss.map fun s=>(iD s,[s+48]),∀ S,bStr S [p.1]=some (tD p.2,S):=by
 intro p hp S
 obtain⟨s,hs,rfl⟩:=Qq5.mp hp
 show bStr S [iD s]=some (tD [s+48],S)
 rw[← qxm (h s hs)]
 exact nS7.str (by have:=h s hs; unfold nS7; omega) S
theorem qvx{r:R}{τ:Sl}{S:Store}{t:String}{z v:List Nat}{X:E}{xs:List D}(hz:PySem.Str.ofString t=mk z)(hlit:∀ y,r.ev τ S (.lit (.str y))=some (.str y,S))(hx:r.ev τ S X=some (.lst xs,S))(hj:mJoin S (.str (mk z)) [.lst xs]=some (tD v,S)):
  stepEv r τ S (.meth (.lit (.str (PySem.Str.ofString t))) .join [X])=some (tD v,S):=by
 have my:∀ z,mty S .join (.str z)=true:=fun _=>rfl
 rw[hz]
 simp only[stepEv,hlit,oBs,my,if_true,evs,hx,mfun,hj]
theorem qc8{c:CF}{n:Nat}{τ:Sl}{st:Store}{it:E}{ss:List Nat}(h:∀ s∈ss,s<10)(hl:ss.length≤20)(hit:src (runK c (n+4)) τ st it=some (.tup (ss.map iD),st)):
  (runK c (n+7)).ev τ st (.meth (.lit (.str "")) .join [(.gc (.comp (.var 0) it none (.bcall .str [(.var 0)]) [none]))])=some (tD (ss.map (· + 48)),st):=by
 have e:=qcs (c:=c) (n:=n) (τ:=τ) (st:=st) (it:=it) (ss.map fun s=>(iD s,[s+48])) (by rw[Qq6]; exact hit) (s_str h) (by rw[Qqj]; omega)
 rw[show(ss.map fun s=>(iD s,[s+48])).map Prod.snd=ss.map fun s=>[s+48] by rw[Qq6]; rfl]at e
 rw[ev_k]
 exact qvx te (fun _=>rfl) e (qdc st ss hl)
theorem qf8(S:Store)(a b:List Nat)(ha:a.length≤1000)(hb:b.length≤1000):binop S .Add (tD a) (tD b)=some (tD (a++b),S):=by
 show binop S .Add (.str (mk a)) (.str (mk b))=_
 simp only[binop]
 rw[if_neg (by rw[qz2,qz2]; unfold lim; omega),qv7]
 rfl
theorem w_str{w ks:List Nat}(h:∀ k∈ks,nS7 k):∀ p∈(tD w,w)::ks.map fun k=>(iD k,natD k),∀ S,bStr S [p.1]=some (tD p.2,S):=by
 intro p hp S
 rcases Qqw.mp hp with rfl|hp
 ·rfl
 ·obtain⟨k,hk,rfl⟩:=Qq5.mp hp
  exact(h k hk).str S
theorem qbb(S:Store)(a b:List Nat):eqD S (tD a) (tD b)=some (a==b):=by
 show eqD S (.str (mk a)) (.str (mk b))=_
 rw[qvg,qvq]
theorem ix0(S:Store)(a:D)(r:List D):idxD S (.tup (a::r)) (.int 0)=some a:=by
 simp[idxD,atI,ixN]
theorem ixL0(S:Store)(a:D)(r:List D):idxD S (.lst (a::r)) (.int 0)=some a:=by
 simp[idxD,seqAt,atI,ixN]
theorem qh4{c:CF}{n:Nat}{τ:Sl}{st:Store}{it elt:E}(cs:List (Nat×Nat))(hl:cs.length≤20)(hit:src (runK c n) τ st it=some (.tup (cs.map cD),st))(he:∀ p∈cs,(runK c n).ev [some (cD p)] st elt=some (tD (cT p),st)):
  (runK c (n+2)).ev τ st (.gc (.comp (.var 0) it none elt [none]))=some (.lst ((cs.map cT).map tD),st):=by
 have:=qqw (n:=n) (τ:=τ) (st:=st) (it:=it) (elt:=elt) (sr:=[none]) (rest:=[]) (s:=.tup (cs.map cD)) cs cD (fun p=>tD (cT p)) hit (fun i=>rfl) (by simp[Src.size]) rfl (by omega) (fun _ _=>rfl) he
 rw[this,Qq6]
 rfl
theorem qc4(m:Nat)(st:Store)(f:Fact)(h:f.ok):callD fns (m+1) 26 [fD f] st=some (tD (fX f),st):=by
 refine call_of (0+30) (F:=qq5) rfl rfl rfl ?_
 show exs (stepEx (rn fns m (0+30))) qqx [some (fD f),none] st=_
 unfold qqx
 have lt:∀ n:Nat,∀ τ,(rn fns m (n+1)).ev τ st (.lit (.str "vein"))=some (tD wVein,st):=fun n τ=>by rw[qwd]; rfl
 cases f with
 |word w ks=>
  have hw:=qwf _ h.1
  have x0:∀ n:Nat,(rn fns m (n+3)).ev [some (fD (.word w ks)),none] st (.idx (.var 0) (.lit (.int 0)))=some (tD w,st):=fun n=>by
   show((idxD st (.tup (tD w::ks.map iD)) (.int 0)).map fun d=>(d,st))=_
   rw[ix0]; rfl
  have hl:=f_len h
  simp only[fP,Qqv,Qqj]at hl
  refine qzj ((qzk (st':=st) ?_).trans ?_)
  ·rw[qzl]
   simp only[stepTst,x0,lt,oBs,cmpD,neD,qbb,oMs]
   rw[beq_eq_false_iff_ne.mpr hw.2.1]
   rfl
  rw[ex_k]
  refine qzj ?_
  have ea:(rn fns m (0+26)).ev [some (fD (.word w ks)),none] st (.gc (.lst [(.idx (.var 0) (.lit (.int 0)))]))=some (.lst [tD w],st):=by
   refine qxa (n:=0+24) ?_ (by simp) rfl
   simp only[evs,x0,oBs]
  have sl:(rn fns m (0+24)).ev [some (fD (.word w ks)),none] st (.gc (.sli (.var 0) (some (.lit (.int 1))) none))=some (.tup (ks.map iD),st):=by
   refine qw4 (n:=0+23) ?_ (by rw[qzg]; exact qbk _)
   have:cut (tD w::ks.map iD) (some 1) none=ks.map iD:=qh0 _ 1 (by simp)
   show some (D.tup (cut (tD w::ks.map iD) (some 1) none),st)=_
   rw[this]
  have eb:=qcs (c:=callD fns m) (n:=0+20) (τ:=[some (fD (.word w ks)),none]) (st:=st) (it:=.gc (.sli (.var 0) (some (.lit (.int 1))) none)) (ks.map fun k=>(iD k,natD k)) (by
   rw[Qq6]
   simp only[src]
   rw[sl]
   rfl) (fun p hp=>w_str (w:=w) h.2 p (Qqy _ hp)) (by rw[Qqj]; omega)
  rw[show(ks.map fun k=>(iD k,natD k)).map Prod.snd=ks.map natD by rw[Qq6]; rfl]at eb
  have e:=qci ea eb rfl rfl (by simp; omega) (by rw[qjf,qe8]; rfl)
  have:=qvx (r:=rn fns m (0+28)) qb0 (fun _=>rfl) e (qfe h st _ rfl)
  simp only[stepEx]
  rw[ev_k,this]
  rfl
 |vein ss cs=>
  obtain⟨h1,h2,h3,h4,h5⟩:=id h
  have x0:∀ n:Nat,(rn fns m (n+3)).ev [some (fD (.vein ss cs)),none] st (.idx (.var 0) (.lit (.int 0)))=some (tD wVein,st):=fun n=>rfl
  have x1:∀ n:Nat,∀ o,(rn fns m (n+3)).ev [some (fD (.vein ss cs)),o] st (.idx (.var 0) (.lit (.int 1)))=some (.tup (ss.map iD),st):=fun n o=>rfl
  have x2:∀ n:Nat,∀ o,(rn fns m (n+3)).ev [some (fD (.vein ss cs)),o] st (.idx (.var 0) (.lit (.int 2)))=some (.tup (cs.map cD),st):=fun n o=>rfl
  rw[qzz (τ':=[some (fD (.vein ss cs)),none]) (s':=st) (by
   refine(qzx (st':=st) ?_).trans rfl
   rw[qzl]
   simp only[stepTst,x0,lt,oBs,cmpD,neD,qbb,oMs,beq_self_eq_true,Qxh])]
  have e1:=qc8 (c:=callD fns m) (n:=0+23) (τ:=[some (fD (.vein ss cs)),none]) (st:=st) (it:=.idx (.var 0) (.lit (.int 1))) h1 h2 (qez (x1 _ _))
  rw[qzz (τ':=[some (fD (.vein ss cs)),some (tD (ss.map (· + 48)))]) (s':=st) (by simp only[stepEx,e1,oBs]; rfl)]
  rw[qzz (τ':=[some (fD (.vein ss cs)),some (tD (sT ss))]) (s':=st) (by
   unfold sT
   cases ss with
   |nil=>rw[qi2]; rfl
   |cons a r=>
    rw[if_neg (by simp)]
    refine(qzx (st':=st) ?_).trans rfl
    rw[qzl]
    have l:∀ n:Nat,(rn fns m (n+5)).ev [some (fD (.vein (a::r) cs)),some (tD ((a::r).map (· + 48)))] st (.bcall .len [(.idx (.var 0) (.lit (.int 1)))])=some (.int ((r.length+1:Nat):Int),st):=fun n=>by
     rw[ev_k]
     simp only[stepEv,evs,x1,oBs,bfun,bLen,Qqj,Qqv]
    have l0:∀ n:Nat,(rn fns m (n+1)).ev [some (fD (.vein (a::r) cs)),some (tD ((a::r).map (· + 48)))] st (.lit (.int 0))=some (.int 0,st):=fun n=>rfl
    simp only[stepTst,l,l0,oBs,cmpD,qqs,oMs]
    rw[beq_eq_false_iff_ne.mpr (by omega)])]
  refine qzj ?_
  have ea:(rn fns m (0+27)).ev [some (fD (.vein ss cs)),some (tD (sT ss))] st (.gc (.lst [(.lit (.str "vein")),(.var 1)]))=some (.lst [tD wVein,tD (sT ss)],st):=by
   refine qxa (n:=0+25) ?_ (by simp) rfl
   have q:(rn fns m (0+25)).ev [some (fD (.vein ss cs)),some (tD (sT ss))] st (.var 1)=some (tD (sT ss),st):=rfl
   simp only[evs,lt,q,oBs]
  have eb:=qh4 (c:=callD fns m) (n:=0+25) (τ:=[some (fD (.vein ss cs)),some (tD (sT ss))]) (st:=st) (it:=.idx (.var 0) (.lit (.int 2))) (elt:=.bin .Add (.bin .Add (.bcall .str [(.idx (.var 0) (.lit (.int 0)))]) (.lit (.str ","))) (.bcall .str [(.idx (.var 0) (.lit (.int 1)))])) cs h4 (qez (x2 _ _)) (fun p hp=>by
   obtain⟨p1,p2⟩:=h3 p hp
   have a:=p1.len
   have b:=p2.len
   have b1:∀ n:Nat,(rn fns m (n+6)).ev [some (cD p)] st (.bcall .str [(.idx (.var 0) (.lit (.int 0)))])=some (tD (natD p.1),st):=fun n=>p1.str st
   have b2:∀ n:Nat,(rn fns m (n+6)).ev [some (cD p)] st (.bcall .str [(.idx (.var 0) (.lit (.int 1)))])=some (tD (natD p.2),st):=fun n=>p2.str st
   have b3:∀ n:Nat,(rn fns m (n+1)).ev [some (cD p)] st (.lit (.str ","))=some (tD [44],st):=fun n=>by rw[qds]; rfl
   have b4:∀ n:Nat,(rn fns m (n+8)).ev [some (cD p)] st (.bin .Add (.bcall .str [(.idx (.var 0) (.lit (.int 0)))]) (.lit (.str ",")))=some (tD (natD p.1++[44]),st):=fun n=>by
    rw[ev_k]
    simp only[stepEv,b1,b3,oBs,qf8 _ _ _ (show(natD p.1).length≤1000 by omega) (show([44]:List Nat).length≤1000 by simp)]
   show(rn fns m (0+25)).ev [some (cD p)] st _=_
   rw[ev_k]
   simp only[stepEv,b4,b2,oBs,qf8 _ _ _ (show(natD p.1++[44]).length≤1000 by simp; omega) (show(natD p.2).length≤1000 by omega)]
   show some (tD (natD p.1++[44]++natD p.2),st)=some (tD (natD p.1++44::natD p.2),st)
   simp)
  have e:=qci ea eb rfl rfl (by simp; omega) (by rw[qjf,qe8]; rfl)
  have:=qvx (r:=rn fns m (0+29)) qb0 (fun _=>rfl) e (qfe h st _ rfl)
  simp only[stepEx]
  rw[ev_k,this]
  rfl
theorem dex{ns:List Int}(hn:ns.length≤63){N:Nat}(hN:1≤N)(k j many:Int)(hj:0≤j)(hj2:j<1000)(hm:0<many):∃ v,0≤v∧v<many∧∀ st,callD fns N 7 [sD ns,.int k,.int j,.int many] st=some (.int v,st):=
 ⟨drawV ns k j many,qq7 ns k j hm,qq8 ns k j hm,fun st=>drw hDraw hN hn st k j many hj (by omega) hm⟩
theorem pk{c:CF}{n:Nat}{τ:Sl}{st:Store}{es:List E}{e:E}(xs:List Int){i:Int}(hes:evs ((runK c n).ev τ) es st=some (xs.map D.int,st))(he:(runK c (n+2)).ev τ st e=some (.int i,st))(h0:0≤i)(h1:i<xs.length)(hl:xs.length≤1000):
  (runK c (n+3)).ev τ st (.idx (.gc (.lst es)) e)=some (.int (xs.getD i.toNat 0),st):=by
 have l:=qxa hes (by rw[Qqj]; exact hl) (qz0 fun _ _=>rfl)
 rw[ev_k]
 simp only[stepEv,l,he,oBs,qwq D.int xs 0 i h0 h1,oMs]
section
variable {ns:List Int}(hn:ns.length≤63){m:Nat}
include hn
theorem qyq(hm:2≤m)(k j:Int)(hj:0≤j)(hj2:j<900):∃ i,1≤i∧i≤40∧∀ st,callD fns m 13 [sD ns,.int k,.int j] st=some (.int i,st):=by
 obtain⟨m,rfl⟩:∃ q,m=q+1:=⟨m - 1,by omega⟩
 obtain⟨a,a0,a1,ea⟩:=dex hn (N:=m) (by omega) k (j+1) 6 (by omega) (by omega) (by omega)
 have hm1:=getD_mem ([40,4,4,4,4,4]:List Int) 0 a a0 a1
 have pq:=fun(n:Nat) (st:Store)=>pk (c:=callD fns m) (n:=n+6) (τ:=[some (sD ns),some (.int k),some (.int j)]) (st:=st) (es:=[(.lit (.int 40)),(.lit (.int 4)),(.lit (.int 4)),(.lit (.int 4)),(.lit (.int 4)),(.lit (.int 4))]) (e:=.gc (.call 7 [(.var 0),(.var 1),(.bin .Add (.var 2) (.lit (.int 1))),(.lit (.int 6))])) [40,4,4,4,4,4] (i:=a) rfl (qzc (n:=n+5) (ds:=[sD ns,.int k,.int (j+1),.int 6]) rfl (ea st) rfl) a0 a1 (by simp)
 generalize ([40,4,4,4,4,4]:List Int).getD a.toNat 0=q at hm1 pq
 simp only[Qqw,Qqo,or_false]at hm1
 obtain⟨v,v0,v1,ev⟩:=dex hn (N:=m) (by omega) k j q (by omega) (by omega) (by omega)
 refine⟨1+v,by omega,by omega,fun st=>?_⟩
 refine call_of (0+20) (F:=qvc) rfl rfl rfl ?_
 show exs (stepEx (rn fns m (0+20))) qj2 [some (sD ns),some (.int k),some (.int j)] st=_
 unfold qj2
 refine qzj ?_
 have g:(rn fns m (0+19)).ev [some (sD ns),some (.int k),some (.int j)] st (.gc (.call 7 [(.var 0),(.var 1),(.var 2),(.idx (.gc (.lst [(.lit (.int 40)),(.lit (.int 4)),(.lit (.int 4)),(.lit (.int 4)),(.lit (.int 4)),(.lit (.int 4))])) (.gc (.call 7 [(.var 0),(.var 1),(.bin .Add (.var 2) (.lit (.int 1))),(.lit (.int 6))])))]))=some (.int v,st):=by
  refine qzc (n:=0+16) (ds:=[sD ns,.int k,.int j,.int q]) ?_ (ev st) rfl
  have p:=pq 8 st
  have y0:∀ n:Nat,(rn fns m (n+1)).ev [some (sD ns),some (.int k),some (.int j)] st (.var 0)=some (sD ns,st):=fun n=>rfl
  have y1:∀ n:Nat,(rn fns m (n+1)).ev [some (sD ns),some (.int k),some (.int j)] st (.var 1)=some (.int k,st):=fun n=>rfl
  have y2:∀ n:Nat,(rn fns m (n+1)).ev [some (sD ns),some (.int k),some (.int j)] st (.var 2)=some (.int j,st):=fun n=>rfl
  simp only[evs,y0,y1,y2,p,oBs]
 have g1:(rn fns m (0+19)).ev [some (sD ns),some (.int k),some (.int j)] st (.lit (.int 1))=some (.int 1,st):=rfl
 simp only[stepEx]
 rw[ev_k]
 simp only[stepEv,g,g1,oBs,pA,oMs]
theorem qbx(hm:2≤m)(k j:Int)(hj:0≤j)(hj2:j<900)(xs:List Int)(hx:∀ x∈xs,1≤x∧x≤400)(hl:xs.length≤100):∃ i,1≤i∧i≤400∧∀ st,callD fns m 14 [sD ns,.int k,.int j,.lst (xs.map D.int)] st=some (.int i,st):=by
 obtain⟨m,rfl⟩:∃ q,m=q+1:=⟨m - 1,by omega⟩
 obtain⟨a,a0,a1,ea⟩:=dex hn (N:=m) (by omega) k j 14 (by omega) (by omega) (by omega)
 obtain⟨b,b0,b1,eb⟩:=dex hn (N:=m) (by omega) k (j+1) 400 (by omega) (by omega) (by omega)
 have ln:∀ S,bLen S [.lst (xs.map D.int)]=some (.int (xs.length:Int),S):=fun S=>by simp only[bLen,seqAt,oMs,Qqj]
 have t1:∀ st (n:Nat),(rn fns m (n+10)).tst [some (sD ns),some (.int k),some (.int j),some (.lst (xs.map D.int))] st (.or (.cmp .Eq (.bcall .len [(.var 3)]) (.lit (.int 0))) (.cmp .Eq (.gc (.call 7 [(.var 0),(.var 1),(.var 2),(.lit (.int 14))])) (.lit (.int 0))))=some (decide (xs.length=0∨a=0),st):=fun st n=>by
  simp only[qzl,stepTst,ev_k,stepEv,evs,Qqx,Qqz,oBs,bfun,ln,call_k,ea,oMs,qqf,cmpD,qqs]
  by_cases h:xs.length=0
  ·simp[h]
  ·have:((xs.length:Int)==0)=false:=by rw[beq_eq_false_iff_ne]; omega
   simp only[this,Qq0,if_false,h,false_or]
   by_cases h2:a=0<;>simp[h2]
 by_cases h:xs.length=0∨a=0
 ·refine⟨1+b,by omega,by omega,fun st=>?_⟩
  refine call_of (0+20) (F:=qxr) rfl rfl rfl ?_
  show exs (stepEx (rn fns m (0+20))) qqk [some (sD ns),some (.int k),some (.int j),some (.lst (xs.map D.int))] st=_
  unfold qqk
  refine qzj ((qzk (st':=st) (by rw[t1,decide_eq_true h])).trans ?_)
  rw[ex_k]
  refine qzj ?_
  simp only[stepEx,ev_k,stepEv,evs,Qqx,Qqz,oBs,call_k,pA,eb,oMs,qqf]
 ·have hp:0<xs.length:=by omega
  obtain⟨c,c0,c1,ec⟩:=dex hn (N:=m) (by omega) k (j+1) (xs.length:Int) (by omega) (by omega) (by omega)
  have hx':=hx _ (getD_mem xs 0 c c0 c1)
  refine⟨xs.getD c.toNat 0,hx'.1,hx'.2,fun st=>?_⟩
  refine call_of (0+20) (F:=qxr) rfl rfl rfl ?_
  show exs (stepEx (rn fns m (0+20))) qqk [some (sD ns),some (.int k),some (.int j),some (.lst (xs.map D.int))] st=_
  unfold qqk
  rw[qzz (τ':=[some (sD ns),some (.int k),some (.int j),some (.lst (xs.map D.int))]) (s':=st) (by refine(qzx (st':=st) ?_).trans rfl; rw[t1,decide_eq_false h])]
  refine qzj ?_
  simp only[stepEx,ev_k,stepEv,evs,Qqx,Qqz,oBs,bfun,ln,call_k,pA,ec,oMs,qqf,qwq D.int xs 0 c c0 c1]
omit hn in
theorem qqp{w:List Nat}{is:List Int}(hw:(w,is.length)∈wordsN)(h:∀ i∈is,0≤i∧i<10 ^ 7):∃ f:Fact,f.ok∧fD f=.tup (tD w::is.map D.int):=by
 refine⟨.word w (is.map Int.toNat),⟨by rw[Qqj]; exact hw,fun k hk=>?_⟩,?_⟩
 ·obtain⟨i,hi,rfl⟩:=Qq5.mp hk
  have:=h i hi
  unfold nS7
  omega
 ·show D.tup (tD w::(is.map Int.toNat).map iD)=_
  rw[Qq6]
  congr 2
  refine Qxd fun i hi=>?_
  show D.int ((i.toNat:Nat):Int)=D.int i
  rw[Int.toNat_of_nonneg (h i hi).1]
omit hn in
theorem xPay:PySem.Str.ofString "pay" = mk [112,97,121]:=by decide +kernel
omit hn in
theorem pMod{a b:Int}(S:Store)(h:0<b):binop S .Mod (.int a) (.int b)=some (.int (a % b),S):=by
 simp only[binop]
 rw[if_pos h]
omit hn in
theorem pDiv{a b:Int}(S:Store)(h:0<b)(h2:b<2 ^ 64):binop S .FloorDiv (.int a) (.int b)=some (.int (a / b),S):=by
 simp only[binop]
 rw[if_pos ⟨h,h2⟩]
theorem pay_ok(hm:3≤m)(k:Int):∃ f:Fact,f.ok∧∀ st,callD fns m 19 [sD ns,.int k] st=some (fD f,st):=by
 obtain⟨m,rfl⟩:∃ q,m=q+1:=⟨m - 1,by omega⟩
 obtain⟨g,g0,g1,eg⟩:=qyq hn (m:=m) (by omega) k 1 (by decide) (by decide)
 obtain⟨t,t0,t1,et⟩:=qyq hn (m:=m) (by omega) k 3 (by decide) (by decide)
 obtain⟨a,a0,a1,ea⟩:=dex hn (N:=m) (by omega) k 6 2 (by decide) (by decide) (by decide)
 have hm1:=getD_mem ([9,10 ^ 6]:List Int) 0 a a0 a1
 have pq:=fun(n:Nat) (τ:Sl) (st:Store) (h0:τ[0]?=some (some (sD ns))) (h1:τ[1]?=some (some (.int k)))=>pk (c:=callD fns m) (n:=n+6) (τ:=τ) (st:=st) (es:=[(.lit (.int 9)),(.bin .Pow (.lit (.int 10)) (.lit (.int 6)))]) (e:=.gc (.call 7 [(.var 0),(.var 1),(.lit (.int 6)),(.lit (.int 2))])) [9,10 ^ 6] (i:=a) rfl (qzc (n:=n+5) (ds:=[sD ns,.int k,.int 6,.int 2]) (by simp only[evs,ev_k,stepEv,h0,h1,oBs]) (ea st) rfl) a0 a1 (by simp)
 generalize ([9,10 ^ 6]:List Int).getD a.toNat 0=q at hm1 pq
 simp only[Qqw,Qqo,or_false]at hm1
 obtain⟨v,v0,v1,ev⟩:=dex hn (N:=m) (by omega) k 5 q (by omega) (by omega) (by omega)
 obtain⟨u,u0,u1,hu⟩:∃ u:Int,0≤u∧u<10 ^ 7∧u=if t=g then g % 40+1 else t:=⟨_,by split<;>omega,by split<;>omega,rfl⟩
 obtain⟨f,hf,ef⟩:=qqp (w:=[112,97,121]) (is:=[g,u,1+v]) (by simp[wordsN]) (fun i hi=>by
  simp only[Qqw,Qqo,or_false]at hi
  rcases hi with rfl|rfl|rfl<;>omega)
 refine⟨f,hf,fun st=>?_⟩
 rw[ef]
 refine call_of (0+20) (F:=qvd) rfl rfl rfl ?_
 show exs (stepEx (rn fns m (0+20))) qj3 [some (sD ns),some (.int k),none,none] st=_
 unfold qj3
 rw[qzz (τ':=[some (sD ns),some (.int k),some (.int g),none]) (s':=st) (by
  simp only[stepEx,ev_k,stepEv,evs,Qqx,Qqz,oBs,call_k,eg,oMs,qqf]
  rfl)]
 rw[qzz (τ':=[some (sD ns),some (.int k),some (.int g),some (.int t)]) (s':=st) (by
  simp only[stepEx,ev_k,stepEv,evs,Qqx,Qqz,oBs,call_k,et,oMs,qqf]
  rfl)]
 rw[qzz (τ':=[some (sD ns),some (.int k),some (.int g),some (.int u)]) (s':=st) (by
  have tt:∀ n:Nat,(rn fns m (n+10)).tst [some (sD ns),some (.int k),some (.int g),some (.int t)] st (.cmp .Eq (.var 3) (.var 2))=some (t==g,st):=fun n=>by
   simp only[qzl,stepTst,ev_k,stepEv,Qqx,Qqz,oBs,cmpD,qqs,oMs]
  by_cases h:t=g
  ·rw[if_pos h]at hu
   refine(qzk (st':=st) (by rw[tt,h,beq_self_eq_true])).trans ?_
   rw[ex_k,qzz (τ':=[some (sD ns),some (.int k),some (.int g),some (.int u)]) (s':=st) (by
    simp only[stepEx,ev_k,stepEv,Qqx,Qqz,oBs,pMod (a:=g) (b:=40) _ (by omega),pA]
    rw[hu]
    rfl)]
   rfl
  ·rw[if_neg h]at hu
   refine(qzx (st':=st) (by rw[tt,beq_eq_false_iff_ne.mpr h])).trans ?_
   rw[hu]
   rfl)]
 generalize hT:([some (sD ns),some (.int k),some (.int g),some (.int u)]:Sl)=T
 have z0:T[0]?=some (some (sD ns)):=by rw[← hT]; rfl
 have z1:T[1]?=some (some (.int k)):=by rw[← hT]; rfl
 have z2:T[2]?=some (some (.int g)):=by rw[← hT]; rfl
 have z3:T[3]?=some (some (.int u)):=by rw[← hT]; rfl
 have gg:(rn fns m (0+18)).ev T st (.gc (.call 7 [(.var 0),(.var 1),(.lit (.int 5)),(.idx (.gc (.lst [(.lit (.int 9)),(.bin .Pow (.lit (.int 10)) (.lit (.int 6)))])) (.gc (.call 7 [(.var 0),(.var 1),(.lit (.int 6)),(.lit (.int 2))])))]))=some (.int v,st):=by
  refine qzc (n:=0+15) (ds:=[sD ns,.int k,.int 5,.int q]) ?_ (ev st) rfl
  have p:=pq 7 T st z0 z1
  have y0:∀ n:Nat,(rn fns m (n+1)).ev T st (.var 0)=some (sD ns,st):=fun n=>by rw[ev_k]; simp only[stepEv,z0]
  have y1:∀ n:Nat,(rn fns m (n+1)).ev T st (.var 1)=some (.int k,st):=fun n=>by rw[ev_k]; simp only[stepEv,z1]
  have y2:∀ n:Nat,(rn fns m (n+1)).ev T st (.lit (.int 5))=some (.int 5,st):=fun n=>rfl
  simp only[evs,y0,y1,y2,p,oBs]
 have g3:(rn fns m (0+19)).ev T st (.bin .Add (.lit (.int 1)) (.gc (.call 7 [(.var 0),(.var 1),(.lit (.int 5)),(.idx (.gc (.lst [(.lit (.int 9)),(.bin .Pow (.lit (.int 10)) (.lit (.int 6)))])) (.gc (.call 7 [(.var 0),(.var 1),(.lit (.int 6)),(.lit (.int 2))])))])))=some (.int (1+v),st):=by
  have g1:(rn fns m (0+18)).ev T st (.lit (.int 1))=some (.int 1,st):=rfl
  rw[ev_k]
  simp only[stepEv,gg,g1,oBs,pA]
 refine qzj ?_
 have b0:∀ n:Nat,(rn fns m (n+1)).ev T st (.lit (.str "pay"))=some (tD [112,97,121],st):=fun n=>by rw[xPay]; rfl
 have b1:∀ n:Nat,(rn fns m (n+1)).ev T st (.var 2)=some (.int g,st):=fun n=>by rw[ev_k]; simp only[stepEv,z2]
 have b2:∀ n:Nat,(rn fns m (n+1)).ev T st (.var 3)=some (.int u,st):=fun n=>by rw[ev_k]; simp only[stepEv,z3]
 simp only[stepEx]
 rw[ev_k]
 simp only[stepEv,evs,b0,b1,b2,g3,oBs]
 rfl
omit hn in
theorem sort2(a b:Int):∃ lo hi,sortInt [a,b]=[lo,hi]∧lo≤hi∧((lo=a∧hi=b)∨(lo=b∧hi=a)):=by
 by_cases h:a≤b
 ·exact⟨a,b,by simp[sortInt,insInt,h],h,.inl ⟨rfl,rfl⟩⟩
 ·exact⟨b,a,by simp[sortInt,insInt,h],by omega,.inr ⟨rfl,rfl⟩⟩
omit hn in
theorem qfo{c:CF}{n:Nat}{τ:Sl}{st:Store}{e1 e2:E}{a b lo hi:Int}(h1:(runK c n).ev τ st e1=some (.int a,st))(h2:(runK c n).ev τ st e2=some (.int b,st))(hs:sortInt [a,b]=[lo,hi]):(runK c (n+4)).ev τ st (.gc (.bcall .sorted [(.gc (.lst [e1,e2]))]))=some (.lst [.int lo,.int hi],st):=by
 refine qva (n:=n+3) ?_ rfl
 have l:=qxa (c:=c) (n:=n) (τ:=τ) (st:=st) (es:=[e1,e2]) (ds:=[.int a,.int b]) (by simp only[evs,h1,h2,oBs]) (by simp) rfl
 rw[ev_k]
 have ls:¬ 64≤[D.int a,D.int b].length:=by simp
 simp only[stepEv,evs,l,oBs,bfun,bSorted,seqAt,ls,if_false,asInts,oMs,hs]
 rfl
theorem qbq(hm:2≤m)(k j wide tall:Int)(hj:0≤j)(hj2:j<900)(hw:0<wide)(ht:0<tall):∃ a b c d:Int,0≤a∧a<wide∧0≤b∧b<tall∧0≤c∧c<wide∧0≤d∧d<tall∧∀ st,callD fns m 10 [sD ns,.int k,.int j,.int wide,.int tall] st=some (.tup [.int a,.int b,.int c,.int d],st):=by
 obtain⟨m,rfl⟩:∃ q,m=q+1:=⟨m - 1,by omega⟩
 obtain⟨r1,p1,q1,e1⟩:=dex hn (N:=m) (by omega) k j wide (by omega) (by omega) hw
 obtain⟨r2,p2,q2,e2⟩:=dex hn (N:=m) (by omega) k (j+1) wide (by omega) (by omega) hw
 obtain⟨r3,p3,q3,e3⟩:=dex hn (N:=m) (by omega) k (j+2) tall (by omega) (by omega) ht
 obtain⟨r4,p4,q4,e4⟩:=dex hn (N:=m) (by omega) k (j+3) tall (by omega) (by omega) ht
 obtain⟨a,c,s1,o1,z1⟩:=sort2 r1 r2
 obtain⟨b,d,s2,o2,z2⟩:=sort2 r3 r4
 refine⟨a,b,c,d,by omega,by omega,by omega,by omega,by omega,by omega,by omega,by omega,fun st=>?_⟩
 refine call_of (0+20) (F:=qkk) rfl rfl rfl ?_
 show exs (stepEx (rn fns m (0+20))) qxu [some (sD ns),some (.int k),some (.int j),some (.int wide),some (.int tall),none,none] st=_
 unfold qxu
 have x1:=qfo (c:=callD fns m) (n:=0+16) (τ:=[some (sD ns),some (.int k),some (.int j),some (.int wide),some (.int tall),none,none]) (st:=st) (e1:=.call 7 [(.var 0),(.var 1),(.var 2),(.var 3)]) (e2:=.call 7 [(.var 0),(.var 1),(.bin .Add (.var 2) (.lit (.int 1))),(.var 3)]) (e1 st) (e2 st) s1
 rw[qzz (τ':=[some (sD ns),some (.int k),some (.int j),some (.int wide),some (.int tall),some (.lst [.int a,.int c]),none]) (s':=st) (by simp only[stepEx,x1,oBs]; rfl)]
 have x2:=qfo (c:=callD fns m) (n:=0+16) (τ:=[some (sD ns),some (.int k),some (.int j),some (.int wide),some (.int tall),some (.lst [.int a,.int c]),none]) (st:=st) (e1:=.call 7 [(.var 0),(.var 1),(.bin .Add (.var 2) (.lit (.int 2))),(.var 4)]) (e2:=.call 7 [(.var 0),(.var 1),(.bin .Add (.var 2) (.lit (.int 3))),(.var 4)]) (e3 st) (e4 st) s2
 rw[qzz (τ':=[some (sD ns),some (.int k),some (.int j),some (.int wide),some (.int tall),some (.lst [.int a,.int c]),some (.lst [.int b,.int d])]) (s':=st) (by simp only[stepEx,x2,oBs]; rfl)]
 exact qzj rfl
noncomputable def zD(w t d:Int):D:=.tup [.int w,.int t,.int d]
theorem qla(hm:2≤m)(k:Int):∃ w t d:Int,1≤w∧w≤24∧1≤t∧t≤24∧0≤d∧d≤12∧∀ st,callD fns m 9 [sD ns,.int k] st=some (zD w t d,st):=by
 obtain⟨m,rfl⟩:∃ q,m=q+1:=⟨m - 1,by omega⟩
 obtain⟨a,a0,a1,ea⟩:=dex hn (N:=m) (by omega) k 0 6 (by decide) (by decide) (by decide)
 obtain⟨b,b0,b1,eb⟩:=dex hn (N:=m) (by omega) k 1 6 (by decide) (by decide) (by decide)
 obtain⟨c,c0,c1,ec⟩:=dex hn (N:=m) (by omega) k 2 6 (by decide) (by decide) (by decide)
 obtain⟨x,x0,x1,ex⟩:=dex hn (N:=m) (by omega) k 3 12 (by decide) (by decide) (by decide)
 let L:List (Int×Int×Int):=[(24,1+(1+b) / 3,c / 2),(1+(1+a) / 3,24,c / 2),(1+(1+a) / 3,1+(1+b) / 3,12),(1+a,1+b,c)]
 let g:Int×Int×Int→D:=fun p=>zD p.1 p.2.1 p.2.2
 let y:Int:=if x<3 then x else 3
 have y0:0≤y:=by show 0≤(if x<3 then x else 3); split<;>omega
 have y1:y<(L.length:Nat):=by show(if x<3 then x else 3)<(4:Int); split<;>omega
 have hp:=getD_mem L (24,1,0) y y0 y1
 have hi:=qwq g L (24,1,0) y y0 y1
 generalize L.getD y.toNat (24,1,0)=p at hp hi
 have bd:1≤p.1∧p.1≤24∧1≤p.2.1∧p.2.1≤24∧0≤p.2.2∧p.2.2≤12:=by
  simp only[L,Qqw,Qqo,or_false]at hp
  rcases hp with rfl|rfl|rfl|rfl<;>simp only<;>omega
 refine⟨p.1,p.2.1,p.2.2,bd.1,bd.2.1,bd.2.2.1,bd.2.2.2.1,bd.2.2.2.2.1,bd.2.2.2.2.2,fun st=>?_⟩
 refine call_of (0+20) (F:=qkj) rfl rfl rfl ?_
 show exs (stepEx (rn fns m (0+20))) qxt [some (sD ns),some (.int k),none,none,none,none] st=_
 unfold qxt
 rw[qzz (τ':=[some (sD ns),some (.int k),some (.int (1+a)),none,none,none]) (s':=st) (by
  simp only[stepEx,ev_k,stepEv,evs,Qqx,Qqz,oBs,call_k,ea,oMs,qqf,pA]
  rfl)]
 rw[qzz (τ':=[some (sD ns),some (.int k),some (.int (1+a)),some (.int (1+b)),none,none]) (s':=st) (by
  simp only[stepEx,ev_k,stepEv,evs,Qqx,Qqz,oBs,call_k,eb,oMs,qqf,pA]
  rfl)]
 rw[qzz (τ':=[some (sD ns),some (.int k),some (.int (1+a)),some (.int (1+b)),some (.int c),none]) (s':=st) (by
  simp only[stepEx,ev_k,stepEv,evs,Qqx,Qqz,oBs,call_k,ec,oMs,qqf]
  rfl)]
 have l1:(rn fns m (0+20)).ev [some (sD ns),some (.int k),some (.int (1+a)),some (.int (1+b)),some (.int c),none] st (.gc (.lst [(.tup [(.lit (.int 24)),(.bin .Add (.lit (.int 1)) (.bin .FloorDiv (.var 3) (.lit (.int 3)))),(.bin .FloorDiv (.var 4) (.lit (.int 2)))]),(.tup [(.bin .Add (.lit (.int 1)) (.bin .FloorDiv (.var 2) (.lit (.int 3)))),(.lit (.int 24)),(.bin .FloorDiv (.var 4) (.lit (.int 2)))])]))=some (.lst [zD 24 (1+(1+b) / 3) (c / 2),zD (1+(1+a) / 3) 24 (c / 2)],st):=qxa (n:=0+18) rfl (by simp) rfl
 rw[qzz (τ':=[some (sD ns),some (.int k),some (.int (1+a)),some (.int (1+b)),some (.int c),some (.lst [zD 24 (1+(1+b) / 3) (c / 2),zD (1+(1+a) / 3) 24 (c / 2)])]) (s':=st) (by simp only[stepEx,l1,oBs]; rfl)]
 generalize hT:([some (sD ns),some (.int k),some (.int (1+a)),some (.int (1+b)),some (.int c),some (.lst [zD 24 (1+(1+b) / 3) (c / 2),zD (1+(1+a) / 3) 24 (c / 2)])]:Sl)=T
 have l2:(rn fns m (0+18)).ev T st (.gc (.lst [(.tup [(.bin .Add (.lit (.int 1)) (.bin .FloorDiv (.var 2) (.lit (.int 3)))),(.bin .Add (.lit (.int 1)) (.bin .FloorDiv (.var 3) (.lit (.int 3)))),(.lit (.int 12))]),(.tup [(.var 2),(.var 3),(.var 4)])]))=some (.lst [zD (1+(1+a) / 3) (1+(1+b) / 3) 12,zD (1+a) (1+b) c],st):=by
  rw[← hT]
  exact qxa (n:=0+16) rfl (by simp) rfl
 have l3:(rn fns m (0+20)).ev T st (.gc (.bin .Add (.var 5) (.gc (.lst [(.tup [(.bin .Add (.lit (.int 1)) (.bin .FloorDiv (.var 2) (.lit (.int 3)))),(.bin .Add (.lit (.int 1)) (.bin .FloorDiv (.var 3) (.lit (.int 3)))),(.lit (.int 12))]),(.tup [(.var 2),(.var 3),(.var 4)])]))))=some (.lst (L.map g),st):=
  qci (n:=0+18) (x:=.lst [zD 24 (1+(1+b) / 3) (c / 2),zD (1+(1+a) / 3) 24 (c / 2)]) (by rw[← hT]; rfl) l2 rfl rfl (by simp) rfl
 rw[qzz (τ':=[some (sD ns),some (.int k),some (.int (1+a)),some (.int (1+b)),some (.int c),some (.lst (L.map g))]) (s':=st) (by simp only[stepEx,l3,oBs]; rw[← hT]; rfl)]
 generalize L.map g=G at hi
 refine qzj ?_
 have mn:∀ n:Nat,(rn fns m (n+8)).ev [some (sD ns),some (.int k),some (.int (1+a)),some (.int (1+b)),some (.int c),some (.lst G)] st (.bcall .min [(.lit (.int 3)),(.gc (.call 7 [(.var 0),(.var 1),(.lit (.int 3)),(.lit (.int 12))]))])=some (.int y,st):=fun n=>by
  simp only[ev_k,stepEv,evs,Qqx,Qqz,oBs,call_k,ex,oMs,qqf,bfun,bMin]
  rfl
 have v5:∀ n:Nat,(rn fns m (n+1)).ev [some (sD ns),some (.int k),some (.int (1+a)),some (.int (1+b)),some (.int c),some (.lst G)] st (.var 5)=some (.lst G,st):=fun n=>rfl
 simp only[stepEx]
 rw[ev_k]
 simp only[stepEv,mn,v5,oBs,hi,oMs]
 rfl
end
section
variable {ns:List Int}(hn:ns.length≤63){m:Nat}
include hn
theorem qgm(hm:2≤m)(k j e:Int)(hj:0≤j)(hj2:j<900)(he:0≤e)(he2:e≤12):∃ ss:List Nat,(∀ s∈ss,s<10)∧ss.length≤20∧∀ st,callD fns m 11 [sD ns,.int k,.int j,.int e] st=some (.tup (ss.map iD),st):=by
 obtain⟨m,rfl⟩:∃ q,m=q+1:=⟨m - 1,by omega⟩
 have hd:∀ i:Nat,i<e.toNat→∃ s:Nat,s<10∧∀ st (n:Nat),(rn fns m (n+9)).ev [some (.int (0+(i:Int))),some (sD ns),some (.int k),some (.int j)] st (.idx (.gc (.lst [(.lit (.int 0)),(.lit (.int 1)),(.lit (.int 2)),(.lit (.int 3)),(.lit (.int 4)),(.lit (.int 0)),(.lit (.int 0))])) (.gc (.call 7 [(.var 1),(.var 2),(.bin .Add (.var 3) (.var 0)),(.lit (.int 7))])))=some (iD s,st):=fun i hi=>by
  obtain⟨a,a0,a1,ea⟩:=dex hn (N:=m) (by omega) k (j+(0+(i:Int))) 7 (by omega) (by omega) (by omega)
  have hm1:=getD_mem ([0,1,2,3,4,0,0]:List Int) 0 a a0 a1
  have pq:=fun(n:Nat) (st:Store)=>pk (c:=callD fns m) (n:=n+6) (τ:=[some (.int (0+(i:Int))),some (sD ns),some (.int k),some (.int j)]) (st:=st) (es:=[(.lit (.int 0)),(.lit (.int 1)),(.lit (.int 2)),(.lit (.int 3)),(.lit (.int 4)),(.lit (.int 0)),(.lit (.int 0))]) (e:=.gc (.call 7 [(.var 1),(.var 2),(.bin .Add (.var 3) (.var 0)),(.lit (.int 7))])) [0,1,2,3,4,0,0] (i:=a) rfl (qzc (n:=n+5) (ds:=[sD ns,.int k,.int (j+(0+(i:Int))),.int 7]) rfl (ea st) rfl) a0 a1 (by simp)
  generalize ([0,1,2,3,4,0,0]:List Int).getD a.toNat 0=q at hm1 pq
  simp only[Qqw,Qqo,or_false]at hm1
  refine⟨q.toNat,by omega,fun st n=>?_⟩
  rw[show iD q.toNat=D.int q by show D.int ((q.toNat:Nat):Int)=_; rw[Int.toNat_of_nonneg (by omega)]]
  exact pq n st
 let F:Nat→Nat:=fun i=>if h:i<e.toNat then(hd i h).choose else 0
 have hF:∀ i:Nat,i<e.toNat→F i<10∧∀ st (n:Nat),(rn fns m (n+9)).ev [some (.int (0+(i:Int))),some (sD ns),some (.int k),some (.int j)] st (.idx (.gc (.lst [(.lit (.int 0)),(.lit (.int 1)),(.lit (.int 2)),(.lit (.int 3)),(.lit (.int 4)),(.lit (.int 0)),(.lit (.int 0))])) (.gc (.call 7 [(.var 1),(.var 2),(.bin .Add (.var 3) (.var 0)),(.lit (.int 7))])))=some (iD (F i),st):=fun i hi=>by
  show(dite _ _ _<10)∧_
  simp only[F,hi,dif_pos]
  exact(hd i hi).choose_spec
 generalize F=F at hF
 refine⟨(List.range e.toNat).map F,fun s hs=>?_,by simp; omega,fun st=>?_⟩
 ·obtain⟨i,hi,rfl⟩:=Qq5.mp hs
  exact(hF i (Qzn.mp hi)).1
 refine call_of (0+20) (F:=qjy) rfl rfl rfl ?_
 show exs (stepEx (rn fns m (0+20))) qxz [some (sD ns),some (.int k),some (.int j),some (.int e)] st=_
 unfold qxz
 have hb:big e=false:=by unfold big; simp; omega
 have key:=qqw (c:=callD fns m) (n:=0+17) (τ:=[some (sD ns),some (.int k),some (.int j),some (.int e)]) (st:=st) (it:=.rng1 (.var 3)) (elt:=.idx (.gc (.lst [(.lit (.int 0)),(.lit (.int 1)),(.lit (.int 2)),(.lit (.int 3)),(.lit (.int 4)),(.lit (.int 0)),(.lit (.int 0))])) (.gc (.call 7 [(.var 1),(.var 2),(.bin .Add (.var 3) (.var 0)),(.lit (.int 7))]))) (sr:=[none,some 0,some 1,some 2]) (s:=.rng 0 e.toNat) (rest:=[some (sD ns),some (.int k),some (.int j)]) (List.range e.toNat) (fun(i:Nat)=>.int ((0:Int)+i)) (fun i=>iD (F i)) (by
  simp only[src,ev_k,stepEv,Qqx,Qqz,oBs,hb,Qq0,if_false]) (fun i=>qgg 0 _ i) (by simp[Src.size]) rfl (by simp; omega) (fun _ _=>rfl) (fun i hi=>(hF i (Qzn.mp hi)).2 st 8)
 have key':(rn fns m (0+19)).ev [some (sD ns),some (.int k),some (.int j),some (.int e)] st _=_:=key
 refine qzj ?_
 simp only[stepEx]
 rw[ev_k]
 simp only[stepEv,evs,key',oBs,bfun,bTuple,seqAt,oMs]
 rw[Qq6]
 rfl
omit hn in
theorem xDig:PySem.Str.ofString "dig" = mk [100,105,103]:=by decide +kernel
omit hn in
theorem qfn{c:CF}{n:Nat}{τ:Sl}{st:Store}{a:E}{lo hi:Option E}{xs:List D}{l h:Option Int}(ha:(runK c n).ev τ st a=some (.tup xs,st))(hlo:part (runK c n) τ st lo=some (l,st))(hhi:part (runK c n) τ st hi=some (h,st))(hd:noLocs (cut xs l h)=true):(runK c (n+2)).ev τ st (.gc (.sli a lo hi))=some (.tup (cut xs l h),st):=by
 refine qw4 ?_ (by rw[qzg]; exact hd)
 show((runK c n).ev τ st a).bind _=_
 rw[ha]
 simp only[oBs,hlo,hhi,sliD]
theorem dig_ok(hm:3≤m)(k w t d:Int)(w0:1≤w)(w1:w≤24)(t0:1≤t)(t1:t≤24)(d0:0≤d)(d1:d≤12):∃ f:Fact,f.ok∧∀ st,callD fns m 18 [sD ns,.int k,zD w t d] st=some (fD f,st):=by
 obtain⟨m,rfl⟩:∃ q,m=q+1:=⟨m - 1,by omega⟩
 obtain⟨a1,a2,a3,a4,_,_,_,_,_,_,_,_,ea⟩:=qbq hn (m:=m) (by omega) k 1 w t (by decide) (by decide) (by omega) (by omega)
 obtain⟨b1,b2,b3,b4,_,_,_,_,_,_,_,_,eb⟩:=qbq hn (m:=m) (by omega) k 5 w t (by decide) (by decide) (by omega) (by omega)
 obtain⟨c,c0,c1,ec⟩:=dex hn (N:=m) (by omega) k 9 (d+1) (by omega) (by omega) (by omega)
 obtain⟨x,x0,x1,ex⟩:=dex hn (N:=m) (by omega) k 11 3 (by decide) (by decide) (by decide)
 obtain⟨g,g0,g1,eg⟩:=qyq hn (m:=m) (by omega) k 12 (by decide) (by decide)
 have hm1:=getD_mem ([9,300,10 ^ 6]:List Int) 0 x x0 x1
 have pq:=fun(n:Nat) (τ:Sl) (st:Store) (h0:τ[0]?=some (some (sD ns))) (h1:τ[1]?=some (some (.int k)))=>pk (c:=callD fns m) (n:=n+6) (τ:=τ) (st:=st) (es:=[(.lit (.int 9)),(.lit (.int 300)),(.bin .Pow (.lit (.int 10)) (.lit (.int 6)))]) (e:=.gc (.call 7 [(.var 0),(.var 1),(.lit (.int 11)),(.lit (.int 3))])) [9,300,10 ^ 6] (i:=x) rfl (qzc (n:=n+5) (ds:=[sD ns,.int k,.int 11,.int 3]) (by simp only[evs,ev_k,stepEv,h0,h1,oBs]) (ex st) rfl) x0 x1 (by simp)
 generalize ([9,300,10 ^ 6]:List Int).getD x.toNat 0=q at hm1 pq
 simp only[Qqw,Qqo,or_false]at hm1
 obtain⟨v,v0,v1,ev⟩:=dex hn (N:=m) (by omega) k 10 q (by omega) (by omega) (by omega)
 obtain⟨f,hf,ef⟩:=qqp (w:=[100,105,103]) (is:=[g,a1,a2,b3,b4,c,1+v]) (by simp[wordsN]) (fun i hi=>by
  simp only[Qqw,Qqo,or_false]at hi
  rcases hi with rfl|rfl|rfl|rfl|rfl|rfl|rfl<;>omega)
 refine⟨f,hf,fun st=>?_⟩
 rw[ef]
 refine call_of (0+20) (F:=qve) rfl rfl rfl ?_
 show exs (stepEx (rn fns m (0+20))) qj4 [some (sD ns),some (.int k),some (zD w t d),none,none,none] st=_
 unfold qj4
 have i0:∀ S,idxD S (zD w t d) (.int 0)=some (.int w):=fun S=>rfl
 have i1:∀ S,idxD S (zD w t d) (.int 1)=some (.int t):=fun S=>rfl
 have i2:∀ S,idxD S (zD w t d) (.int 2)=some (.int d):=fun S=>rfl
 rw[qzz (τ':=[some (sD ns),some (.int k),some (zD w t d),some (.tup [.int a1,.int a2]),none,none]) (s':=st) (by
  have s:(rn fns m (0+20)).ev [some (sD ns),some (.int k),some (zD w t d),none,none,none] st (.gc (.sli (.gc (.call 10 [(.var 0),(.var 1),(.lit (.int 1)),(.idx (.var 2) (.lit (.int 0))),(.idx (.var 2) (.lit (.int 1)))])) none (some (.lit (.int 2)))))=some (.tup [.int a1,.int a2],st):=
   qfn (n:=0+18) (xs:=[.int a1,.int a2,.int a3,.int a4]) (l:=none) (h:=some 2) (qzc (n:=0+15) (ds:=[sD ns,.int k,.int 1,.int w,.int t]) rfl (ea st) rfl) rfl rfl rfl
  simp only[stepEx,s,oBs]
  rfl)]
 rw[qzz (τ':=[some (sD ns),some (.int k),some (zD w t d),some (.tup [.int a1,.int a2]),some (.tup [.int b3,.int b4,.int c]),none]) (s':=st) (by
  have s:(rn fns m (0+19)).ev [some (sD ns),some (.int k),some (zD w t d),some (.tup [.int a1,.int a2]),none,none] st (.gc (.sli (.gc (.call 10 [(.var 0),(.var 1),(.lit (.int 5)),(.idx (.var 2) (.lit (.int 0))),(.idx (.var 2) (.lit (.int 1)))])) (some (.lit (.int 2))) none))=some (.tup [.int b3,.int b4],st):=
   qfn (n:=0+17) (xs:=[.int b1,.int b2,.int b3,.int b4]) (l:=some 2) (h:=none) (qzc (n:=0+14) (ds:=[sD ns,.int k,.int 5,.int w,.int t]) rfl (eb st) rfl) rfl rfl rfl
  have s2:(rn fns m (0+19)).ev [some (sD ns),some (.int k),some (zD w t d),some (.tup [.int a1,.int a2]),none,none] st (.tup [(.gc (.call 7 [(.var 0),(.var 1),(.lit (.int 9)),(.bin .Add (.idx (.var 2) (.lit (.int 2))) (.lit (.int 1)))]))])=some (.tup [.int c],st):=by
   have:(rn fns m (0+18)).ev [some (sD ns),some (.int k),some (zD w t d),some (.tup [.int a1,.int a2]),none,none] st (.gc (.call 7 [(.var 0),(.var 1),(.lit (.int 9)),(.bin .Add (.idx (.var 2) (.lit (.int 2))) (.lit (.int 1)))]))=some (.int c,st):=qzc (n:=0+15) (ds:=[sD ns,.int k,.int 9,.int (d+1)]) rfl (ec st) rfl
   rw[ev_k]
   simp only[stepEv,evs,this,oBs]
   rfl
  simp only[stepEx]
  rw[ev_k]
  simp only[stepEv,s,s2,oBs]
  rfl)]
 generalize hT:([some (sD ns),some (.int k),some (zD w t d),some (.tup [.int a1,.int a2]),some (.tup [.int b3,.int b4,.int c]),none]:Sl)=T
 have z0:T[0]?=some (some (sD ns)):=by rw[← hT]; rfl
 have z1:T[1]?=some (some (.int k)):=by rw[← hT]; rfl
 have gg:(rn fns m (0+19)).ev T st (.gc (.call 7 [(.var 0),(.var 1),(.lit (.int 10)),(.idx (.gc (.lst [(.lit (.int 9)),(.lit (.int 300)),(.bin .Pow (.lit (.int 10)) (.lit (.int 6)))])) (.gc (.call 7 [(.var 0),(.var 1),(.lit (.int 11)),(.lit (.int 3))])))]))=some (.int v,st):=by
  refine qzc (n:=0+16) (ds:=[sD ns,.int k,.int 10,.int q]) ?_ (ev st) rfl
  have p:=pq 8 T st z0 z1
  have y0:∀ n:Nat,(rn fns m (n+1)).ev T st (.var 0)=some (sD ns,st):=fun n=>by rw[ev_k]; simp only[stepEv,z0]
  have y1:∀ n:Nat,(rn fns m (n+1)).ev T st (.var 1)=some (.int k,st):=fun n=>by rw[ev_k]; simp only[stepEv,z1]
  have y2:∀ n:Nat,(rn fns m (n+1)).ev T st (.lit (.int 10))=some (.int 10,st):=fun n=>rfl
  simp only[evs,y0,y1,y2,p,oBs]
 rw[qzz (τ':=[some (sD ns),some (.int k),some (zD w t d),some (.tup [.int a1,.int a2]),some (.tup [.int b3,.int b4,.int c]),some (.int (1+v))]) (s':=st) (by
  have g1:(rn fns m (0+19)).ev T st (.lit (.int 1))=some (.int 1,st):=rfl
  simp only[stepEx]
  rw[ev_k]
  simp only[stepEv,gg,g1,oBs,pA]
  rw[← hT]
  rfl)]
 generalize hU:([some (sD ns),some (.int k),some (zD w t d),some (.tup [.int a1,.int a2]),some (.tup [.int b3,.int b4,.int c]),some (.int (1+v))]:Sl)=U
 have h16:(rn fns m (0+17)).ev U st (.tup [(.lit (.str "dig")),(.gc (.call 13 [(.var 0),(.var 1),(.lit (.int 12))]))])=some (.tup [tD [100,105,103],.int g],st):=by
  have l0:(rn fns m (0+16)).ev U st (.lit (.str "dig"))=some (tD [100,105,103],st):=by rw[xDig]; rfl
  have l1:(rn fns m (0+16)).ev U st (.gc (.call 13 [(.var 0),(.var 1),(.lit (.int 12))]))=some (.int g,st):=qzc (n:=0+13) (ds:=[sD ns,.int k,.int 12]) (by rw[← hU]; rfl) (eg st) rfl
  rw[ev_k]
  simp only[stepEv,evs,l0,l1,oBs]
  rfl
 have v3:∀ n:Nat,(rn fns m (n+1)).ev U st (.var 3)=some (.tup [.int a1,.int a2],st):=fun n=>by rw[← hU]; rfl
 have v4:∀ n:Nat,(rn fns m (n+1)).ev U st (.var 4)=some (.tup [.int b3,.int b4,.int c],st):=fun n=>by rw[← hU]; rfl
 have v5:∀ n:Nat,(rn fns m (n+2)).ev U st (.tup [(.var 5)])=some (.tup [.int (1+v)],st):=fun n=>by rw[← hU]; rfl
 have j1:(rn fns m (0+18)).ev U st (.bin .Add (.tup [(.lit (.str "dig")),(.gc (.call 13 [(.var 0),(.var 1),(.lit (.int 12))]))]) (.var 3))=some (.tup [tD [100,105,103],.int g,.int a1,.int a2],st):=by
  rw[ev_k]
  simp only[stepEv,h16,v3,oBs]
  rfl
 have j2:(rn fns m (0+19)).ev U st (.bin .Add (.bin .Add (.tup [(.lit (.str "dig")),(.gc (.call 13 [(.var 0),(.var 1),(.lit (.int 12))]))]) (.var 3)) (.var 4))=some (.tup [tD [100,105,103],.int g,.int a1,.int a2,.int b3,.int b4,.int c],st):=by
  rw[ev_k]
  simp only[stepEv,j1,v4,oBs]
  rfl
 refine qzj ?_
 simp only[stepEx]
 rw[ev_k]
 simp only[stepEv,j2,v5,oBs]
 rfl
end
noncomputable def oT(ns:List Int)(k j w t e c x y:Int)(l:Nat)(a b:Option D):Sl:=[some (sD ns),some (.int k),some (.int j),some (zD w t e),some (.int c),some (.int x),some (.int y),some (.loc l),a,b]
def okC(cs:List (Nat×Nat)):Prop:=∀ c∈cs,nS7 c.1∧nS7 c.2
noncomputable def ql3:List S:=[.set (.var 9) (.bin .Mod (.bin .Add (.var 5) (.bin .Mult (.var 8) (.var 6))) (.var 4)),.ite (.cmp .NotIn (.tup [(.bin .Mod (.var 9) (.idx (.var 3) (.lit (.int 0)))),(.bin .FloorDiv (.var 9) (.idx (.var 3) (.lit (.int 0))))]) (.var 7)) [.expr (.meth (.var 7) .append [(.tup [(.bin .Mod (.var 9) (.idx (.var 3) (.lit (.int 0)))),(.bin .FloorDiv (.var 9) (.idx (.var 3) (.lit (.int 0))))])])] []]
theorem qbs{c:CF}{n i:Nat}{τ:Sl}{st:Store}{ds:List D}{d:D}{e:E}(hv:τ[i]?=some (some (.loc st.length)))(he:(runK c n).ev τ (st++[.lst true ds]) e=some (d,st++[.lst true ds]))(hl:ds.length<1000)(h0:n≠0):
  (runK c (n+1)).ev τ (st++[.lst true ds]) (.meth (.var i) .append [e])=some (.non,st++[.lst true (ds++[d])]):=by
 obtain⟨n,rfl⟩:∃ q,n=q+1:=⟨n - 1,by omega⟩
 have my:mty (st++[.lst true ds]) .append (.loc st.length)=true:=by
  show(true&&(seqAt (st++[.lst true ds]) (.loc st.length)).isSome)=true
  rw[qwl]
  rfl
 have v:(runK c (n+1)).ev τ (st++[.lst true ds]) (.var i)=some (.loc st.length,st++[.lst true ds]):=by rw[ev_k]; simp only[stepEv,hv]
 have wB:wlistAt (st++[.lst true ds]) st.length=some ds:=qi4 _ _ _
 have sB:∀ c,(st++[Cell.lst true ds]).set st.length c=st++[c]:=fun c=>qlb _ _ _ _
 have hl':ds.length<lim:=by unfold lim; omega
 rw[ev_k]
 simp only[stepEv,v,oBs,my,if_true,evs,he,mfun,mAppend,wB,sB,hl']
theorem qj0{c:CF}{n:Nat}{τ:Sl}{S:Store}{op:PySem.Operator}{A B:E}{a b r:D}(ha:(runK c n).ev τ S A=some (a,S))(hb:(runK c n).ev τ S B=some (b,S))(hr:binop S op a b=some (r,S)):(runK c (n+1)).ev τ S (.bin op A B)=some (r,S):=by
 rw[ev_k]
 simp only[stepEv,ha,hb,oBs,hr]
theorem qww{c:CF}{n:Nat}{τ:Sl}{S:Store}{i:Nat}{d:D}(h:τ[i]?=some (some d)):(runK c (n+1)).ev τ S (.var i)=some (d,S):=by
 rw[ev_k]
 simp only[stepEv,h]
theorem qqz{c:CF}{n:Nat}{τ τ':Sl}{S:Store}{i:Nat}{e:E}{d:D}(he:(runK c n).ev τ S e=some (d,S))(ht:setT (.var i) d τ=some τ'):stepEx (runK c n) τ S (.set (.var i) e)=some (.nx τ',S):=by
 simp only[stepEx,he,oBs,ht,oMs]
theorem qes(m:Nat)(st:Store)(ns:List Int)(k j w t e c x y:Int)(hw0:1≤w)(hw1:w≤24)(c0:1≤c)(c1:c≤576)(i:Nat)(hi:i<20)(cs:List (Nat×Nat))(a b:Option D)(hcs:okC cs)(hlen:cs.length≤i):
  ∃ (cs':List (Nat×Nat)) (b':Option D),okC cs'∧cs'.length≤i+1∧cs'≠[]∧(rn fns m (0+30)).ex (oT ns k j w t e c x y st.length (some (.int (0+(i:Int)))) b) (st++[.lst true (cs.map cD)]) ql3=some (.nx (oT ns k j w t e c x y st.length (some (.int (0+(i:Int)))) b'),st++[.lst true (cs'.map cD)]):=by
 obtain⟨pl,hpl⟩:∃ pl,pl=(x+(0+(i:Int))*y) % c:=⟨_,rfl⟩
 have pl0:0≤pl:=by rw[hpl]; exact Int.emod_nonneg _ (by omega)
 have pl1:pl<c:=by rw[hpl]; exact Int.emod_lt_of_pos _ (by omega)
 have h1:=Int.emod_nonneg pl (show w≠0 by omega)
 have h2:=Int.emod_lt_of_pos pl (show 0<w by omega)
 have h3:0≤pl / w:=Int.ediv_nonneg pl0 (by omega)
 have h4:pl / w≤pl:=Int.ediv_le_self _ pl0
 obtain⟨p,hp,p0⟩:∃ p:Nat×Nat,cD p=.tup [.int (pl % w),.int (pl / w)]∧nS7 p.1∧nS7 p.2:=⟨((pl % w).toNat,(pl / w).toNat),by
  show D.tup [.int (((pl % w).toNat:Nat):Int),.int (((pl / w).toNat:Nat):Int)]=_
  rw[Int.toNat_of_nonneg h1,Int.toNat_of_nonneg h3],by unfold nS7; show(pl % w).toNat<_; omega,by unfold nS7; show(pl / w).toNat<_; omega⟩
 generalize hB:st++[.lst true (cs.map cD)]=B
 have q1:binop B .Mult (.int (0+(i:Int))) (.int y)=some (.int ((0+(i:Int))*y),B):=by
  simp only[binop]
  rw[if_pos (qfx (by omega) (by omega))]
 unfold ql3
 rw[ex_k]
 rw[qzz (τ':=oT ns k j w t e c x y st.length (some (.int (0+(i:Int)))) (some (.int pl))) (s':=B) (qqz (qj0 (n:=28) (qj0 (n:=27) (qww (n:=26) rfl) (qj0 (n:=26) (qww (n:=25) rfl) (qww (n:=25) rfl) q1) (pA _ _ _)) (qww (n:=27) rfl) ((pMod B (show 0<c by omega)).trans (by rw[hpl]))) rfl)]
 have i0:∀ S,idxD S (zD w t e) (.int 0)=some (.int w):=fun S=>rfl
 have tp:∀ n:Nat,(rn fns m (n+8)).ev (oT ns k j w t e c x y st.length (some (.int (0+(i:Int)))) (some (.int pl))) B (.tup [(.bin .Mod (.var 9) (.idx (.var 3) (.lit (.int 0)))),(.bin .FloorDiv (.var 9) (.idx (.var 3) (.lit (.int 0))))])=some (cD p,B):=fun n=>by
  simp only[ev_k,stepEv,evs,oT,Qqx,Qqz,oBs,i0,oMs,pMod B (show 0<w by omega),pDiv B (show 0<w by omega) (show w<2 ^ 64 by omega)]
  rw[hp]
  rfl
 have hs:seqAt B (.loc st.length)=some (cs.map cD):=by rw[← hB]; exact qwl _ _ _
 have hin:inD B (cD p) (.loc st.length)=some ((cs.map cD).any fun z=>eqT z (cD p)):=by
  simp only[inD,hs,oBs]
  rw[qvb cD 9 (fun _=>rfl),show flat 9 (cD p)=true from rfl]
  rfl
 have v7:∀ n:Nat,(rn fns m (n+1)).ev (oT ns k j w t e c x y st.length (some (.int (0+(i:Int)))) (some (.int pl))) B (.var 7)=some (.loc st.length,B):=fun n=>rfl
 have tt:∀ n:Nat,(rn fns m (n+10)).tst (oT ns k j w t e c x y st.length (some (.int (0+(i:Int)))) (some (.int pl))) B (.cmp .NotIn (.tup [(.bin .Mod (.var 9) (.idx (.var 3) (.lit (.int 0)))),(.bin .FloorDiv (.var 9) (.idx (.var 3) (.lit (.int 0))))]) (.var 7))=some (!((cs.map cD).any fun z=>eqT z (cD p)),B):=fun n=>by
  rw[qzl]
  simp only[stepTst,tp,v7,oBs,cmpD,hin,oMs]
 cases hb:((cs.map cD).any fun z=>eqT z (cD p)) with
 |true=>
  refine⟨cs,some (.int pl),hcs,by omega,fun hc=>?_,?_⟩
  ·rw[hc]at hb
   simp at hb
  ·rw[qzz (τ':=oT ns k j w t e c x y st.length (some (.int (0+(i:Int)))) (some (.int pl))) (s':=B) (by refine(qzx (st':=B) ?_).trans rfl; rw[tt,hb]; rfl)]
   rw[hB]
   rfl
 |false=>
  refine⟨cs++[p],some (.int pl),fun q hq=>?_,by rw[Qqu,Qzi]; omega,by simp,?_⟩
  ·rcases Qz7.mp hq with h|h
   ·exact hcs q h
   ·rw[Qzk.mp h]; exact p0
  ·have ap:(rn fns m (0+28)).ev (oT ns k j w t e c x y st.length (some (.int (0+(i:Int)))) (some (.int pl))) B (.meth (.var 7) .append [(.tup [(.bin .Mod (.var 9) (.idx (.var 3) (.lit (.int 0)))),(.bin .FloorDiv (.var 9) (.idx (.var 3) (.lit (.int 0))))])])=some (.non,st++[.lst true ((cs++[p]).map cD)]):=by
    have t2:=tp (0+19)
    rw[← hB]at t2 ⊢
    rw[Qzu]
    exact qbs (n:=0+27) rfl t2 (by rw[Qqj]; omega) (by omega)
   rw[qzz (τ':=oT ns k j w t e c x y st.length (some (.int (0+(i:Int)))) (some (.int pl))) (s':=st++[.lst true ((cs++[p]).map cD)]) (by
    refine(qzk (st':=B) (by rw[tt,hb]; rfl)).trans ?_
    rw[ex_k,qzz (τ':=oT ns k j w t e c x y st.length (some (.int (0+(i:Int)))) (some (.int pl))) (s':=st++[.lst true ((cs++[p]).map cD)]) (by simp only[stepEx,ap,oMs])]
    rfl)]
   rfl
section
variable {ns:List Int}(hn:ns.length≤63){m:Nat}
include hn
theorem ql2(hm:2≤m)(k j w t e:Int)(hj:0≤j)(hj2:j<900)(hw0:1≤w)(hw1:w≤24)(ht0:1≤t)(ht1:t≤24)(st:Store):
  ∃ (cs:List (Nat×Nat)) (r:Store),okC cs∧cs.length≤20∧cs≠[]∧callD fns m 12 [sD ns,.int k,.int j,zD w t e] st=some (.tup (cs.map cD),st++r):=by
 obtain⟨m,rfl⟩:∃ q,m=q+1:=⟨m - 1,by omega⟩
 have i0:∀ S,idxD S (zD w t e) (.int 0)=some (.int w):=fun S=>rfl
 have i1:∀ S,idxD S (zD w t e) (.int 1)=some (.int t):=fun S=>rfl
 obtain⟨c,hc⟩:∃ c,c=w*t:=⟨_,rfl⟩
 have c0:1≤c:=by
  have:1*1≤w*t:=Int.mul_le_mul hw0 ht0 (by omega) (by omega)
  omega
 have c1:c≤576:=by
  have:w*t≤24*24:=Int.mul_le_mul hw1 ht1 (by omega) (by omega)
  omega
 have pM:∀ S,binop S .Mult (.int w) (.int t)=some (.int c,S):=fun S=>by
  have mo:=qfx (a:=w) (b:=t) (by omega) (by omega)
  simp only[binop]
  rw[if_pos mo,hc]
 obtain⟨x,x0,x1,ex⟩:=dex hn (N:=m) (by omega) k j c (by omega) (by omega) (by omega)
 obtain⟨y,y0,y1,ey⟩:=dex hn (N:=m) (by omega) k (j+1) c (by omega) (by omega) (by omega)
 obtain⟨z,z0,z1,ez⟩:=dex hn (N:=m) (by omega) k (j+2) 4 (by omega) (by omega) (by omega)
 have hm1:=getD_mem ([16,4,4,4]:List Int) 0 z z0 z1
 have pq:=fun(n:Nat) (a b:Option D) (S:Store)=>pk (c:=callD fns m) (n:=n+6) (τ:=oT ns k j w t e c x (1+y) st.length a b) (st:=S) (es:=[(.lit (.int 16)),(.lit (.int 4)),(.lit (.int 4)),(.lit (.int 4))]) (e:=.gc (.call 7 [(.var 0),(.var 1),(.bin .Add (.var 2) (.lit (.int 2))),(.lit (.int 4))])) [16,4,4,4] (i:=z) rfl (qzc (n:=n+5) (ds:=[sD ns,.int k,.int (j+2),.int 4]) rfl (ez S) rfl) z0 z1 (by simp)
 generalize ([16,4,4,4]:List Int).getD z.toNat 0=q at hm1 pq
 simp only[Qqw,Qqo,or_false]at hm1
 obtain⟨v,v0,v1,ev⟩:=dex hn (N:=m) (by omega) k (j+3) q (by omega) (by omega) (by omega)
 have hb:big (1+v)=false:=by
  unfold big
  simp
  omega
 have hs:src (rn fns m (0+30)) (oT ns k j w t e c x (1+y) st.length none none) (st++[.lst true []]) (.rng1 (.bin .Add (.lit (.int 1)) (.gc (.call 7 [(.var 0),(.var 1),(.bin .Add (.var 2) (.lit (.int 3))),(.idx (.gc (.lst [(.lit (.int 16)),(.lit (.int 4)),(.lit (.int 4)),(.lit (.int 4))])) (.gc (.call 7 [(.var 0),(.var 1),(.bin .Add (.var 2) (.lit (.int 2))),(.lit (.int 4))])))]))))=some (.rng 0 (1+v).toNat,st++[.lst true []]):=by
  have g:(rn fns m (0+29)).ev (oT ns k j w t e c x (1+y) st.length none none) (st++[.lst true []]) (.gc (.call 7 [(.var 0),(.var 1),(.bin .Add (.var 2) (.lit (.int 3))),(.idx (.gc (.lst [(.lit (.int 16)),(.lit (.int 4)),(.lit (.int 4)),(.lit (.int 4))])) (.gc (.call 7 [(.var 0),(.var 1),(.bin .Add (.var 2) (.lit (.int 2))),(.lit (.int 4))])))]))=some (.int v,st++[.lst true []]):=by
   refine qzc (n:=0+26) (ds:=[sD ns,.int k,.int (j+3),.int q]) ?_ (ev _) rfl
   have p:=pq 18 none none (st++[.lst true []])
   have w0:∀ n:Nat,(rn fns m (n+1)).ev (oT ns k j w t e c x (1+y) st.length none none) (st++[.lst true []]) (.var 0)=some (sD ns,st++[.lst true []]):=fun n=>rfl
   have w1:∀ n:Nat,(rn fns m (n+1)).ev (oT ns k j w t e c x (1+y) st.length none none) (st++[.lst true []]) (.var 1)=some (.int k,st++[.lst true []]):=fun n=>rfl
   have w2:∀ n:Nat,(rn fns m (n+2)).ev (oT ns k j w t e c x (1+y) st.length none none) (st++[.lst true []]) (.bin .Add (.var 2) (.lit (.int 3)))=some (.int (j+3),st++[.lst true []]):=fun n=>rfl
   simp only[evs,w0,w1,w2,p,oBs]
  have g1:(rn fns m (0+29)).ev (oT ns k j w t e c x (1+y) st.length none none) (st++[.lst true []]) (.lit (.int 1))=some (.int 1,st++[.lst true []]):=rfl
  simp only[src]
  rw[ev_k]
  simp only[stepEv,g,g1,oBs,pA,hb,Qq0,if_false]
 obtain⟨τ',S',el,cs,a,b,h1,h2,hcs,hlen,hne⟩:=qca (lo:=0) (n:=(1+v).toNat) (τ:=oT ns k j w t e c x (1+y) st.length none none) (st:=st++[.lst true []])
  (f:=fun τ st d=>(setT (.var 8) d τ).bind fun τ'=>(rn fns m (0+30)).ex τ' st ql3)
  (fun i τ S=>∃ (cs:List (Nat×Nat)) (a b:Option D),τ=oT ns k j w t e c x (1+y) st.length a b∧S=st++[.lst true (cs.map cD)]∧okC cs∧cs.length≤i∧(0<i→cs≠[])) ⟨[],none,none,rfl,rfl,(fun o ho=>by cases ho),by simp,fun h=>absurd h (by omega)⟩ (by
   rintro i τ S hi ⟨cs,a,b,rfl,rfl,hok,hlen,_⟩
   obtain⟨cs',b',o1,o2,o3,o4⟩:=qes m st ns k j w t e c x (1+y) hw0 hw1 c0 c1 i (by omega) cs a b hok hlen
   have s8:setT (.var 8) (.int (0+(i:Int))) (oT ns k j w t e c x (1+y) st.length a b)=some (oT ns k j w t e c x (1+y) st.length (some (.int (0+(i:Int)))) b):=rfl
   refine⟨oT ns k j w t e c x (1+y) st.length (some (.int (0+(i:Int)))) b',st++[.lst true (cs'.map cD)],?_,cs',_,b',rfl,rfl,o1,o2,fun _=>o3⟩
   rw[s8,oBs]
   exact o4)
 subst h1 h2
 refine⟨cs,[.lst true (cs.map cD)],hcs,by omega,hne (by omega),?_⟩
 refine call_of (0+30) (F:=qkw) rfl rfl rfl ?_
 show exs (stepEx (rn fns m (0+30))) qx1 [some (sD ns),some (.int k),some (.int j),some (zD w t e),none,none,none,none,none,none] st=_
 unfold qx1
 rw[qzz (τ':=[some (sD ns),some (.int k),some (.int j),some (zD w t e),some (.int c),none,none,none,none,none]) (s':=st) (qqz (qj0 (n:=29) (a:=.int w) (b:=.int t) rfl rfl (pM st)) rfl)]
 rw[qzz (τ':=[some (sD ns),some (.int k),some (.int j),some (zD w t e),some (.int c),some (.int x),none,none,none,none]) (s':=st) (by
  simp only[stepEx,ev_k,stepEv,evs,Qqx,Qqz,oBs,call_k,ex,oMs,qqf]
  rfl)]
 rw[qzz (τ':=[some (sD ns),some (.int k),some (.int j),some (zD w t e),some (.int c),some (.int x),some (.int (1+y)),none,none,none]) (s':=st) (by
  simp only[stepEx,ev_k,stepEv,evs,Qqx,Qqz,oBs,call_k,pA,ey,oMs,qqf]
  rfl)]
 rw[qzz (τ':=oT ns k j w t e c x (1+y) st.length none none) (s':=st++[.lst true []]) rfl]
 rw[qzz (τ':=oT ns k j w t e c x (1+y) st.length a b) (s':=st++[.lst true (cs.map cD)]) (by
  simp only[stepEx]
  rw[hs]
  simp only[oBs,Src.size]
  exact el)]
 refine qzj ?_
 have v7:∀ n:Nat,(rn fns m (n+1)).ev (oT ns k j w t e c x (1+y) st.length a b) (st++[.lst true (cs.map cD)]) (.var 7)=some (.loc st.length,st++[.lst true (cs.map cD)]):=fun n=>rfl
 simp only[stepEx]
 rw[ev_k]
 simp only[stepEv,evs,v7,oBs,bfun,bTuple,qwl,oMs]
theorem qi5(hm:3≤m)(k w t d:Int)(w0:1≤w)(w1:w≤24)(t0:1≤t)(t1:t≤24)(d0:0≤d)(d1:d≤12)(st:Store):∃ f:Fact,f.ok∧callD fns m 15 [sD ns,.int k,zD w t d] st=some (fD f,st):=by
 obtain⟨m,rfl⟩:∃ q,m=q+1:=⟨m - 1,by omega⟩
 obtain⟨ss,s1,s2,es⟩:=qgm hn (m:=m) (by omega) k 8 d (by omega) (by omega) d0 d1
 obtain⟨cs,r,c1,c2,c3,ec⟩:=ql2 hn (m:=m) (by omega) k 1 w t d (by omega) (by omega) w0 w1 t0 t1 st
 refine⟨.vein ss cs,⟨s1,s2,c1,c2,c3⟩,?_⟩
 refine call_of (0+20) (F:=qkq) rfl rfl rfl ?_
 show exs (stepEx (rn fns m (0+20))) qxs [some (sD ns),some (.int k),some (zD w t d)] st=_
 unfold qxs
 have l0:(rn fns m (0+19)).ev [some (sD ns),some (.int k),some (zD w t d)] st (.lit (.str "vein"))=some (tD wVein,st):=by rw[qwd]; rfl
 have l1:(rn fns m (0+19)).ev [some (sD ns),some (.int k),some (zD w t d)] st (.gc (.call 11 [(.var 0),(.var 1),(.lit (.int 8)),(.idx (.var 2) (.lit (.int 2)))]))=some (.tup (ss.map iD),st):=qzc (n:=0+16) (ds:=[sD ns,.int k,.int 8,.int d]) rfl (es st) (by rw[qzg]; exact qbk _)
 have l2:(rn fns m (0+19)).ev [some (sD ns),some (.int k),some (zD w t d)] st (.gc (.call 12 [(.var 0),(.var 1),(.lit (.int 1)),(.var 2)]))=some (.tup (cs.map cD),st):=by
  show((callD fns m 12 [sD ns,.int k,.int 1,zD w t d] st).map (gcD st))=_
  rw[ec,oMs,qch (by rw[qzg]; exact cD_nl _)]
 refine qzj ?_
 simp only[stepEx]
 rw[ev_k]
 simp only[stepEv,evs,l0,l1,l2,oBs]
 rfl
end
theorem xWork:PySem.Str.ofString "work" = mk [119,111,114,107]:=by decide +kernel
theorem xSell:PySem.Str.ofString "sell" = mk [115,101,108,108]:=by decide +kernel
theorem qi1:PySem.Str.ofString "part" = mk [112,97,114,116]:=by decide +kernel
theorem xGive:PySem.Str.ofString "give" = mk [103,105,118,101]:=by decide +kernel
theorem xJoin:PySem.Str.ofString "join" = mk [106,111,105,110]:=by decide +kernel
theorem qbu:PySem.Str.ofString "stake" = mk [115,116,97,107,101]:=by decide +kernel
noncomputable def qD(q:List Nat×List Int):D:=.tup (tD q.1::q.2.map D.int)
noncomputable def plD(v:Int):D:=.lst [.tup [.int 7,.tup [tD wVein]],.tup [.int v,.tup [tD [115,116,97,107,101]]]]
section
variable {ns:List Int}(hn:ns.length≤63){m:Nat}
include hn
theorem qh3(hm:3≤m)(k way w t d:Int)(y0:0≤way)(y1:way<8)(w0:1≤w)(w1:w≤24)(t0:1≤t)(t1:t≤24)(xs:List Int)(hx:∀ x∈xs,1≤x∧x≤400)(hl:xs.length≤100):∃ f:Fact,f.ok∧∀ st,callD fns m 16 [sD ns,.int k,.int way,zD w t d,.lst (xs.map D.int)] st=some (fD f,st):=by
 obtain⟨m,rfl⟩:∃ q,m=q+1:=⟨m - 1,by omega⟩
 obtain⟨p,p0,p1,ep⟩:=qbx hn (m:=m) (by omega) k 1 (by decide) (by decide) xs hx hl
 obtain⟨g,g0,g1,eg⟩:=qyq hn (m:=m) (by omega) k 3 (by decide) (by decide)
 obtain⟨s,s0,s1,es⟩:=dex hn (N:=m) (by omega) k 5 2 (by decide) (by decide) (by decide)
 obtain⟨z,z0,z1,ez⟩:∃ z,1≤z∧z≤24∧∀ S,idxD S (zD w t d) (.int s)=some (.int z):=by
  rcases (show s=0∨s=1 by omega) with rfl|rfl
  ·exact⟨w,w0,w1,fun S=>rfl⟩
  ·exact⟨t,t0,t1,fun S=>rfl⟩
 obtain⟨u,hu⟩:∃ u:Int,u=if z<23 then z else 23:=⟨_,rfl⟩
 have u0:0<u∧u≤24:=by rw[hu]; split<;>omega
 obtain⟨l,l0,l1,el⟩:=dex hn (N:=m) (by omega) k 6 u (by omega) (by omega) (by omega)
 obtain⟨N,hN⟩:∃ N:D,N=.lst (xs.map D.int):=⟨_,rfl⟩
 rw[← hN]at ep ⊢
 have main:∀ f:Fact,(∀ st,exs (stepEx (rn fns m (0+20))) [
 .ite (.cmp .Lt (.var 2) (.lit (.int 3))) [.ret (.tup [(.lit (.str "work")),(.var 5)])] [],
 .ret (.idx (.gc (.lst [(.tup [(.lit (.str "sell")),(.var 5),(.var 6)]),(.tup [(.lit (.str "part")),(.var 5),(.var 7),(.var 8),(.var 6)]),(.tup [(.lit (.str "give")),(.var 5)])])) (.bin .Sub (.bin .FloorDiv (.var 2) (.lit (.int 2))) (.lit (.int 1))))] [some (sD ns),some (.int k),some (.int way),some (zD w t d),some N,some (.int p),some (.int g),some (.int s),some (.int (1+l))] st=some (.rt (fD f),st))→∀ st,callD fns (m+1) 16 [sD ns,.int k,.int way,zD w t d,N] st=some (fD f,st):=fun f h st=>by
  refine call_of (0+20) (F:=qz8) rfl rfl rfl ?_
  show exs (stepEx (rn fns m (0+20))) qzt [some (sD ns),some (.int k),some (.int way),some (zD w t d),some N,none,none,none,none] st=_
  unfold qzt
  rw[qzz (τ':=[some (sD ns),some (.int k),some (.int way),some (zD w t d),some N,some (.int p),none,none,none]) (s':=st) (qqz (qzc (n:=17) (ds:=[sD ns,.int k,.int 1,N]) rfl (ep st) rfl) rfl)]
  rw[qzz (τ':=[some (sD ns),some (.int k),some (.int way),some (zD w t d),some N,some (.int p),some (.int g),none,none]) (s':=st) (qqz (qzc (n:=17) (ds:=[sD ns,.int k,.int 3]) rfl (eg st) rfl) rfl)]
  rw[qzz (τ':=[some (sD ns),some (.int k),some (.int way),some (zD w t d),some N,some (.int p),some (.int g),some (.int s),none]) (s':=st) (qqz (qzc (n:=17) (ds:=[sD ns,.int k,.int 5,.int 2]) rfl (es st) rfl) rfl)]
  rw[qzz (τ':=[some (sD ns),some (.int k),some (.int way),some (zD w t d),some N,some (.int p),some (.int g),some (.int s),some (.int (1+l))]) (s':=st) (qqz (qj0 (n:=19) (a:=.int 1) (b:=.int l) rfl (qzc (n:=16) (ds:=[sD ns,.int k,.int 6,.int u]) (by
   simp only[evs,ev_k,stepEv,Qqx,Qqz,oBs,ez,oMs,bfun,bMin]
   rw[hu]) (el st) rfl) (pA _ _ _)) rfl)]
  exact h st
 generalize hT:([some (sD ns),some (.int k),some (.int way),some (zD w t d),some N,some (.int p),some (.int g),some (.int s),some (.int (1+l))]:Sl)=T at main
 have tt:∀ st (n:Nat),(rn fns m (n+4)).tst T st (.cmp .Lt (.var 2) (.lit (.int 3)))=some (decide (way<3),st):=fun st n=>by
  rw[← hT]
  simp only[qzl,stepTst,ev_k,stepEv,Qqx,Qqz,oBs,cmpD,oMs]
 by_cases h:way<3
 ·obtain⟨f,hf,ef⟩:=qqp (w:=[119,111,114,107]) (is:=[p]) (by simp[wordsN]) (fun i hi=>by
   simp only[Qqw,Qqo,or_false]at hi
   subst hi
   omega)
  refine⟨f,hf,main f fun st=>?_⟩
  rw[ef]
  refine qzj ((qzk (st':=st) (by rw[tt,decide_eq_true h])).trans ?_)
  rw[ex_k,xWork,← hT]
  exact qzj rfl
 ·let L:List (List Nat×List Int):=[([115,101,108,108],[p,g]),([112,97,114,116],[p,s,1+l,g]),([103,105,118,101],[p])]
  have b0:0≤way / 2 - 1:=by omega
  have b1:way / 2 - 1<(L.length:Nat):=by show way / 2 - 1<(3:Int); omega
  have hp:=getD_mem L ([],[]) (way / 2 - 1) b0 b1
  have hi:=qwq qD L ([],[]) (way / 2 - 1) b0 b1
  generalize L.getD (way / 2 - 1).toNat ([],[])=q at hp hi
  obtain⟨f,hf,ef⟩:=qqp (w:=q.1) (is:=q.2) (by
   simp only[L,Qqw,Qqo,or_false]at hp
   rcases hp with rfl|rfl|rfl<;>simp[wordsN]) (fun i hi=>by
   simp only[L,Qqw,Qqo,or_false]at hp
   rcases hp with rfl|rfl|rfl<;>simp only[Qqw,Qqo,or_false]at hi
   ·rcases hi with rfl|rfl<;>omega
   ·rcases hi with rfl|rfl|rfl|rfl<;>omega
   ·subst hi; omega)
  refine⟨f,hf,main f fun st=>?_⟩
  rw[ef]
  rw[qzz (τ':=T) (s':=st) (by refine(qzx (st':=st) ?_).trans rfl; rw[tt,decide_eq_false h])]
  have ll:(rn fns m (0+19)).ev T st (.gc (.lst [(.tup [(.lit (.str "sell")),(.var 5),(.var 6)]),(.tup [(.lit (.str "part")),(.var 5),(.var 7),(.var 8),(.var 6)]),(.tup [(.lit (.str "give")),(.var 5)])]))=some (.lst (L.map qD),st):=by
   rw[xSell,qi1,xGive,← hT]
   exact qxa (n:=0+17) rfl (by simp[L]) rfl
  generalize L.map qD=G at hi ll
  have ii:(rn fns m (0+19)).ev T st (.bin .Sub (.bin .FloorDiv (.var 2) (.lit (.int 2))) (.lit (.int 1)))=some (.int (way / 2 - 1),st):=
   qj0 (n:=0+18) (a:=.int (way / 2)) (b:=.int 1) (qj0 (n:=0+17) (a:=.int way) (b:=.int 2) (by rw[← hT]; rfl) rfl (pDiv st (by omega) (by omega))) rfl rfl
  refine qzj ?_
  simp only[stepEx]
  rw[ev_k]
  simp only[stepEv,ll,ii,oBs,hi,oMs]
  rfl
end
theorem plan_v{c:CF}{n:Nat}{T:Sl}{st:Store}{v:Int}(h:T[3]?=some (some (plD v))):(runK c (n+20)).ev T st (.gc (.comp (.tup [0,1]) (.var 3) (some (.cmp .Eq (.idx (.var 1) (.lit (.int 0))) (.lit (.str "vein")))) (.var 0) [none,none]))=some (.lst [.int 7],st):=by
 refine qva (n:=n+19) ?_ rfl
 rw[qwd,ev_k]
 have hs:src (runK c (n+18)) T st (.var 3)=some (.lst (plD v),st):=by
  simp only[src,ev_k,stepEv,h,oBs]
  rfl
 simp only[stepEv,hs,oBs]
 rfl
theorem plan_n{c:CF}{n:Nat}{T:Sl}{st:Store}{v:Int}(h:T[3]?=some (some (plD v))):(runK c (n+20)).ev T st (.gc (.comp (.tup [0,1]) (.var 3) (some (.cmp .In (.idx (.var 1) (.lit (.int 0))) (.tup [(.lit (.str "stake")),(.lit (.str "part"))]))) (.var 0) [none,none]))=some (.lst [.int v],st):=by
 refine qva (n:=n+19) ?_ rfl
 rw[qbu,qi1,ev_k]
 have hs:src (runK c (n+18)) T st (.var 3)=some (.lst (plD v),st):=by
  simp only[src,ev_k,stepEv,h,oBs]
  rfl
 simp only[stepEv,hs,oBs]
 rfl
theorem qxe{c:CF}{n:Nat}{τ:Sl}{st:Store}{e:E}{a b:List S}(h:(runK c (n+1)).tst τ st e=some (false,st)):exs (stepEx (runK c (n+1))) (.ite e a []::b) τ st=exs (stepEx (runK c (n+1))) b τ st:=
 qzz ((qzx (st':=st) h).trans rfl)
section
variable {ns:List Int}(hn:ns.length≤63){m:Nat}
include hn
theorem qmg(hm:4≤m)(k w t d v:Int)(w0:1≤w)(w1:w≤24)(t0:1≤t)(t1:t≤24)(d0:0≤d)(d1:d≤12)(v0:1≤v)(v1:v≤400)(st:Store):∃ f:Fact,f.ok∧callD fns m 17 [sD ns,.int k,zD w t d,plD v] st=some (fD f,st):=by
 obtain⟨m,rfl⟩:∃ q,m=q+1:=⟨m - 1,by omega⟩
 obtain⟨y,y0,y1,ey⟩:=dex hn (N:=m) (by omega) k 0 20 (by decide) (by decide) (by decide)
 suffices h:∃ f:Fact,f.ok∧exs (stepEx (rn fns m (0+30))) qx2 [some (sD ns),some (.int k),some (zD w t d),some (plD v),none,none,none,none] st=some (.rt (fD f),st) by
  obtain⟨f,hf,e⟩:=h
  exact⟨f,hf,call_of (0+30) (F:=qky) rfl rfl rfl e⟩
 unfold qx2
 rw[qzz (τ':=[some (sD ns),some (.int k),some (zD w t d),some (plD v),some (.int y),none,none,none]) (s':=st) (qqz (qzc (n:=27) (ds:=[sD ns,.int k,.int 0,.int 20]) rfl (ey st) rfl) rfl)]
 rw[qzz (τ':=[some (sD ns),some (.int k),some (zD w t d),some (plD v),some (.int y),some (.lst [.int 7]),none,none]) (s':=st) (qqz (plan_v (n:=10) rfl) rfl)]
 rw[qzz (τ':=[some (sD ns),some (.int k),some (zD w t d),some (plD v),some (.int y),some (.lst [.int 7]),some (.lst [.int v]),none]) (s':=st) (qqz (plan_n (n:=10) rfl) rfl)]
 generalize hT:([some (sD ns),some (.int k),some (zD w t d),some (plD v),some (.int y),some (.lst [.int 7]),some (.lst [.int v]),none]:Sl)=T
 have lt:∀ (x:Int) (n:Nat),(rn fns m (n+3)).tst T st (.cmp .Lt (.var 4) (.lit (.int x)))=some (decide (y<x),st):=fun x n=>by rw[← hT]; rfl
 have le5:∀ n:Nat,(rn fns m (n+5)).tst T st (.cmp .Eq (.bcall .len [(.var 5)]) (.lit (.int 0)))=some (false,st):=fun n=>by rw[← hT]; rfl
 have le6:∀ n:Nat,(rn fns m (n+5)).tst T st (.cmp .Eq (.bcall .len [(.var 6)]) (.lit (.int 0)))=some (false,st):=fun n=>by rw[← hT]; rfl
 have ga:∀ (x:Int) (n:Nat),(rn fns m (n+5)).tst T st (.cmp .Gt (.idx (.var 2) (.lit (.int 2))) (.lit (.int x)))=some (decide (d > x),st):=fun x n=>by rw[← hT]; rfl
 have or5:∀ (x z:Int) (n:Nat),(rn fns m (n+10)).tst T st (.or (.cmp .Lt (.var 4) (.lit (.int x))) (.and (.cmp .Lt (.var 4) (.lit (.int z))) (.cmp .Eq (.bcall .len [(.var 5)]) (.lit (.int 0)))))=some (decide (y<x),st):=fun x z n=>by
  rw[qzl]
  simp only[stepTst,lt,oBs]
  by_cases h:y<x
  ·simp only[h,decide_true,if_true]
  ·simp only[h,decide_false,Qq0,if_false]
   rw[qzl]
   simp only[stepTst,lt,le5,oBs]
   by_cases h2:y<z<;>simp[h2]
 have or6:∀ (x z:Int) (n:Nat),(rn fns m (n+10)).tst T st (.or (.cmp .Lt (.var 4) (.lit (.int x))) (.and (.cmp .Lt (.var 4) (.lit (.int z))) (.cmp .Eq (.bcall .len [(.var 6)]) (.lit (.int 0)))))=some (decide (y<x),st):=fun x z n=>by
  rw[qzl]
  simp only[stepTst,lt,oBs]
  by_cases h:y<x
  ·simp only[h,decide_true,if_true]
  ·simp only[h,decide_false,Qq0,if_false]
   rw[qzl]
   simp only[stepTst,lt,le6,oBs]
   by_cases h2:y<z<;>simp[h2]
 have an:∀ n:Nat,(rn fns m (n+10)).tst T st (.and (.cmp .Lt (.var 4) (.lit (.int 5))) (.cmp .Gt (.idx (.var 2) (.lit (.int 2))) (.lit (.int 0))))=some (decide (y<5∧d > 0),st):=fun n=>by
  rw[qzl]
  simp only[stepTst,lt,ga,oBs]
  by_cases h:y<5<;>simp[h]
 by_cases h1:y<3
 ·obtain⟨f,hf,e⟩:=qi5 hn (m:=m) (by omega) k w t d w0 w1 t0 t1 d0 d1 st
  refine⟨f,hf,qzj ((qzk (st':=st) (by rw[or5,decide_eq_true h1])).trans ?_)⟩
  rw[ex_k]
  refine qzj ?_
  have c:(rn fns m (0+29)).ev T st (.call 15 [(.var 0),(.var 1),(.var 2)])=some (fD f,st):=by rw[← hT]; exact e
  simp only[stepEx,c,oMs]
 rw[qxe (n:=29) (by rw[or5,decide_eq_false h1])]
 by_cases h2:y<5∧d > 0
 ·obtain⟨a,a0,a1,ea⟩:=dex hn (N:=m) (by omega) k 5 d (by omega) (by omega) (by omega)
  obtain⟨p,p0,p1,ep⟩:=qbx hn (m:=m) (by omega) k 1 (by decide) (by decide) [7] (by simp) (by simp)
  obtain⟨q,q0,q1,eq⟩:=qbx hn (m:=m) (by omega) k 3 (by decide) (by decide) [7] (by simp) (by simp)
  obtain⟨f,hf,ef⟩:=qqp (w:=[106,111,105,110]) (is:=[p,q,1+a]) (by simp[wordsN]) (fun i hi=>by
   simp only[Qqw,Qqo,or_false]at hi
   rcases hi with rfl|rfl|rfl<;>omega)
  refine⟨f,hf,qzj ((qzk (st':=st) (by rw[an,decide_eq_true h2])).trans ?_)⟩
  rw[ex_k,← hT]
  rw[qzz (τ':=[some (sD ns),some (.int k),some (zD w t d),some (plD v),some (.int y),some (.lst [.int 7]),some (.lst [.int v]),some (.int (1+a))]) (s':=st) (qqz (qj0 (n:=28) (a:=.int 1) (b:=.int a) rfl (qzc (n:=25) (ds:=[sD ns,.int k,.int 5,.int d]) rfl (ea st) rfl) (pA _ _ _)) rfl)]
  generalize hU:([some (sD ns),some (.int k),some (zD w t d),some (plD v),some (.int y),some (.lst [.int 7]),some (.lst [.int v]),some (.int (1+a))]:Sl)=U
  have l0:(rn fns m (0+28)).ev U st (.lit (.str "join"))=some (tD [106,111,105,110],st):=by rw[xJoin]; rfl
  have l1:(rn fns m (0+28)).ev U st (.gc (.call 14 [(.var 0),(.var 1),(.lit (.int 1)),(.var 5)]))=some (.int p,st):=qzc (n:=25) (ds:=[sD ns,.int k,.int 1,.lst ([7].map D.int)]) (by rw[← hU]; rfl) (ep st) rfl
  have l2:(rn fns m (0+28)).ev U st (.gc (.call 14 [(.var 0),(.var 1),(.lit (.int 3)),(.var 5)]))=some (.int q,st):=qzc (n:=25) (ds:=[sD ns,.int k,.int 3,.lst ([7].map D.int)]) (by rw[← hU]; rfl) (eq st) rfl
  have l3:(rn fns m (0+28)).ev U st (.var 7)=some (.int (1+a),st):=by rw[← hU]; rfl
  refine qzj ?_
  simp only[stepEx]
  rw[ev_k]
  simp only[stepEv,evs,l0,l1,l2,l3,oBs]
  rw[ef]
  rfl
 rw[qxe (n:=29) (by rw[an,decide_eq_false h2])]
 by_cases h3:y<12
 ·obtain⟨g,g0,g1,eg⟩:=qyq hn (m:=m) (by omega) k 1 (by decide) (by decide)
  obtain⟨a1,a2,a3,a4,_,_,_,_,_,_,_,_,ea⟩:=qbq hn (m:=m) (by omega) k 3 w t (by decide) (by decide) (by omega) (by omega)
  obtain⟨f,hf,ef⟩:=qqp (w:=[115,116,97,107,101]) (is:=[g,a1,a2,a3,a4]) (by simp[wordsN]) (fun i hi=>by
   simp only[Qqw,Qqo,or_false]at hi
   rcases hi with rfl|rfl|rfl|rfl|rfl<;>omega)
  refine⟨f,hf,qzj ((qzk (st':=st) (by rw[or6,decide_eq_true h3])).trans ?_)⟩
  rw[ex_k]
  have l0:(rn fns m (0+27)).ev T st (.lit (.str "stake"))=some (tD [115,116,97,107,101],st):=by rw[qbu]; rfl
  have l1:(rn fns m (0+27)).ev T st (.gc (.call 13 [(.var 0),(.var 1),(.lit (.int 1))]))=some (.int g,st):=qzc (n:=24) (ds:=[sD ns,.int k,.int 1]) (by rw[← hT]; rfl) (eg st) rfl
  have l2:(rn fns m (0+28)).ev T st (.tup [(.lit (.str "stake")),(.gc (.call 13 [(.var 0),(.var 1),(.lit (.int 1))]))])=some (.tup [tD [115,116,97,107,101],.int g],st):=by
   rw[ev_k]
   simp only[stepEv,evs,l0,l1,oBs]
   rfl
  have l3:(rn fns m (0+28)).ev T st (.gc (.call 10 [(.var 0),(.var 1),(.lit (.int 3)),(.idx (.var 2) (.lit (.int 0))),(.idx (.var 2) (.lit (.int 1)))]))=some (.tup [.int a1,.int a2,.int a3,.int a4],st):=qzc (n:=25) (ds:=[sD ns,.int k,.int 3,.int w,.int t]) (by rw[← hT]; rfl) (ea st) rfl
  refine qzj ?_
  simp only[stepEx]
  rw[ev_k]
  simp only[stepEv,l2,l3,oBs]
  rw[ef]
  rfl
 rw[qxe (n:=29) (by rw[or6,decide_eq_false h3])]
 obtain⟨f,hf,e⟩:=qh3 hn (m:=m) (by omega) k (y - 12) w t d (by omega) (by omega) w0 w1 t0 t1 [v] (by simp; omega) (by simp)
 refine⟨f,hf,qzj ?_⟩
 have c:(rn fns m (0+30)).ev T st (.call 16 [(.var 0),(.var 1),(.bin .Sub (.var 4) (.lit (.int 12))),(.var 2),(.var 6)])=some (fD f,st):=by rw[← hT]; exact e st
 simp only[stepEx,c,oMs]
theorem qlv(hm:5≤m)(k w t d:Int)(w0:1≤w)(w1:w≤24)(t0:1≤t)(t1:t≤24)(d0:0≤d)(d1:d≤12)(st:Store):∃ f:Fact,f.ok∧callD fns m 21 [sD ns,.int k,zD w t d] st=some (fD f,st):=by
 obtain⟨m,rfl⟩:∃ q,m=q+1:=⟨m - 1,by omega⟩
 obtain⟨y,y0,y1,ey⟩:=dex hn (N:=m) (by omega) k 24 5 (by decide) (by decide) (by decide)
 suffices h:∃ f:Fact,f.ok∧exs (stepEx (rn fns m (0+20))) qz3 [some (sD ns),some (.int k),some (zD w t d),none] st=some (.rt (fD f),st) by
  obtain⟨f,hf,e⟩:=h
  exact⟨f,hf,call_of (0+20) (F:=qqy) rfl rfl rfl e⟩
 unfold qz3
 rw[qzz (τ':=[some (sD ns),some (.int k),some (zD w t d),some (.int y)]) (s':=st) (qqz (qzc (n:=17) (ds:=[sD ns,.int k,.int 24,.int 5]) rfl (ey st) rfl) rfl)]
 generalize hT:([some (sD ns),some (.int k),some (zD w t d),some (.int y)]:Sl)=T
 have tt:∀ (x:Int) (n:Nat),(rn fns m (n+4)).tst T st (.cmp .Eq (.var 3) (.lit (.int x)))=some (y==x,st):=fun x n=>by
  rw[← hT]
  simp only[qzl,stepTst,ev_k,stepEv,Qqx,Qqz,oBs,cmpD,qqs,oMs]
 by_cases h0:y=0
 ·obtain⟨f,hf,e⟩:=dig_ok hn (m:=m) (by omega) k w t d w0 w1 t0 t1 d0 d1
  refine⟨f,hf,qzj ((qzk (st':=st) (by rw[tt,h0,beq_self_eq_true])).trans ?_)⟩
  rw[ex_k]
  have c:(rn fns m (0+19)).ev T st (.call 18 [(.var 0),(.var 1),(.var 2)])=some (fD f,st):=by rw[← hT]; exact e st
  refine qzj ?_
  simp only[stepEx,c,oMs]
 rw[qxe (n:=19) (by rw[tt,beq_eq_false_iff_ne.mpr h0])]
 by_cases h1:y=1
 ·obtain⟨f,hf,e⟩:=pay_ok hn (m:=m) (by omega) k
  refine⟨f,hf,qzj ((qzk (st':=st) (by rw[tt,h1,beq_self_eq_true])).trans ?_)⟩
  rw[ex_k]
  have c:(rn fns m (0+19)).ev T st (.call 19 [(.var 0),(.var 1)])=some (fD f,st):=by rw[← hT]; exact e st
  refine qzj ?_
  simp only[stepEx,c,oMs]
 rw[qxe (n:=19) (by rw[tt,beq_eq_false_iff_ne.mpr h1])]
 obtain⟨v,v0,v1,ev⟩:=dex hn (N:=m) (by omega) k 21 400 (by decide) (by decide) (by decide)
 obtain⟨f,hf,e⟩:=qmg hn (m:=m) (by omega) k w t d (1+v) w0 w1 t0 t1 d0 d1 (by omega) (by omega) st
 refine⟨f,hf,qzj ?_⟩
 have pl:(rn fns m (0+19)).ev T st (.gc (.lst [(.tup [(.lit (.int 7)),(.tup [(.lit (.str "vein"))])]),(.tup [(.bin .Add (.lit (.int 1)) (.gc (.call 7 [(.var 0),(.var 1),(.lit (.int 21)),(.lit (.int 400))]))),(.tup [(.lit (.str "stake"))])])]))=some (plD (1+v),st):=by
  refine qxa (n:=0+17) (ds:=[.tup [.int 7,.tup [tD wVein]],.tup [.int (1+v),.tup [tD [115,116,97,107,101]]]]) ?_ (by simp) rfl
  have a:(rn fns m (0+17)).ev T st (.tup [(.lit (.int 7)),(.tup [(.lit (.str "vein"))])])=some (.tup [.int 7,.tup [tD wVein]],st):=by rw[qwd]; rfl
  have b1:(rn fns m (0+16)).ev T st (.bin .Add (.lit (.int 1)) (.gc (.call 7 [(.var 0),(.var 1),(.lit (.int 21)),(.lit (.int 400))])))=some (.int (1+v),st):=qj0 (n:=15) (a:=.int 1) (b:=.int v) rfl (qzc (n:=12) (ds:=[sD ns,.int k,.int 21,.int 400]) (by rw[← hT]; rfl) (ev st) rfl) (pA _ _ _)
  have b2:(rn fns m (0+16)).ev T st (.tup [(.lit (.str "stake"))])=some (.tup [tD [115,116,97,107,101]],st):=by rw[qbu]; rfl
  have b:(rn fns m (0+17)).ev T st (.tup [(.bin .Add (.lit (.int 1)) (.gc (.call 7 [(.var 0),(.var 1),(.lit (.int 21)),(.lit (.int 400))]))),(.tup [(.lit (.str "stake"))])])=some (.tup [.int (1+v),.tup [tD [115,116,97,107,101]]],st):=by
   rw[ev_k]
   simp only[stepEv,evs,b1,b2,oBs]
   rfl
  simp only[evs,a,b,oBs]
 have c0:(rn fns m (0+19)).ev T st (.var 0)=some (sD ns,st):=by rw[← hT]; rfl
 have c1:(rn fns m (0+19)).ev T st (.var 1)=some (.int k,st):=by rw[← hT]; rfl
 have c2:(rn fns m (0+19)).ev T st (.var 2)=some (zD w t d,st):=by rw[← hT]; rfl
 simp only[stepEx]
 rw[ev_k]
 simp only[stepEv,evs,c0,c1,c2,pl,oBs,call_k,e,oMs]
end
noncomputable def okF(f:Nat):Bool:=f != 28
abbrev Xc:=XC fns okF
theorem qdr{f d:Nat}{F:Fn}{ds:List D}{τ:Sl}{st st':Store}(ho:okF f=true)(hf:fns[f]?=some F)(hl:ds.length=F.np)(hτ:ds.map some++List.replicate (F.nl - ds.length) none=τ)(h:XS fns d (Xc d) τ st F.body st'):Xc (d+1) f ds st st':=⟨ho,F,hf,hl,by rw[hτ]; exact h⟩
def wOk(w:List Nat):Prop:=(∀ c∈w,c<128)∧w.length<600
noncomputable def nOk(w:List Nat):Bool:=!w.isEmpty&&w.all isFig && !(w.head?==some 48 && !(w==[48]))
theorem qe6{w:List Nat}(h:nOk w=true):numV w=.int (figVal w:Nat):=by
 unfold nOk at h
 unfold numV
 rw[if_pos]
 simp only[Qqk,Qzc,Qxw,beq_eq_false_iff_ne]at h
 refine⟨fun z=>by rw[z]at h; simp at h,h.1.2,fun ⟨a,b⟩=>?_⟩
 rcases h.2 with q|q
 ·exact q a
 ·simp at q; exact b q
theorem qck{w:List Nat}(h:nOk w=false):numV w=.non:=by
 unfold nOk at h
 unfold numV
 rw[if_neg]
 rintro⟨a,b,d⟩
 simp only[Qxw,Bool.not_eq_false',Qqk,beq_iff_eq]at h
 rcases h with (h|h)|⟨h1,h2⟩
 ·exact a (List.isEmpty_iff.mp h)
 ·rw[b]at h; cases h
 ·exact d ⟨h1,by simpa using h2⟩
theorem qk9(w:List Nat):noLoc (numV w)=true:=by unfold numV; split<;>rfl
theorem qe7(n:Nat)(w:List Nat):flat n (numV w)=true:=by
 unfold numV
 split
 ·exact qio _ _
 ·exact qin _
theorem qyr(ws:List (List Nat)):noLocs (ws.map numV)=true:=qz0 fun w _=>qk9 w
section
variable {m:Nat}{st:Store}{ws:List (List Nat)}(hw:∀ w∈ws,wOk w)(hl:ws.length<1000)
include hw hl
theorem qct(n:Nat)(o:Option D):(rn fns (m+2) (n+10)).ev [some (.lst (ws.map tD)),o] st (.gc (.comp (.var 0) (.var 0) none (.gc (.call 1 [(.var 0)])) [none]))=some (.lst (ws.map numV),st):=by
 refine qqw (n:=n+8) (s:=.lst (.lst (ws.map tD))) (rest:=[]) ws tD numV (qau rfl) (fun i=>qxg _ _) (by rw[qjc]; simp) rfl (by omega) (fun w _=>qk9 w) fun w hw'=>?_
 refine qw4 (n:=n+7) ?_ (qk9 w)
 have:=qe5 hFig hNum 0 m st w (hw w hw').1 (hw w hw').2
 simp only[ev_k,stepEv,evs,Qqz,oBs,call_k]
 exact this
theorem qih:inD st .non (.lst (ws.map numV))=some (!ws.all nOk):=by
 simp only[inD,seqAt,oBs]
 rw[qvb numV 9 (qe7 9),show flat 9 D.non=true from rfl]
 simp only[Bool.and_self,if_true,List.any_map]
 congr 1
 rw[Qq1,Qzs,Qzc,List.all_eq_false]
 constructor
 ·rintro⟨x,hx,e⟩
  refine⟨x,hx,fun z=>?_⟩
  have e:eqT (numV x) .non=true:=e
  rw[qe6 z]at e
  cases e
 ·rintro⟨x,hx,e⟩
  refine⟨x,hx,?_⟩
  show eqT (numV x) .non=true
  rw[qck (by simpa using e)]
  rfl
theorem qb9(ha:ws.all nOk=true):callD fns (m+3) 2 [.lst (ws.map tD)] st=some (.lst (ws.map numV),st):=by
 refine call_of (0+20) (F:=fNums 1) hNums rfl rfl ?_
 show exs (stepEx (rn fns (m+2) (0+20))) (qh5 1) [some (.lst (ws.map tD)),none] st=_
 unfold qh5
 rw[qzz (τ':=[some (.lst (ws.map tD)),some (.lst (ws.map numV))]) (s':=st) (by simp only[stepEx,qct hw hl,oBs]; rfl)]
 have i1:=qih (st:=st) hw hl
 rw[ha]at i1
 rw[qzz (τ':=[some (.lst (ws.map tD)),some (.lst (ws.map numV))]) (s':=st) (by
  refine(qzx (st':=st) ?_).trans rfl
  simp only[qzl,stepTst,ev_k,stepEv,Qqx,Qqz,oBs,cmpD,i1,oMs,Qxh])]
 refine qzj ?_
 simp only[stepEx,ev_k,stepEv,Qqx,Qqz,oMs]
theorem qea(ha:ws.all nOk=false):Xc (m+3) 2 [.lst (ws.map tD)] st st:=by
 refine qdr rfl hNums rfl rfl ?_
 show XS fns (m+2) _ [some (.lst (ws.map tD)),none] st (qh5 1) st
 refine .next (0+20) (τ1:=[some (.lst (ws.map tD)),some (.lst (ws.map numV))]) (st1:=st) (by simp only[stepEx,qct hw hl,oBs]; rfl) ?_
 have i1:=qih (st:=st) hw hl
 rw[ha]at i1
 exact .iteT 10 (st1:=st) (by simp only[qzl,stepTst,ev_k,stepEv,Qqx,Qqz,oBs,cmpD,i1,oMs,Qxe]) .rais
end
theorem qj6(c:Nat):∀ (cs:List Nat),∀ w∈splitC c cs,∀ x∈w,x∈cs
 |[],w,h,x,hx=>by
  simp only[splitC,Qzk]at h
  subst h
  cases hx
 |y::r,w,h,x,hx=>by
  have ih:=qj6 c r
  unfold splitC at h
  split at h
  ·rcases Qqw.mp h with h|h
   ·subst h; cases hx
   ·exact Qqy _ (ih w h x hx)
  ·split at h
   ·rw[Qzk]at h
    subst h
    rw[Qzk]at hx; rw[hx]; exact Qqe
   ·rename_i p ps e
    rcases Qqw.mp h with h|h
    ·subst h
     rcases Qqw.mp hx with z|z
     ·rw[z]; exact Qqe
     ·exact Qqy _ (ih p (by rw[e]; exact Qqe) x z)
    ·exact Qqy _ (ih w (by rw[e]; exact Qqy _ h) x hx)
noncomputable def wl(ws:List (List Nat)):Nat:=(ws.map fun w=>w.length+1).sum
theorem qk2(w:List Nat)(ws:List (List Nat)):wl (w::ws)=w.length+1+wl ws:=rfl
theorem qiq:wl []=0:=rfl
theorem qxi(c:Nat):∀ (cs:List Nat),wl (splitC c cs)=cs.length+1
 |[]=>rfl
 |y::r=>by
  have ih:=qxi c r
  unfold splitC
  split
  ·rw[qk2,ih]; simp; omega
  ·split
   ·rename_i e
    rw[e,qiq]at ih
    omega
   ·rename_i p ps e
    rw[e,qk2]at ih
    rw[qk2]
    simp only[Qqv]
    omega
theorem qi3:∀ {ws:List (List Nat)}{w:List Nat},w∈ws→w.length+1≤wl ws
 |x::r,w,h=>by
  rw[qk2]
  rcases Qqw.mp h with h|h
  ·rw[h]; omega
  ·have:=qi3 h; omega
theorem qdu:∀ (ws:List (List Nat)),ws.length≤wl ws
 |[]=>Qz5 _
 |w::r=>by rw[qk2,Qqv]; have:=qdu r; omega
def Gt(B:Nat)(cs:List Nat):Prop:=(∀ c∈cs,c<128)∧cs.length≤B
theorem qk5{B:Nat}{cs:List Nat}(h:Gt B cs)(hB:B<600):∀ w∈splitC 32 cs,wOk w:=fun w hw=>by
 refine⟨fun c hc=>h.1 c (qj6 32 cs w hw c hc),?_⟩
 have:=qi3 hw
 rw[qxi]at this
 have:=h.2
 omega
theorem qk6{B:Nat}{cs:List Nat}(h:Gt B cs):(splitC 32 cs).length≤B+1:=by
 have:=qdu (splitC 32 cs)
 rw[qxi]at this
 have:=h.2
 omega
theorem cutTk{α:Type}(xs:List α)(n:Nat):cut xs none (some (n:Int))=xs.take n:=by
 unfold cut
 rw[qvi]
 show(xs.drop 0).take (min n xs.length - 0)=_
 rw[Qx8,Nat.sub_zero]
 by_cases h:n≤xs.length
 ·rw[Qx0 h]
 ·rw[Nat.min_eq_right (by omega),Qzz (Qqc _),Qzz (by omega)]
theorem qml{α:Type}(xs:List α)(n:Nat):cut xs (some (n:Int)) none=xs.drop n:=by
 unfold cut
 rw[qvi]
 show(xs.drop (min n xs.length)).take (xs.length - min n xs.length)=_
 by_cases h:n≤xs.length
 ·rw[Qx0 h,Qzz (by rw[Qzp]; exact Qqc _)]
 ·rw[Nat.min_eq_right (by omega),Nat.sub_self,List.take_zero,List.drop_eq_nil_of_le (by omega)]
theorem gcDr{c:CF}{n:Nat}{τ:Sl}{st:Store}{a:E}{ws:List (List Nat)}(k:Nat)(ha:(runK c (n+1)).ev τ st a=some (.lst (ws.map tD),st)):(runK c (n+3)).ev τ st (.gc (.sli a (some (.lit (.int (k:Int)))) none))=some (.lst ((ws.drop k).map tD),st):=by
 have:=gc_sli (c:=c) (n:=n+1) (τ:=τ) (st:=st) (a:=a) (lo:=some (.lit (.int (k:Int)))) (hi:=none) (xs:=ws.map tD) (l:=some (k:Int)) (h:=none) ha rfl rfl (by rw[qml,← List.map_drop]; exact qe8 _)
 rw[qml,← List.map_drop]at this
 exact this
theorem qbw{f:Sl→Store→D→Option (Out×Store)}{s:Src}{ds:List D}{i0:Nat}(P:Nat→Sl→Store→Prop)(hat:∀ i τ st,P i τ st→s.at st i=some ds[i]?)(hi0:i0≤ds.length)
  (hs:∀ i τ st d,i<i0→ds[i]?=some d→P i τ st→∃ τ' st',f τ st d=some (.nx τ',st')∧P (i+1) τ' st') (k:Nat):∀ (q i:Nat) (τ:Sl) (st:Store),i+q=i0→P i τ st→∃ τ' st',P i0 τ' st'∧loop s f (q+k) i τ st=loop s f k i0 τ' st'
 |0,i,τ,st,h,p=>⟨τ,st,by rw[← h]; exact p,by rw[Nat.zero_add,← h]; rfl⟩
 |q+1,i,τ,st,h,p=>by
  have hi:i<ds.length:=by omega
  obtain⟨τ1,st1,e1,p1⟩:=hs i τ st ds[i] (by omega) (by simp) p
  obtain⟨τ',st',p',e'⟩:=qbw P hat hi0 hs k q (i+1) τ1 st1 (by omega) p1
  refine⟨τ',st',p',?_⟩
  rw[Nat.add_right_comm,loop,hat i τ st p,Qqi hi]
  simp only[oBs,e1]
  exact e'
theorem qxo{f:Sl→Store→D→Option (Out×Store)}{s:Src}{ds:List D}(P:Nat→Sl→Store→Prop)(hat:∀ i τ st,P i τ st→s.at st i=some ds[i]?)
  (hs:∀ i τ st d,i<ds.length→ds[i]?=some d→P i τ st→∃ τ' st',f τ st d=some (.nx τ',st')∧P (i+1) τ' st'){τ:Sl}{st:Store}(p:P 0 τ st):∃ τ' st',P ds.length τ' st'∧loop s f (ds.length+1) 0 τ st=some (.nx τ',st'):=by
 obtain⟨τ',st',p',e⟩:=qbw P hat (Qqc _) hs 1 ds.length 0 τ st (by omega) p
 refine⟨τ',st',p',e.trans ?_⟩
 rw[loop,hat _ _ _ p',Qz1 (Qqc _)]
 rfl
theorem qfw{f:Sl→Store→D→Option (Out×Store)}{s:Src}{ds:List D}{i0:Nat}(P:Nat→Sl→Store→Prop)(Q:Store→Prop)(v:D)(hat:∀ i τ st,P i τ st→s.at st i=some ds[i]?)(hi0:i0<ds.length)
  (hs:∀ i τ st d,i<i0→ds[i]?=some d→P i τ st→∃ τ' st',f τ st d=some (.nx τ',st')∧P (i+1) τ' st') (hr:∀ τ st d,ds[i0]?=some d→P i0 τ st→∃ st',f τ st d=some (.rt v,st')∧Q st'){τ:Sl}{st:Store}(p:P 0 τ st):∃ st',Q st'∧loop s f (ds.length+1) 0 τ st=some (.rt v,st'):=by
 obtain⟨τ',st',p',e⟩:=qbw P hat (Qxa hi0) hs (ds.length - i0+1) i0 0 τ st (by omega) p
 rw[show i0+(ds.length - i0+1)=ds.length+1 by omega]at e
 obtain⟨st2,e2,q2⟩:=hr τ' st' ds[i0] (by simp) p'
 refine⟨st2,q2,e.trans ?_⟩
 rw[loop,hat _ _ _ p',Qqi hi0]
 simp only[oBs,e2]
theorem qjt{α:Type}(p:α→Bool):∀ xs:List α,xs.all p=false→∃ (i:Nat) (x:α),xs[i]?=some x∧p x=false∧∀ (j:Nat) (y:α),j<i→xs[j]?=some y→p y=true
 |[],h=>by cases h
 |a::r,h=>by
  by_cases ha:p a=true
  ·obtain⟨i,o,h1,h2,h3⟩:=qjt p r (by simpa[ha] using h)
   refine⟨i+1,o,h1,h2,fun j o' hj e=>?_⟩
   cases j with
   |zero=>cases e; exact ha
   |succ j=>exact h3 j o' (by omega) e
  ·exact⟨0,a,rfl,by simpa using ha,fun j _ hj=>by omega⟩
theorem qfp{c:Nat}(h:isFig c=true):findC digs c=((c - 48:Nat):Int):=by
 unfold isFig at h
 simp only[Qqk,decide_eq_true_eq]at h
 have q:∀ c<58,48≤c→findC digs c=((c - 48:Nat):Int):=by decide +kernel
 exact q c (by omega) h.1
theorem qip{c:Nat}(h:isFig c=false):findC digs c=-1:=by
 unfold findC
 have:digs.findIdx? (· == c)=none:=by
  rw[Qxo]
  intro x hx
  rw[beq_eq_false_iff_ne]
  intro z
  rw[← qis,decide_eq_false_iff_not]at h
  exact h (z▸hx)
 rw[this]
theorem qhl(xs:List Nat)(c:Nat):figVal (xs++[c])=figVal xs*10+(c - 48):=by unfold figVal; rw[List.foldl_append]; rfl
section
variable (m:Nat)(st:Store)(cs:List Nat)
noncomputable def qys:List S:=[.set (.var 3) (.meth (.lit (.str "0123456789")) .find [(.var 2)]),.ite (.cmp .Lt (.var 3) (.lit (.int 0))) [.ret (.lit .non)] [],.set (.var 1) (.bin .Add (.bin .Mult (.var 1) (.lit (.int 10))) (.var 3))]
theorem qhw(n:Nat)(k:Int)(a:D)(y:Option D)(c:Nat):(rn fns m (n+20)).ex [some a,some (.int k),some (sgn c),y] st qys=some (if isFig c=true then .nx [some a,some (.int (k*10+((c - 48:Nat):Int))),some (sgn c),some (.int ((c - 48:Nat):Int))] else .rt .non,st):=by
 rw[ex_k]
 unfold qys
 have fi:∀ S,mFind S (.str (mk digs)) [sgn c]=some (.int (findC digs c),S):=fun S=>rfl
 have my:∀ S,mty S .find (.str (mk digs))=true:=fun S=>rfl
 rw[qzz (τ':=[some a,some (.int k),some (sgn c),some (.int (findC digs c))]) (s':=st) (by
  rw[td]
  simp only[stepEx,ev_k,stepEv,my,if_true,evs,Qqx,Qqz,oBs,mfun,fi]
  rfl)]
 by_cases h:isFig c=true
 ·rw[if_pos h,qfp h]
  have lt:decide (((c - 48:Nat):Int)<0)=false:=by rw[decide_eq_false_iff_not]; omega
  rw[qzz (τ':=[some a,some (.int k),some (sgn c),some (.int ((c - 48:Nat):Int))]) (s':=st) (by
   refine(qzx (st':=st) ?_).trans rfl
   simp only[qzl,stepTst,ev_k,stepEv,Qqx,Qqz,oBs,cmpD,oMs,lt])]
  rw[qzz (τ':=[some a,some (.int (k*10+((c - 48:Nat):Int))),some (sgn c),some (.int ((c - 48:Nat):Int))]) (s':=st) (by
   simp only[stepEx,ev_k,stepEv,Qqx,Qqz,oBs,bMu st k (b:=10) (by omega) (by omega),pA]
   rfl)]
  rfl
 ·have h:isFig c=false:=by simpa using h
  rw[if_neg (by rw[h]; exact Qqg),qip h]
  refine qzj ((qzk (st':=st) ?_).trans ?_)
  ·simp only[qzl,stepTst,ev_k,stepEv,Qqx,Qqz,oBs,cmpD,oMs]
   rfl
  ·rw[ex_k]
   exact qzj rfl
theorem qmk(hw:wOk cs):callD fns (m+1) 22 [tD cs] st=some (numV cs,st):=by
 refine call_of (0+24) (F:=qxc) rfl rfl rfl ?_
 show exs (stepEx (rn fns m (0+24))) qqi [some (.str (mk cs)),none,none,none] st=_
 unfold qqi
 have hli:¬ lim<(mk cs).length:=by rw[qz2]; unfold lim; have:=hw.2; omega
 have ln:∀ S,bLen S [.str (mk cs)]=some (.int (cs.length:Int),S):=fun S=>by
  simp only[bLen]
  rw[if_neg hli,qz2]
 have t1:∀ n:Nat,(rn fns m (n+10)).tst [some (.str (mk cs)),none,none,none] st (.or (.cmp .Eq (.var 0) (.lit (.str ""))) (.and (.cmp .Gt (.bcall .len [(.var 0)]) (.lit (.int 1))) (.cmp .Eq (.idx (.var 0) (.lit (.int 0))) (.lit (.str "0")))))=some (cs.isEmpty||(cs.head?==some 48 && !(cs==[48])),st):=fun n=>by
  have e0:(mk cs==mk [])=cs.isEmpty:=by rw[qvq]; cases cs<;>rfl
  have a1:∀ n:Nat,(rn fns m (n+3)).tst [some (.str (mk cs)),none,none,none] st (.cmp .Eq (.var 0) (.lit (.str "")))=some (cs.isEmpty,st):=fun n=>tCmp (x:=.str (mk cs)) (y:=.str (mk [])) rfl (by rw[te]; rfl) (by simp only[cmpD,qvg,e0])
  have a2:∀ n:Nat,(rn fns m (n+5)).tst [some (.str (mk cs)),none,none,none] st (.cmp .Gt (.bcall .len [(.var 0)]) (.lit (.int 1)))=some (decide ((1:Int)<(cs.length:Int)),st):=fun n=>tCmp (x:=.int (cs.length:Int)) (y:=.int 1) (by rw[ev_k]; exact ln st) rfl rfl
  rw[qzl]
  simp only[stepTst,a1,oBs]
  cases cs with
  |nil=>rfl
  |cons c r=>
   simp only[List.isEmpty_cons,Qq0,if_false,Qxg]
   rw[qzl]
   simp only[stepTst,a2,oBs]
   cases r with
   |nil=>
    have:decide ((1:Int)<(([c]:List Nat).length:Int))=false:=by simp
    rw[this]
    show some (false,st)=_
    congr 2
    by_cases hc:c=48
    ·subst hc; rfl
    ·simp[hc]
   |cons c' r'=>
    have:decide ((1:Int)<((c::c'::r':List Nat).length:Int))=true:=by simp; omega
    have hix:∀ S,idxD S (.str (mk (c::c'::r'))) (.int 0)=some (.str (mk [c])):=fun S=>by
     simp only[idxD,hli,if_false,qx7,at0]
     rfl
    have hm:(mk [c]==mk [48])=(c==48):=by rw[qvq]; simp[Qq1]
    have a3:∀ n:Nat,(rn fns m (n+5)).tst [some (.str (mk (c::c'::r'))),none,none,none] st (.cmp .Eq (.idx (.var 0) (.lit (.int 0))) (.lit (.str "0")))=some (c==48,st):=fun n=>tCmp (x:=.str (mk [c])) (y:=.str (mk [48])) (evX (x:=.str (mk (c::c'::r'))) (y:=.int 0) rfl rfl (hix st)) (by rw[t0]; rfl) (by simp only[cmpD,qvg,hm])
    rw[this,if_pos rfl,a3]
    congr 2
    rw[show((c::c'::r')==[48])=false by simp]
    show(c==48)=((some c==some 48) && !false)
    rw[Qxe,Qjz]
    rfl
 by_cases h1:(cs.isEmpty||(cs.head?==some 48 && !(cs==[48])))=true
 ·have:nOk cs=false:=by
   unfold nOk
   cases hx:cs.isEmpty with
   |true=>rfl
   |false=>
    rw[hx,Qxg]at h1
    rw[h1]
    simp
  rw[qck this]
  refine qzj ((qzk (st':=st) (by rw[t1,h1])).trans ?_)
  rw[ex_k]
  exact qzj rfl
 ·have h1:(cs.isEmpty||(cs.head?==some 48 && !(cs==[48])))=false:=by simpa using h1
  rw[qzz (τ':=[some (.str (mk cs)),none,none,none]) (s':=st) (by refine(qzx (st':=st) ?_).trans rfl; rw[t1,h1])]
  rw[qzz (τ':=[some (.str (mk cs)),some (.int 0),none,none]) (s':=st) rfl]
  rw[Bool.or_eq_false_iff]at h1
  have hn:nOk cs=cs.all isFig:=by
   unfold nOk
   rw[h1.1,h1.2]
   simp
  have sr:∀ n:Nat,src (rn fns m (n+2)) [some (.str (mk cs)),some (.int 0),none,none] st (.var 0)=some (.str (mk cs),st):=fun n=>by
   show(if (mk cs).cps.all (· < 128) then some (Src.str (mk cs),st) else none)=_
   rw[qji hw.1]
   rfl
  have fr:∀ (P:Out×Store→Prop) (n:Nat),(∃ z,P z∧loop (.str (mk cs)) (fun τ st d=>(setT (.var 2) d τ).bind fun τ'=>(rn fns m (n+22)).ex τ' st qys) ((cs.map sgn).length+1) 0 [some (.str (mk cs)),some (.int 0),none,none] st=some z)→∃ z,P z∧stepEx (rn fns m (n+22)) [some (.str (mk cs)),some (.int 0),none,none] st (.forr (.var 2) (.var 0) qys)=some z:=fun P n ⟨z,hz,e⟩=>⟨z,hz,by
   simp only[stepEx,sr,oBs]
   rw[show Src.size st (.str (mk cs))=(cs.map sgn).length by simp[Src.size,qx7]]
   exact e⟩
  have hst:∀ (i:Nat) (τ:Sl) (S:Store) (d:D),(S=st∧∃ x y,τ=[some (.str (mk cs)),some (.int (figVal (cs.take i):Nat)),x,y])→(cs.map sgn)[i]?=some d→∃ c,cs[i]?=some c∧∀ n,(setT (.var 2) d τ).bind (fun τ'=>(rn fns m (n+22)).ex τ' S qys)=some (if isFig c=true then .nx [some (.str (mk cs)),some (.int (figVal (cs.take (i+1)):Nat)),some (sgn c),some (.int ((c - 48:Nat):Int))] else .rt .non,st):=by
   rintro i τ S d ⟨rfl,x,y,rfl⟩ hd
   rw[Qqn]at hd
   obtain⟨c,hc,e⟩:=Qzx.mp hd
   subst e
   refine⟨c,hc,fun n=>?_⟩
   show(rn fns m (n+22)).ex [some (.str (mk cs)),some (.int (figVal (cs.take i):Nat)),some (sgn c),y] S qys=_
   rw[qhw m S (n+2)]
   by_cases hf:isFig c=true
   ·rw[if_pos hf,if_pos hf,Qxm,hc]
    simp only[Option.toList_some]
    rw[qhl]
    simp
   ·rw[if_neg hf,if_neg hf]
  cases ha:cs.all isFig with
  |true=>
   rw[ha]at hn
   rw[qe6 hn]
   obtain⟨z,⟨x,y,rfl⟩,e⟩:=fr (fun z=>∃ x y,z=(.nx [some (.str (mk cs)),some (.int (figVal cs:Nat)),x,y],st)) 2 (by
    obtain⟨τ',st',⟨rfl,x,y,rfl⟩,e⟩:=qxo (ds:=cs.map sgn) (s:=.str (mk cs)) (f:=fun τ st d=>(setT (.var 2) d τ).bind fun τ'=>(rn fns m (2+22)).ex τ' st qys) (τ:=[some (.str (mk cs)),some (.int 0),none,none]) (st:=st) (fun i τ S=>S=st∧∃ x y,τ=[some (.str (mk cs)),some (.int (figVal (cs.take i):Nat)),x,y]) (fun i τ S _=>qvp _ _ _) (fun i τ S d hi hd p=>by
     obtain⟨c,hc,q⟩:=hst i τ S d p hd
     rw[q 2,if_pos (Qq3.mp ha c (Qzb hc))]
     exact⟨_,_,rfl,rfl,_,_,rfl⟩) ⟨rfl,none,none,rfl⟩
    refine⟨_,⟨x,y,?_⟩,e⟩
    rw[Qzz (by simp)])
   exact(qzz (b:=[.ret (.var 1)]) e).trans (qzj rfl)
  |false=>
   rw[ha]at hn
   rw[qck hn]
   obtain⟨i0,c0,hi0,hb,hp⟩:=qjt isFig cs ha
   obtain⟨z,rfl,e⟩:=fr (fun z=>z=(.rt .non,st)) 2 (by
    obtain⟨st',rfl,e⟩:=qfw (ds:=cs.map sgn) (s:=.str (mk cs)) (f:=fun τ st d=>(setT (.var 2) d τ).bind fun τ'=>(rn fns m (2+22)).ex τ' st qys) (i0:=i0) (τ:=[some (.str (mk cs)),some (.int 0),none,none]) (st:=st) (fun i τ S=>S=st∧∃ x y,τ=[some (.str (mk cs)),some (.int (figVal (cs.take i):Nat)),x,y]) (fun S=>S=st) .non (fun i τ S _=>qvp _ _ _) (by rw[Qqj]; exact(Qqd.mp hi0).1) (fun i τ S d hi hd p=>by
     obtain⟨c,hc,q⟩:=hst i τ S d p hd
     rw[q 2,if_pos (hp i c hi hc)]
     exact⟨_,_,rfl,rfl,_,_,rfl⟩) (fun τ S d hd p=>by
     obtain⟨c,hc,q⟩:=hst i0 τ S d p hd
     rw[hi0]at hc
     cases hc
     rw[q 2,if_neg (by rw[hb]; exact Qqg)]
     exact⟨st,rfl,rfl⟩) ⟨rfl,none,none,rfl⟩
    exact⟨_,rfl,e⟩)
   exact qzj e
end
theorem qzb{c:CF}{n f:Nat}{τ:Sl}{st r:Store}{es:List E}{ds:List D}{d:D}(hes:evs ((runK c (n+1)).ev τ) es st=some (ds,st))(h:c f ds st=some (d,st++r))(hd:noLoc d=true):(runK c (n+3)).ev τ st (.gc (.call f es))=some (d,st):=by
 show((runK c (n+2)).ev τ st (.call f es)).map (fun p=>gcD st p)=_
 rw[ev_k]
 simp only[stepEv,hes,oBs,call_k,h,oMs,qch hd]
noncomputable def qz1(ws:List (List Nat)):D:=if ws.all nOk=true then .lst (ws.map numV) else .non
theorem qwr(ws:List (List Nat)):noLoc (qz1 ws)=true:=by
 unfold qz1
 split
 ·rw[qjg]; exact qyr ws
 ·rfl
section
variable {m:Nat}{st:Store}{ws:List (List Nat)}(hw:∀ w∈ws,wOk w)(hl:ws.length<1000)
include hw hl
theorem qw0:callD fns (m+2) 23 [.lst (ws.map tD)] st=some (qz1 ws,st):=by
 refine call_of (0+20) (F:=qq6) rfl rfl rfl ?_
 show exs (stepEx (rn fns (m+1) (0+20))) qqj [some (.lst (ws.map tD)),none] st=_
 unfold qqj
 have c1:∀ n:Nat,(rn fns (m+1) (n+10)).ev [some (.lst (ws.map tD)),none] st (.gc (.comp (.var 0) (.var 0) none (.gc (.call 22 [(.var 0)])) [none]))=some (.lst (ws.map numV),st):=fun n=>by
  refine qqw (n:=n+8) (s:=.lst (.lst (ws.map tD))) (rest:=[]) ws tD numV (qau rfl) (fun i=>qxg _ _) (by rw[qjc]; simp) rfl (by omega) (fun w _=>qk9 w) fun w hw'=>?_
  refine qw4 (n:=n+7) ?_ (qk9 w)
  have:=qmk m st w (hw w hw')
  simp only[ev_k,stepEv,evs,Qqz,oBs,call_k]
  exact this
 rw[qzz (τ':=[some (.lst (ws.map tD)),some (.lst (ws.map numV))]) (s':=st) (by simp only[stepEx,c1,oBs]; rfl)]
 have c2:∀ n:Nat,(rn fns (m+1) (n+10)).ev [some (.lst (ws.map tD)),some (.lst (ws.map numV))] st (.gc (.comp (.var 0) (.var 1) none (.cmp .Is (.var 0) (.lit .non)) [none]))=some (.lst (ws.map fun w=>.bl (!nOk w)),st):=fun n=>by
  refine qqw (n:=n+8) (s:=.lst (.lst (ws.map numV))) (rest:=[]) ws numV (fun w=>.bl (!nOk w)) (qau rfl) (fun i=>qxg _ _) (by rw[qjc]; simp) rfl (by omega) (fun w _=>rfl) fun w hw'=>?_
  simp only[ev_k,stepEv,Qqz,oBs]
  cases h:nOk w with
  |true=>rw[qe6 h]; rfl
  |false=>rw[qck h]; rfl
 have ab:∀ S,bAny S [.lst (ws.map fun w=>D.bl (!nOk w))]=some (.bl (!ws.all nOk),S):=fun S=>by
  have e1:∀ xs:List (List Nat),asBools (xs.map fun w=>D.bl (!nOk w))=some (xs.map fun w=>!nOk w):=fun xs=>by
   induction xs with
   |nil=>rfl
   |cons x r ih=>simp only[Qqt,asBools,ih,oMs]
  show((asBools (ws.map fun w=>D.bl (!nOk w))).map fun bs=>(D.bl (bs.any id),S))=_
  rw[e1,oMs,List.any_map]
  congr 3
  rw[Qq1,Qzs,Qzc,List.all_eq_false]
  simp
 have t1:∀ n:Nat,(rn fns (m+1) (n+13)).tst [some (.lst (ws.map tD)),some (.lst (ws.map numV))] st (.bcall .any [(.gc (.comp (.var 0) (.var 1) none (.cmp .Is (.var 0) (.lit .non)) [none]))])=some (!ws.all nOk,st):=fun n=>by
  rw[qzl]
  simp only[stepTst]
  rw[ev_k]
  simp only[stepEv,evs,c2,oBs,bfun,ab,truth,oMs]
 unfold qz1
 cases ha:ws.all nOk with
 |true=>
  rw[qzz (τ':=[some (.lst (ws.map tD)),some (.lst (ws.map numV))]) (s':=st) (by refine(qzx (st':=st) ?_).trans rfl; rw[t1,ha]; rfl)]
  exact qzj rfl
 |false=>
  refine qzj ((qzk (st':=st) (by rw[t1,ha]; rfl)).trans ?_)
  rw[ex_k]
  exact qzj rfl
end
noncomputable def alph:List Nat:=[32,48,49,50,51,52,53,54,55,56,57,44,45,43,46,95,126,97,101,104,105,106,107,110,111,112,114,115,116,117,118,119,120,121,122,10,65]
theorem xAlph:PySem.Str.ofString " 0123456789,-+._~aehijknoprstuvwxyz\nA" = mk alph:=by decide +kernel
theorem bAdd(S:Store){a b:List Nat}(h:a.length+b.length<10000):binop S .Add (.str (mk a)) (.str (mk b))=some (.str (mk (a++b)),S):=by
 show(if lim<(mk a).length+(mk b).length then none else some (D.str (mk a++mk b),S))=_
 rw[qz2,qz2,if_neg (by unfold lim; omega),qv7]
section
variable {c:CF}{n:Nat}{τ:Sl}{st:Store}{e:E}{cs:List Nat}(hv:(runK c (n+1)).ev τ st e=some (.str (mk cs),st))(hl:cs.length<10000)
include hv hl
theorem stTk{x:E}{k:Nat}(hx:(runK c (n+1)).ev τ st x=some (.int (k:Int),st)):(runK c (n+2)).ev τ st (.sli e none (some x))=some (.str (mk (cs.take k)),st):=by
 rw[ev_k]
 simp only[stepEv,hv,oBs,part,hx]
 show(if lim<(mk cs).length then none else some (D.str ⟨(cut cs none (some (k:Int))).toArray⟩,st))=_
 rw[qz2,if_neg (by unfold lim; omega),cutTk]
 rfl
theorem stDr{x:E}{k:Nat}(hx:(runK c (n+1)).ev τ st x=some (.int (k:Int),st)):(runK c (n+2)).ev τ st (.sli e (some x) none)=some (.str (mk (cs.drop k)),st):=by
 rw[ev_k]
 simp only[stepEv,hv,oBs,part,hx]
 show(if lim<(mk cs).length then none else some (D.str ⟨(cut cs (some (k:Int)) none).toArray⟩,st))=_
 rw[qz2,if_neg (by unfold lim; omega),qml]
 rfl
end
theorem Gt.mono{B B':Nat}{cs:List Nat}(h:Gt B cs)(hb:B≤B'):Gt B' cs:=⟨h.1,Qq9 h.2 hb⟩
section
variable (m:Nat)(st:Store)(ns:List Int)(hn:ns.length≤63)(k:Int){B:Nat}(cs:List Nat)(hg:Gt B cs)(hB:B<1000)
theorem drwG(j many:Int)(hn:ns.length≤63)(hj:0≤j)(hj2:j<100000)(hm:0<many):callD fns (m+1) 7 [sD ns,.int k,.int j,.int many] st=some (.int (drawV ns k j many),st):=M.drw hDraw (by omega) hn st k j many hj hj2 hm
include hn hg hB
theorem qmp:∃ cs',Gt (B+2) cs'∧callD fns (m+2) 27 [sD ns,.int k,.int 0,.str (mk cs)] st=some (.str (mk cs'),st):=by
 have hlc:=hg.2
 have hli:¬ lim<(mk cs).length:=by rw[qz2]; unfold lim; omega
 have ln:∀ S,bLen S [.str (mk cs)]=some (.int (cs.length:Int),S):=fun S=>by
  simp only[bLen]
  rw[if_neg hli,qz2]
 obtain⟨a,ha,hal⟩:∃ a:Nat,drawV ns k 0 ((cs.length:Int)+1)=(a:Int)∧a≤cs.length:=by
  have h0:=qq7 ns k 0 (many:=(cs.length:Int)+1) (by omega)
  have h1:=qq8 ns k 0 (many:=(cs.length:Int)+1) (by omega)
  exact⟨(drawV ns k 0 ((cs.length:Int)+1)).toNat,by omega,by omega⟩
 have sg0:=qq7 ns k 1 (many:=37) (by omega)
 have sg1:=qq8 ns k 1 (many:=37) (by omega)
 obtain⟨s,hs,hsa⟩:∃ s:Nat,(∀ S,idxD S (.str (mk alph)) (.int (drawV ns k 1 37))=some (.str (mk [s])))∧s<128:=by
  have hlt:(drawV ns k 1 37).toNat<alph.length:=by have:alph.length=37:=rfl; omega
  refine⟨alph[(drawV ns k 1 37).toNat],fun S=>?_,?_⟩
  ·show(if lim<(mk alph).length then none else(atI alph (drawV ns k 1 37)).map fun c=>D.str ⟨#[c]⟩)=_
   rw[if_neg (by decide)]
   unfold atI ixN
   rw[if_pos sg0,if_pos (by have:alph.length=37:=rfl; omega),oBs,Qqi hlt]
   rfl
  ·have:∀ c∈alph,c<128:=by decide
   exact this _ (Qz3 hlt)
 have w0:=qq7 ns k 2 (many:=6) (by omega)
 have w1:=qq8 ns k 2 (many:=6) (by omega)
 have key:∀ cs',Gt (B+2) cs'→exs (stepEx (rn fns (m+1) (0+24))) qx3 [some (sD ns),some (.int k),some (.int 0),some (.str (mk cs)),none,none,none,none] st=some (.rt (.str (mk cs')),st)→∃ cs',Gt (B+2) cs'∧callD fns (m+2) 27 [sD ns,.int k,.int 0,.str (mk cs)] st=some (.str (mk cs'),st):=fun cs' h1 h2=>⟨cs',h1,call_of (0+24) (F:=qka) rfl rfl rfl h2⟩
 unfold qx3 at key
 have s1:stepEx (rn fns (m+1) (0+24)) [some (sD ns),some (.int k),some (.int 0),some (.str (mk cs)),none,none,none,none] st (.set (.var 4) (.gc (.call 7 [(.var 0),(.var 1),(.var 2),(.bin .Add (.bcall .len [(.var 3)]) (.lit (.int 1)))])))=some (.nx [some (sD ns),some (.int k),some (.int 0),some (.str (mk cs)),some (.int (a:Int)),none,none,none],st):=by
  have d1:=drwG m st ns k 0 ((cs.length:Int)+1) hn (by omega) (by omega) (by omega)
  rw[ha]at d1
  simp only[stepEx,ev_k,stepEv,evs,Qqx,Qqz,oBs,bfun,ln,pA,call_k,d1,oMs,qqf]
  rfl
 have s2:stepEx (rn fns (m+1) (0+24)) [some (sD ns),some (.int k),some (.int 0),some (.str (mk cs)),some (.int (a:Int)),none,none,none] st (.set (.var 5) (.lit (.str " 0123456789,-+._~aehijknoprstuvwxyz\nA")))=some (.nx [some (sD ns),some (.int k),some (.int 0),some (.str (mk cs)),some (.int (a:Int)),some (.str (mk alph)),none,none],st):=by
  rw[xAlph]
  rfl
 have la:∀ S,bLen S [.str (mk alph)]=some (.int 37,S):=fun S=>by
  simp only[bLen]
  rw[if_neg (by decide)]
  rfl
 have s3:stepEx (rn fns (m+1) (0+24)) [some (sD ns),some (.int k),some (.int 0),some (.str (mk cs)),some (.int (a:Int)),some (.str (mk alph)),none,none] st (.set (.var 6) (.idx (.var 5) (.gc (.call 7 [(.var 0),(.var 1),(.bin .Add (.var 2) (.lit (.int 1))),(.bcall .len [(.var 5)])]))))=some (.nx [some (sD ns),some (.int k),some (.int 0),some (.str (mk cs)),some (.int (a:Int)),some (.str (mk alph)),some (.str (mk [s])),none],st):=by
  have d1:=drwG m st ns k 1 37 hn (by omega) (by omega) (by omega)
  have e5:(0:Int)+1=1:=rfl
  simp only[stepEx,ev_k,stepEv,evs,Qqx,Qqz,oBs,bfun,la,pA,e5,call_k,d1,oMs,qqf,hs]
  rfl
 obtain⟨w,hw⟩:∃ w,w=drawV ns k 2 6:=⟨_,rfl⟩
 rw[← hw]at w0 w1
 have s4:stepEx (rn fns (m+1) (0+24)) [some (sD ns),some (.int k),some (.int 0),some (.str (mk cs)),some (.int (a:Int)),some (.str (mk alph)),some (.str (mk [s])),none] st (.set (.var 7) (.gc (.call 7 [(.var 0),(.var 1),(.bin .Add (.var 2) (.lit (.int 2))),(.lit (.int 6))])))=some (.nx [some (sD ns),some (.int k),some (.int 0),some (.str (mk cs)),some (.int (a:Int)),some (.str (mk alph)),some (.str (mk [s])),some (.int w)],st):=by
  have d1:=drwG m st ns k 2 6 hn (by omega) (by omega) (by omega)
  rw[← hw]at d1
  have e5:(0:Int)+2=2:=rfl
  simp only[stepEx,ev_k,stepEv,evs,Qqx,Qqz,oBs,pA,e5,call_k,d1,oMs,qqf]
  rfl
 simp only[qzz s1,qzz s2,qzz s3,qzz s4]at key
 generalize hT:([some (sD ns),some (.int k),some (.int 0),some (.str (mk cs)),some (.int (a:Int)),some (.str (mk alph)),some (.str (mk [s])),some (.int w)]:Sl)=T at key
 have v0:∀ n,(rn fns (m+1) (n+1)).ev T st (.var 3)=some (.str (mk cs),st):=fun n=>by rw[← hT]; rfl
 have v4:∀ n,(rn fns (m+1) (n+1)).ev T st (.var 4)=some (.int (a:Int),st):=fun n=>by rw[← hT]; rfl
 have v6:∀ n,(rn fns (m+1) (n+1)).ev T st (.var 6)=some (.str (mk [s]),st):=fun n=>by rw[← hT]; rfl
 have v4':∀ n,(rn fns (m+1) (n+2)).ev T st (.bin .Add (.var 4) (.lit (.int 1)))=some (.int ((a+1:Nat):Int),st):=fun n=>evB (n:=n+1) (v4 n) rfl (by rw[pA]; rfl)
 have tw:∀ (q:Int) n,(rn fns (m+1) (n+2)).tst T st (.cmp .Eq (.var 7) (.lit (.int q)))=some (w==q,st):=fun q n=>tCmp (n:=n+1) (x:=.int w) (y:=.int q) (by rw[← hT]; rfl) rfl (by simp only[cmpD,qqs])
 have no:∀ (q:Int) (r b:List S),w≠q→exs (stepEx (rn fns (m+1) (0+24))) (.ite (.cmp .Eq (.var 7) (.lit (.int q))) r []::b) T st=exs (stepEx (rn fns (m+1) (0+24))) b T st:=fun q r b h=>qzz ((qzx (st':=st) (by rw[tw q 22,show(w==q)=false by simpa using h])).trans rfl)
 have yes:∀ (q:Int) (e:E) (d:D) (b:List S),w=q→(∀ n,(rn fns (m+1) (n+10)).ev T st e=some (d,st))→exs (stepEx (rn fns (m+1) (0+24))) (.ite (.cmp .Eq (.var 7) (.lit (.int q))) [.ret e] []::b) T st=some (.rt d,st):=fun q e d b h he=>by
  refine qzj ((qzk (st':=st) (by rw[tw q 22,show(w==q)=true by simpa using h])).trans ?_)
  rw[ex_k]
  exact qzj (stR (he 13))
 have tk:∀ n,(rn fns (m+1) (n+3)).ev T st (.gc (.sli (.var 3) none (some (.var 4))))=some (.str (mk (cs.take a)),st):=fun n=>qw4 (n:=n+2) (stTk (n:=n) (v0 n) (by omega) (v4 n)) rfl
 have dr:∀ n,(rn fns (m+1) (n+3)).ev T st (.gc (.sli (.var 3) (some (.var 4)) none))=some (.str (mk (cs.drop a)),st):=fun n=>qw4 (n:=n+2) (stDr (n:=n) (v0 n) (by omega) (v4 n)) rfl
 have dr1:∀ n,(rn fns (m+1) (n+4)).ev T st (.gc (.sli (.var 3) (some (.bin .Add (.var 4) (.lit (.int 1)))) none))=some (.str (mk (cs.drop (a+1))),st):=fun n=>qw4 (n:=n+3) (stDr (n:=n+1) (v0 (n+1)) (by omega) (v4' n)) rfl
 have tks:∀ n,(rn fns (m+1) (n+5)).ev T st (.bin .Add (.gc (.sli (.var 3) none (some (.var 4)))) (.var 6))=some (.str (mk (cs.take a++[s])),st):=fun n=>evB (n:=n+4) (tk (n+1)) (v6 (n+3)) (bAdd st (by rw[Qzf]; simp; omega))
 have gtk:∀ c∈cs.take a,c<128:=fun c hc=>hg.1 c (List.mem_of_mem_take hc)
 have gdr:∀ q,∀ c∈cs.drop q,c<128:=fun q c hc=>hg.1 c (List.mem_of_mem_drop hc)
 have app:∀ {x y:List Nat},(∀ c∈x,c<128)→(∀ c∈y,c<128)→∀ c∈x++y,c<128:=fun hx hy c hc=>(Qz7.mp hc).elim (hx c) (hy c)
 have one:∀ c∈([s]:List Nat),c<128:=fun c hc=>by rw[Qzk]at hc; rw[hc]; exact hsa
 have hw6:w=0∨w=1∨w=2∨w=3∨w=4∨w=5:=by omega
 rcases hw6 with h|h|h|h|h|h
 ·refine key (cs.take a++[s]++cs.drop a) ⟨app (app gtk one) (gdr a),by simp; omega⟩ ?_
  exact yes 0 _ _ _ h fun n=>evB (n:=n+9) (tks (n+4)) (dr (n+6)) (bAdd st (by simp; omega))
 ·refine key (cs.take a++cs.drop (a+1)) ⟨app gtk (gdr _),by simp; omega⟩ ?_
  rw[no 0 _ _ (by omega)]
  exact yes 1 _ _ _ h fun n=>evB (n:=n+9) (tk (n+6)) (dr1 (n+5)) (bAdd st (by simp; omega))
 ·refine key (cs.take a++[s]++cs.drop (a+1)) ⟨app (app gtk one) (gdr _),by simp; omega⟩ ?_
  rw[no 0 _ _ (by omega),no 1 _ _ (by omega)]
  exact yes 2 _ _ _ h fun n=>evB (n:=n+9) (tks (n+4)) (dr1 (n+5)) (bAdd st (by simp; omega))
 ·refine key (cs.take a) ⟨gtk,by rw[Qzf]; omega⟩ ?_
  rw[no 0 _ _ (by omega),no 1 _ _ (by omega),no 2 _ _ (by omega)]
  exact yes 3 _ _ _ h fun n=>stTk (n:=n+8) (v0 (n+8)) (by omega) (v4 (n+8))
 ·refine key (cs.drop a) ⟨gdr a,by rw[Qzp]; omega⟩ ?_
  rw[no 0 _ _ (by omega),no 1 _ _ (by omega),no 2 _ _ (by omega),no 3 _ _ (by omega)]
  exact yes 4 _ _ _ h fun n=>stDr (n:=n+8) (v0 (n+8)) (by omega) (v4 (n+8))
 ·have l0:=qq7 ns k 3 (many:=5) (by omega)
  have l1:=qq8 ns k 3 (many:=5) (by omega)
  let xs:List (List Nat):=[[32],[10],[32,48],[48],[44,49]]
  have hx:∀ S,idxD S (.lst (xs.map tD)) (.int (drawV ns k 3 5))=some (tD (xs.getD (drawV ns k 3 5).toNat [])):=fun S=>qwq tD xs [] (drawV ns k 3 5) l0 (by show _<(5:Int); exact l1) S
  have hmem:=getD_mem xs [] (drawV ns k 3 5) l0 (by show _<(5:Int); exact l1)
  have hp:∀ x∈xs,x.length≤2∧∀ c∈x,c<128:=by decide
  obtain⟨hp1,hp2⟩:=hp _ hmem
  generalize xs.getD (drawV ns k 3 5).toNat []=y at hx hp1 hp2
  have lst:∀ n,(rn fns (m+1) (n+5)).ev T st (.gc (.lst [(.lit (.str " ")),(.lit (.str "\n")),(.lit (.str " 0")),(.lit (.str "0")),(.lit (.str ",1"))]))=some (.lst (xs.map tD),st):=fun n=>by
   refine qxa (n:=n+3) ?_ (by simp[xs]) (qe8 _)
   rw[show PySem.Str.ofString " " = mk [32] by decide +kernel,show PySem.Str.ofString "\n" = mk [10] by decide +kernel,show PySem.Str.ofString " 0" = mk [32,48] by decide +kernel,show PySem.Str.ofString "0" = mk [48] by decide +kernel,show PySem.Str.ofString ",1" = mk [44,49] by decide +kernel]
   rfl
  have d1:=drwG m st ns k 3 5 hn (by omega) (by omega) (by omega)
  have e5:(0:Int)+3=3:=rfl
  have v0':∀ n,(rn fns (m+1) (n+1)).ev T st (.var 0)=some (sD ns,st):=fun n=>by rw[← hT]; rfl
  have v1':∀ n,(rn fns (m+1) (n+1)).ev T st (.var 1)=some (.int k,st):=fun n=>by rw[← hT]; rfl
  have v2':∀ n,(rn fns (m+1) (n+1)).ev T st (.var 2)=some (.int 0,st):=fun n=>by rw[← hT]; rfl
  have j2:∀ n,(rn fns (m+1) (n+2)).ev T st (.bin .Add (.var 2) (.lit (.int 3)))=some (.int 3,st):=fun n=>evB (n:=n+1) (v2' n) rfl (by rw[pA]; rfl)
  have q1:∀ n,(rn fns (m+1) (n+1)).ev T st (.lit (.int 5))=some (.int 5,st):=fun n=>rfl
  have dc:∀ n,(rn fns (m+1) (n+5)).ev T st (.gc (.call 7 [(.var 0),(.var 1),(.bin .Add (.var 2) (.lit (.int 3))),(.lit (.int 5))]))=some (.int (drawV ns k 3 5),st):=fun n=>qzb (r:=[]) (n:=n+2) (ds:=[sD ns,.int k,.int 3,.int 5]) (by simp only[evs,v0',v1',j2,q1,oBs]) (by rw[Qqh]; exact d1) rfl
  refine key (cs++y) ⟨app hg.1 hp2,by simp; omega⟩ ?_
  rw[no 0 _ _ (by omega),no 1 _ _ (by omega),no 2 _ _ (by omega),no 3 _ _ (by omega),no 4 _ _ (by omega)]
  exact qzj (stR (n:=0+24) (evB (n:=23) (v0 22) (evX (n:=22) (lst 17) (dc 17) (hx st)) (bAdd st (by omega))))
end
noncomputable def stV(w:List Nat):Option (List Nat):=if w=[45] then some [] else if (!w.isEmpty&&w.all isFig)=true then some (w.map (· - 48)) else none
noncomputable def clOk(w:List Nat):Bool:=(splitC 44 w).all nOk&&(splitC 44 w).length==2
noncomputable def clV(w:List Nat):D:=.tup ((splitC 44 w).map numV)
theorem qcu(w:List Nat):noLoc (clV w)=true:=by unfold clV; rw[qzg]; exact qyr _
noncomputable def veO(r:List (List Nat)):Option D:=match r with
 |s::c::cs=>if (c::cs).all clOk=true then(stV s).map fun ss=>.tup [tD wVein,.tup (ss.map iD),.tup ((c::cs).map clV)] else none
 |_=>none
theorem qjs{c:CF}{n:Nat}{τ:Sl}{st:Store}{i x:Nat}{z:Str}{cs:List Nat}(hz:z=mk [x])(hv:τ[i]?=some (some (tD cs)))(hl:cs.length<1000000):(runK c (n+4)).ev τ st (.gc (.meth (.var i) .split [(.lit (.str z))]))=some (.lst ((splitC x cs).map tD),st):=by
 refine qva (n:=n+3) ?_ (qe8 _)
 rw[hz]
 have my:∀ S,mty S .split (tD cs)=true:=fun S=>rfl
 have sp:∀ S,mSplit S (tD cs) [.str (mk [x])]=some (.loc S.length,S++[.lst true ((splitC x cs).map tD)]):=fun S=>by
  show((oneOf (mk [x])).bind fun c=>if (mk cs).length<1000000 then some (alloc S (.lst true ((splitC c (mk cs).cps.toList).map fun p=>.str ⟨p.toArray⟩))) else none)=_
  rw[show oneOf (mk [x])=some x from rfl,qz2,oBs,if_pos hl]
  rfl
 rw[ev_k]
 simp only[stepEv,ev_k,hv,oBs,my,if_true,evs,mfun,sp]
theorem qlk{x:Nat}{w:List Nat}(h:wOk w):∀ q∈splitC x w,wOk q:=fun q hq=>by
 refine⟨fun c hc=>h.1 c (qj6 x w q hq c hc),?_⟩
 have:=qi3 hq
 rw[qxi]at this
 have:=h.2
 omega
theorem qgr{x:Nat}{w:List Nat}(h:wOk w):(splitC x w).length<601:=by
 have:=qdu (splitC x w)
 rw[qxi]at this
 have:=h.2
 omega
section
variable (m:Nat)(st:Store)(w:List Nat)(hw:wOk w)
theorem qey(n:Nat):(rn fns (m+1) (n+5)).tst [some (tD w)] st (.cmp .Eq (.var 0) (.glo "NO_STEPS" (.str "-")))=some (w==[45],st):=by
 rw[qi2]
 exact tCmp (n:=n+4) (x:=tD w) (y:=tD [45]) rfl rfl (by show(eqD st (tD w) (tD [45]))=_; exact qbb st w [45])
include hw
theorem rst_g(n:Nat):(rn fns (m+1) (n+6)).tst [some (tD w)] st (.not (.gc (.call 0 [(.var 0)])))=some (!(!w.isEmpty&&w.all isFig),st):=by
 have ef:=qfr hFig 0 m st w hw.1 (by have:=hw.2; omega)
 have g1:(rn fns (m+1) (n+4)).ev [some (tD w)] st (.gc (.call 0 [(.var 0)]))=some (.bl (!w.isEmpty&&w.all isFig),st):=qzc (n:=n+1) (ds:=[tD w]) rfl ef rfl
 rw[qzl]
 simp only[stepTst,qzl,g1,oBs,truth,oMs]
theorem qyg{ss:List Nat}(h:stV w=some ss):callD fns (m+2) 3 [tD w] st=some (.tup (ss.map iD),st):=by
 refine call_of (0+20) (F:=qqg) rfl rfl rfl ?_
 show exs (stepEx (rn fns (m+1) (0+20))) qz6 [some (tD w)] st=_
 unfold qz6
 unfold stV at h
 by_cases h1:w=[45]
 ·rw[if_pos h1]at h
  cases h
  refine qzj ((qzk (st':=st) (by rw[qey,h1]; rfl)).trans ?_)
  rfl
 ·rw[if_neg h1]at h
  split at h
  ·rename_i hf
   cases h
   rw[qzz (τ':=[some (tD w)]) (s':=st) ((qzx (st':=st) (by rw[qey,beq_eq_false_iff_ne.mpr h1])).trans rfl)]
   rw[qzz (τ':=[some (tD w)]) (s':=st) ((qzx (st':=st) (by rw[rst_g m st w hw,hf]; rfl)).trans rfl)]
   rw[Qqk]at hf
   have e1:∀ n:Nat,(rn fns (m+1) (n+8)).ev [some (tD w)] st (.gc (.comp (.var 0) (.var 0) none (.bcall .int [(.var 0)]) [none]))=some (.lst (w.map fun c=>iD (c - 48)),st):=fun n=>by
    refine qqw (n:=n+6) (s:=.str (mk w)) (rest:=[]) w sgn (fun c=>iD (c - 48)) ?_ (fun i=>by rw[qvp,qx7]) (by simp[Src.size,qx7]) rfl (by have:=hw.2; omega) (fun _ _=>rfl) (fun s h1=>?_)
    ·show src (rn fns (m+1) (n+6)) [some (.str (mk w))] st (.var 0)=_
     simp only[src,ev_k,stepEv,Qqz,oBs,qji hw.1,if_true]
    ·have hk:=Qq3.mp hf.2 s h1
     have hb:bInt st [sgn s]=some (iD (s - 48),st):=by
      show(if !([s]:List Nat).isEmpty&&[s].all isFig&&decide ((1:Nat)≤640) then some (D.int (figVal [s]:Nat),st) else none)=_
      have:figVal [s]=s - 48:=by simp[figVal]
      rw[this]
      simp[hk,iD]
     simp only[ev_k,stepEv,evs,Qqz,oBs,bfun,hb]
   refine qzj ?_
   simp only[stepEx]
   rw[ev_k]
   simp only[stepEv,evs,e1,oBs,bfun,bTuple,seqAt,oMs,Qq6]
   rfl
  ·cases h
theorem qgu(h:stV w=none):Xc (m+2) 3 [tD w] st st:=by
 refine qdr (F:=qqg) rfl rfl rfl rfl ?_
 show XS fns (m+1) _ [some (tD w)] st qz6 st
 unfold stV at h
 split at h
 ·cases h
 ·rename_i h1
  split at h
  ·cases h
  ·rename_i hf
   refine .next (0+20) (τ1:=[some (tD w)]) (st1:=st) ((qzx (st':=st) (by rw[qey,beq_eq_false_iff_ne.mpr h1])).trans rfl) ?_
   refine .iteT (0+6) (st1:=st) ?_ .rais
   rw[rst_g m st w hw,Qxs]at *
   rw[hf]
   rfl
end
section
variable (m:Nat)(st:Store)(w:List Nat)(hw:wOk w)
include hw
theorem rc_s(n:Nat):evs ((rn fns (m+3) (n+4)).ev [some (tD w),none]) [(.gc (.meth (.var 0) .split [(.lit (.str ","))]))] st=some ([.lst ((splitC 44 w).map tD)],st):=by
 simp only[evs,qjs (c:=callD fns (m+3)) (n:=n) (τ:=[some (tD w),none]) (st:=st) (i:=0) (cs:=w) qds rfl (by have:=hw.2; omega),oBs]
theorem rc_1(h:(splitC 44 w).all nOk=true)(n:Nat):stepEx (rn fns (m+3) (n+20)) [some (tD w),none] st (.set (.var 1) (.gc (.call 2 [(.gc (.meth (.var 0) .split [(.lit (.str ","))]))])))=some (.nx [some (tD w),some (.lst ((splitC 44 w).map numV))],st):=by
 have g1:(rn fns (m+3) (n+20)).ev [some (tD w),none] st (.gc (.call 2 [(.gc (.meth (.var 0) .split [(.lit (.str ","))]))]))=some (.lst ((splitC 44 w).map numV),st):=qzb (r:=[]) (n:=n+17) (ds:=[.lst ((splitC 44 w).map tD)]) (rc_s m st w hw (n+14)) (by rw[Qqh]; exact qb9 (m:=m) (st:=st) (qlk hw) (by have:=qgr (x:=44) hw; omega) h) (by rw[qjg]; exact qyr _)
 simp only[stepEx,g1,oBs]
 rfl
theorem rc_2(n:Nat):(rn fns (m+3) (n+5)).tst [some (tD w),some (.lst ((splitC 44 w).map numV))] st (.cmp .NotEq (.bcall .len [(.var 1)]) (.lit (.int 2)))=some (!((splitC 44 w).length==2),st):=by
 have ln:∀ S,bLen S [.lst ((splitC 44 w).map numV)]=some (.int (((splitC 44 w).length:Nat):Int),S):=fun S=>by simp only[bLen,seqAt,oMs,Qqj]
 simp only[qzl,stepTst,ev_k,stepEv,evs,Qqx,Qqz,oBs,bfun,ln,cmpD,neD,qqs,oMs]
 congr 3
 rw[Qq1,beq_iff_eq,beq_iff_eq]
 omega
theorem qcz(h:clOk w=true):callD fns (m+4) 4 [tD w] st=some (clV w,st):=by
 unfold clOk at h
 rw[Qqk]at h
 refine call_of (0+20) (F:=qq4) rfl rfl rfl ?_
 show exs (stepEx (rn fns (m+3) (0+20))) qqe [some (tD w),none] st=_
 unfold qqe
 rw[qzz (rc_1 m st w hw h.1 0)]
 rw[qzz (τ':=[some (tD w),some (.lst ((splitC 44 w).map numV))]) (s':=st) ((qzx (st':=st) (by rw[rc_2 m st w hw 15,h.2]; rfl)).trans rfl)]
 exact qzj rfl
theorem qlf(h:clOk w=false):Xc (m+4) 4 [tD w] st st:=by
 refine qdr (F:=qq4) rfl rfl rfl rfl ?_
 show XS fns (m+3) _ [some (tD w),none] st qqe st
 unfold clOk at h
 cases ha:(splitC 44 w).all nOk with
 |false=>exact .set rfl (.gc (.call (0+20) (ds:=[.lst ((splitC 44 w).map tD)]) (st1:=st) (rc_s m st w hw 16) (qea (qlk hw) (by have:=qgr (x:=44) hw; omega) ha)))
 |true=>
  rw[ha,Qxi]at h
  refine .next (0+20) (rc_1 m st w hw ha 0) (.iteT (0+20) (st1:=st) ?_ .rais)
  rw[rc_2 m st w hw 15,h]
  rfl
end
noncomputable def qhr:E:=.gc (.comp (.var 0) (.gc (.sli (.var 0) (some (.lit (.int 1))) none)) none (.gc (.call 4 [(.var 0)])) [none])
section
variable (m:Nat)(st:Store)
theorem rv_t(r:List (List Nat))(n:Nat):(rn fns (m+4) (n+5)).tst [some (.lst (r.map tD))] st (.cmp .Lt (.bcall .len [(.var 0)]) (.lit (.int 2)))=some (decide (r.length<2),st):=by
 have ln:∀ S,bLen S [.lst (r.map tD)]=some (.int ((r.length:Nat):Int),S):=fun S=>by simp only[bLen,seqAt,oMs,Qqj]
 simp only[qzl,stepTst,ev_k,stepEv,evs,Qqz,oBs,bfun,ln,cmpD,oMs]
 congr 2
 rw[Qq1,decide_eq_true_iff,decide_eq_true_iff]
 omega
variable (s:List Nat)(cs:List (List Nat))(hs:wOk s)(hw:∀ w∈cs,wOk w)(hl:cs.length<601)
theorem rv_s(n:Nat):evs ((rn fns (m+4) (n+3)).ev [some (.lst ((s::cs).map tD))]) [(.idx (.var 0) (.lit (.int 0)))] st=some ([tD s],st):=by
 have x0:(rn fns (m+4) (n+3)).ev [some (.lst ((s::cs).map tD))] st (.idx (.var 0) (.lit (.int 0)))=some (tD s,st):=by
  show((idxD st (.lst (tD s::cs.map tD)) (.int 0)).map fun d=>(d,st))=_
  rw[ixL0]; rfl
 simp only[evs,x0,oBs]
theorem qiw(n:Nat):src (rn fns (m+4) (n+5)) [some (.lst ((s::cs).map tD))] st (.gc (.sli (.var 0) (some (.lit (.int 1))) none))=some (.lst (.lst (cs.map tD)),st):=by
 have q:(rn fns (m+4) (n+5)).ev [some (.lst ((s::cs).map tD))] st (.gc (.sli (.var 0) (some (.lit (.int 1))) none))=some (.lst (cs.map tD),st):=gcDr (c:=callD fns (m+4)) (n:=n+2) (τ:=[some (.lst ((s::cs).map tD))]) (st:=st) (a:=.var 0) (ws:=s::cs) 1 rfl
 simp only[src,q]
 rfl
include hw hl
theorem rv_c(h:cs.all clOk=true)(n:Nat):(rn fns (m+4) (n+12)).ev [some (.lst ((s::cs).map tD))] st (.bcall .tuple [qhr])=some (.tup (cs.map clV),st):=by
 have:(rn fns (m+4) (n+11)).ev [some (.lst ((s::cs).map tD))] st qhr=some (.lst (cs.map clV),st):=
  qqw (n:=n+9) (s:=.lst (.lst (cs.map tD))) (rest:=[]) cs tD clV (qiw m st s cs (n+4)) (fun i=>qxg _ _) (by rw[qjc]; simp) rfl (by omega) (fun w _=>qcu w) fun p hp=>qzb (r:=[]) (n:=n+6) (ds:=[tD p]) rfl (by rw[Qqh]; exact qcz m st p (hw p hp) (Qq3.mp h p hp)) (qcu p)
 rw[ev_k]
 simp only[stepEv,evs,this,oBs,bfun,bTuple,seqAt,oMs]
theorem rv_cx(h:cs.all clOk=false):XE fns (m+4) (Xc (m+4)) [some (.lst ((s::cs).map tD))] st (.bcall .tuple [qhr]) st:=by
 obtain⟨i,w,hi,hb,hp⟩:=qjt clOk cs h
 have hlt:=(Qqd.mp hi).1
 refine .tuple (.gc (.comp (s:=.lst (.lst (cs.map tD))) (dd:=tD w) (τ1:=[some (tD w)]) (0+14) i (fun j=>[if j=0 then none else some (tD (cs.getD (j - 1) []))]) (fun _=>st) (qiw m st s cs _) rfl (by unfold lim; omega) (fun j hj=>?_) ?_ rfl (.gc (.call (0+9) (ds:=[tD w]) (st1:=st) rfl (qlf m st w (hw w (Qzb hi)) hb)))))
 ·have hj':j<cs.length:=by omega
  refine⟨tD cs[j],clV cs[j],by rw[qxg,Qqn,Qqi hj']; rfl,?_⟩
  have:(rn fns (m+4) (0+14)).ev [some (tD cs[j])] st (.gc (.call 4 [(.var 0)]))=some (clV cs[j],st):=qzb (r:=[]) (n:=11) (ds:=[tD cs[j]]) rfl (by rw[Qqh]; exact qcz m st cs[j] (hw _ (Qz3 hj')) (hp j cs[j] hj (Qqi hj'))) (qcu _)
  show((rn fns (m+4) (0+14)).ev [some (tD cs[j])] st (.gc (.call 4 [(.var 0)]))).map _=_
  rw[this]
  simp[Qzm,Qqi hj']
 ·rw[qxg,Qqn,hi]
  rfl
end
section
variable (m:Nat)(st:Store)(r:List (List Nat))(hw:∀ w∈r,wOk w)(hl:r.length<601)
theorem b_rv:qqc=[.ite (.cmp .Lt (.bcall .len [(.var 0)]) (.lit (.int 2))) [.rais] [],.ret (.tup [(.lit (.str "vein")),(.gc (.call 3 [(.idx (.var 0) (.lit (.int 0)))])),(.bcall .tuple [qhr])])]:=rfl
include hw hl
theorem qgt{d:D}(h:veO r=some d):callD fns (m+5) 5 [.lst (r.map tD)] st=some (d,st):=by
 unfold veO at h
 split at h
 ·rename_i s c cs
  split at h
  ·rename_i hc
   obtain⟨ss,h1,h2⟩:=Qzx.mp h
   subst h2
   refine call_of (0+20) (F:=qq2) rfl rfl rfl ?_
   show exs (stepEx (rn fns (m+4) (0+20))) qqc [some (.lst ((s::c::cs).map tD))] st=_
   rw[b_rv,qzz (τ':=[some (.lst ((s::c::cs).map tD))]) (s':=st) ((qzx (st':=st) (by rw[rv_t m st (s::c::cs) 15]; rfl)).trans rfl)]
   have a0:∀ n:Nat,(rn fns (m+4) (n+1)).ev [some (.lst ((s::c::cs).map tD))] st (.lit (.str "vein"))=some (tD wVein,st):=fun n=>by rw[qwd]; rfl
   have a1:∀ n:Nat,(rn fns (m+4) (n+5)).ev [some (.lst ((s::c::cs).map tD))] st (.gc (.call 3 [(.idx (.var 0) (.lit (.int 0)))]))=some (.tup (ss.map iD),st):=fun n=>qzb (r:=[]) (n:=n+2) (ds:=[tD s]) (rv_s m st s (c::cs) n) (by rw[Qqh]; exact qyg (m+2) st s (hw s Qqe) h1) (by rw[qzg]; exact qbk _)
   have a2:=rv_c m st s (c::cs) (fun w h=>hw w (Qqy _ h)) (by simp only[Qqv]at hl ⊢; omega) hc
   refine qzj ?_
   simp only[stepEx]
   rw[ev_k]
   simp only[stepEv,evs,a0,a1,a2 7,oBs]
   rfl
  ·cases h
 ·cases h
theorem qld(h:veO r=none):Xc (m+5) 5 [.lst (r.map tD)] st st:=by
 refine qdr (F:=qq2) rfl rfl rfl rfl ?_
 show XS fns (m+4) _ [some (.lst (r.map tD))] st qqc st
 rw[b_rv]
 by_cases h2:r.length<2
 ·exact .iteT (0+5) (st1:=st) (by rw[rv_t m st r 0,decide_eq_true h2]) .rais
 ·match r,hw,hl,h,h2 with
  |[],_,_,_,h2=>exact absurd (by simp) h2
  |[_],_,_,_,h2=>exact absurd (by simp) h2
  |s::c::cs,hw,hl,h,h2=>
   refine .next (0+20) (τ1:=[some (.lst ((s::c::cs).map tD))]) (st1:=st) ((qzx (st':=st) (by rw[rv_t m st (s::c::cs) 15]; rfl)).trans rfl) ?_
   have a0:∀ n:Nat,(rn fns (m+4) (n+1)).ev [some (.lst ((s::c::cs).map tD))] st (.lit (.str "vein"))=some (tD wVein,st):=fun n=>by rw[qwd]; rfl
   have hs:=hw s Qqe
   cases e1:stV s with
   |none=>exact .ret (.tup (pre:=[(.lit (.str "vein"))]) (0+5) (ds:=[tD wVein]) (st1:=st) (by simp only[evs,a0,oBs]) (.gc (.call (0+5) (ds:=[tD s]) (st1:=st) (rv_s m st s (c::cs) 2) (qgu (m+2) st s hs e1))))
   |some ss=>
    have a1:(rn fns (m+4) (0+5)).ev [some (.lst ((s::c::cs).map tD))] st (.gc (.call 3 [(.idx (.var 0) (.lit (.int 0)))]))=some (.tup (ss.map iD),st):=qzb (r:=[]) (n:=2) (ds:=[tD s]) (rv_s m st s (c::cs) 0) (by rw[Qqh]; exact qyg (m+2) st s hs e1) (by rw[qzg]; exact qbk _)
    have hc:(c::cs).all clOk=false:=by
     cases q:(c::cs).all clOk with
     |false=>rfl
     |true=>simp only[veO,q,if_true,e1,oMs]at h; cases h
    exact .ret (.tup (pre:=[(.lit (.str "vein")),(.gc (.call 3 [(.idx (.var 0) (.lit (.int 0)))]))]) (post:=[]) (0+5) (ds:=[tD wVein,.tup (ss.map iD)]) (st1:=st) (by simp only[evs,a0,a1,oBs]) (rv_cx m st s (c::cs) (fun w h=>hw w (Qqy _ h)) (by simp only[Qqv]at hl ⊢; omega) hc))
end
noncomputable def askKeys:List Str:=["join","stake","work","sell","part","give","dig","pay"]
noncomputable def qkd:List D:=[(.tup [(.str "day"),(.str "day"),(.str "below")]),(.tup [(.str "folk"),(.str "x"),(.str "y"),(.str "x"),(.str "y")]),(.tup [(.str "day")]),(.tup [(.str "day"),(.str "folk")]),(.tup [(.str "day"),(.str "side"),(.str "line"),(.str "folk")]),(.tup [(.str "day")]),(.tup [(.str "folk"),(.str "x"),(.str "y"),(.str "x"),(.str "y"),(.str "floor"),(.str "coins")]),(.tup [(.str "folk"),(.str "folk"),(.str "coins")])]
theorem b_rf:qqd=[
 .set (.var 1) (.gc (.meth (.var 0) .split [(.lit (.str " "))])),
 .set (.var 2) (.idx (.var 1) (.lit (.int 0))),
 .ite (.cmp .Eq (.var 2) (.lit (.str "vein"))) [.ret (.call 5 [(.gc (.sli (.var 1) (some (.lit (.int 1))) none))])] [],
 .ite (.gin true "ASKS" askKeys (.var 2)) [.rais] [],
 .set (.var 3) (.gc (.call 2 [(.gc (.sli (.var 1) (some (.lit (.int 1))) none))])),
 .ite (.cmp .NotEq (.bcall .len [(.var 3)]) (.bcall .len [(.gidx "ASKS" askKeys qkd (.var 2))])) [.rais] [],
 .ret (.bin .Add (.tup [(.var 2)]) (.bcall .tuple [(.var 3)]))]:=rfl
noncomputable def qar(w:List Nat):Nat:=match (askKeys.zip qkd).find? fun q=>q.1==mk w with
 |some (_,.tup ds)=>ds.length
 |_=>0
theorem qwe:∀ p∈wordsN,askKeys.contains (mk p.1)=true∧qar p.1=p.2∧p.2≠0:=by decide +kernel
theorem qiz{w:List Nat}(h:qar w≠0):∃ k ds,((askKeys.zip qkd).find? fun q=>q.1==mk w)=some (k,.tup ds)∧ds.length=qar w:=by
 unfold qar at h ⊢
 split at h
 ·rename_i k ds e
  exact⟨k,ds,e,rfl⟩
 ·exact absurd rfl h
noncomputable def askN(w:List Nat):Nat:=((wordsN.find? fun q=>q.1==w).map Prod.snd).getD 0
theorem qh9:askKeys=wordsN.map fun q=>mk q.1:=by decide +kernel
theorem qmr{w:List Nat}(h:askN w≠0):askKeys.contains (mk w)=true∧qar w=askN w:=by
 unfold askN at h ⊢
 cases e:wordsN.find? fun q=>q.1==w with
 |none=>rw[e]at h; exact absurd rfl h
 |some q=>
  have h1:=qwe q (Qz9 e)
  have h2:=List.find?_some e
  rw[beq_iff_eq]at h2
  subst h2
  exact⟨h1.1,h1.2.1⟩
theorem ask_n{w:List Nat}(h:askN w=0):askKeys.contains (mk w)=false:=by
 unfold askN at h
 cases e:wordsN.find? fun q=>q.1==w with
 |some q=>
  rw[e]at h
  exact absurd h (qwe q (Qz9 e)).2.2
 |none=>
  rw[List.find?_eq_none]at e
  rw[qh9,Bool.eq_false_iff]
  intro z
  rw[List.contains_iff_mem]at z
  obtain⟨q,hq,e1⟩:=Qq5.mp z
  exact e q hq (beq_iff_eq.mpr (qie e1))
noncomputable def faO(ws:List (List Nat)):Option D:=match ws with
 |[]=>none
 |w::r=>if w=wVein then veO r else if askN w=0 then none else if (r.all nOk&&r.length==askN w)=true then some (.tup (tD w::r.map numV)) else none
section
variable (m:Nat)(st:Store)(cs w:List Nat)(r:List (List Nat))
noncomputable def fT(cs w:List Nat)(r:List (List Nat))(o:Option D):Sl:=[some (tD cs),some (.lst ((w::r).map tD)),some (tD w),o]
theorem rf_1(hs:splitC 32 cs=w::r)(hl:cs.length<1000)(n:Nat):stepEx (rn fns (m+5) (n+20)) [some (tD cs),none,none,none] st (.set (.var 1) (.gc (.meth (.var 0) .split [(.lit (.str " "))])))=some (.nx [some (tD cs),some (.lst ((w::r).map tD)),none,none],st):=by
 have:=qjs (c:=callD fns (m+5)) (n:=n+16) (τ:=[some (tD cs),none,none,none]) (st:=st) (i:=0) (cs:=cs) qb0 rfl (by omega)
 rw[hs]at this
 simp only[stepEx,this,oBs]
 rfl
theorem rf_2(n:Nat):stepEx (rn fns (m+5) (n+20)) [some (tD cs),some (.lst ((w::r).map tD)),none,none] st (.set (.var 2) (.idx (.var 1) (.lit (.int 0))))=some (.nx (fT cs w r none),st):=by
 have x0:(rn fns (m+5) (n+20)).ev [some (tD cs),some (.lst ((w::r).map tD)),none,none] st (.idx (.var 1) (.lit (.int 0)))=some (tD w,st):=by
  show((idxD st (.lst (tD w::r.map tD)) (.int 0)).map fun d=>(d,st))=_
  rw[ixL0]; rfl
 simp only[stepEx,x0,oBs]
 rfl
theorem qdx(n:Nat):(rn fns (m+5) (n+5)).tst (fT cs w r none) st (.cmp .Eq (.var 2) (.lit (.str "vein")))=some (w==wVein,st):=by
 rw[qwd]
 exact tCmp (n:=n+4) (x:=tD w) (y:=tD wVein) rfl rfl (by show eqD st (tD w) (tD wVein)=_; exact qbb st w wVein)
theorem qec(n:Nat):evs ((rn fns (m+5) (n+5)).ev (fT cs w r none)) [(.gc (.sli (.var 1) (some (.lit (.int 1))) none))] st=some ([.lst (r.map tD)],st):=by
 have q:(rn fns (m+5) (n+5)).ev (fT cs w r none) st (.gc (.sli (.var 1) (some (.lit (.int 1))) none))=some (.lst (r.map tD),st):=gcDr (c:=callD fns (m+5)) (n:=n+2) (τ:=fT cs w r none) (st:=st) (a:=.var 1) (ws:=w::r) 1 rfl
 simp only[evs,q,oBs]
theorem qeb(n:Nat):(rn fns (m+5) (n+5)).tst (fT cs w r none) st (.gin true "ASKS" askKeys (.var 2))=some (askN w==0,st):=by
 show(rn fns (m+5) (n+5)).tst [some (tD cs),some (.lst ((w::r).map tD)),some (.str (mk w)),none] st _=_
 simp only[qzl,stepTst,ginR,ev_k,stepEv,Qqx,Qqz,oBs]
 by_cases h:askN w=0
 ·rw[ask_n h,h]; rfl
 ·rw[(qmr h).1,beq_eq_false_iff_ne.mpr h]; rfl
theorem rf_3(hw:∀ w∈r,wOk w)(hl:r.length<1000)(ha:r.all nOk=true)(n:Nat):stepEx (rn fns (m+5) (n+20)) (fT cs w r none) st (.set (.var 3) (.gc (.call 2 [(.gc (.sli (.var 1) (some (.lit (.int 1))) none))])))=some (.nx (fT cs w r (some (.lst (r.map numV)))),st):=by
 have g:(rn fns (m+5) (n+20)).ev (fT cs w r none) st (.gc (.call 2 [(.gc (.sli (.var 1) (some (.lit (.int 1))) none))]))=some (.lst (r.map numV),st):=qzb (r:=[]) (n:=n+17) (ds:=[.lst (r.map tD)]) (qec m st cs w r (n+13)) (by rw[Qqh]; exact qb9 (m:=m+2) hw hl ha) (by rw[qjg]; exact qyr _)
 simp only[stepEx,g,oBs]
 rfl
theorem qg1(h:askN w≠0)(n:Nat):(rn fns (m+5) (n+6)).tst (fT cs w r (some (.lst (r.map numV)))) st (.cmp .NotEq (.bcall .len [(.var 3)]) (.bcall .len [(.gidx "ASKS" askKeys qkd (.var 2))]))=some (!(r.length==askN w),st):=by
 obtain⟨kk,ds,hf,hd⟩:=qiz (w:=w) (by rw[(qmr h).2]; exact h)
 rw[(qmr h).2]at hd
 have gi:(rn fns (m+5) (n+5)).ev (fT cs w r (some (.lst (r.map numV)))) st (.bcall .len [(.gidx "ASKS" askKeys qkd (.var 2))])=some (.int ((askN w:Nat):Int),st):=by
  show(rn fns (m+5) (n+5)).ev [some (tD cs),some (.lst ((w::r).map tD)),some (.str (mk w)),some (.lst (r.map numV))] st _=_
  simp only[ev_k,stepEv,evs,Qqx,Qqz,oBs,hf,oMs,bfun,bLen,hd]
 have gl:(rn fns (m+5) (n+5)).ev (fT cs w r (some (.lst (r.map numV)))) st (.bcall .len [(.var 3)])=some (.int ((r.length:Nat):Int),st):=by
  show(rn fns (m+5) (n+5)).ev [some (tD cs),some (.lst ((w::r).map tD)),some (.str (mk w)),some (.lst (r.map numV))] st _=_
  simp only[ev_k,stepEv,evs,Qqx,Qqz,oBs,bfun,bLen,seqAt,oMs,Qqj]
 rw[qzl]
 simp only[stepTst,gi,gl,oBs,cmpD,neD,qqs,oMs]
 congr 3
 rw[Qq1,beq_iff_eq,beq_iff_eq]
 omega
theorem qyw(x:Nat)(cs:List Nat):∃ w r,splitC x cs=w::r:=by
 cases h:splitC x cs with
 |cons w r=>exact⟨w,r,rfl⟩
 |nil=>
  have:=qxi x cs
  rw[h,qiq]at this
  omega
variable {B:Nat}(hg:Gt B cs)(hB:B<600)
include hg hB
theorem qg0{d:D}(h:faO (splitC 32 cs)=some d):callD fns (m+6) 6 [tD cs] st=some (d,st):=by
 have hw:=qk5 hg hB
 have hn:=qk6 hg
 have hl:=hg.2
 obtain⟨w,r,hs⟩:=qyw 32 cs
 rw[hs]at h hw hn
 refine call_of (0+20) (F:=qq3) rfl rfl rfl ?_
 show exs (stepEx (rn fns (m+5) (0+20))) qqd [some (tD cs),none,none,none] st=_
 rw[b_rf,qzz (rf_1 m st cs w r hs (by omega) 0),qzz (rf_2 m st cs w r 0)]
 have hw':∀ x∈r,wOk x:=fun x h=>hw x (Qqy _ h)
 have hl':r.length<601:=by simp only[Qqv]at hn; omega
 simp only[faO]at h
 by_cases h1:w=wVein
 ·rw[if_pos h1]at h
  refine qzj ((qzk (st':=st) (by rw[qdx m st cs w r 15,beq_iff_eq.mpr h1])).trans ?_)
  rw[ex_k]
  refine qzj ?_
  simp only[stepEx]
  rw[ev_k]
  simp only[stepEv,qec m st cs w r,oBs,call_k,qgt m st r hw' hl' h,oMs]
 ·rw[if_neg h1]at h
  split at h
  ·cases h
  ·rename_i h2
   split at h
   ·rename_i h3
    rw[Qqk]at h3
    cases h
    rw[qzz (τ':=fT cs w r none) (s':=st) ((qzx (st':=st) (by rw[qdx m st cs w r 15,beq_eq_false_iff_ne.mpr h1])).trans rfl)]
    rw[qzz (τ':=fT cs w r none) (s':=st) ((qzx (st':=st) (by rw[qeb m st cs w r 15,beq_eq_false_iff_ne.mpr h2])).trans rfl)]
    rw[qzz (rf_3 m st cs w r hw' (by omega) h3.1 0)]
    rw[qzz (τ':=fT cs w r (some (.lst (r.map numV)))) (s':=st) ((qzx (st':=st) (by rw[qg1 m st cs w r h2 14,h3.2]; rfl)).trans rfl)]
    refine qzj ?_
    have hadd:∀ S,binop S .Add (.tup [tD w]) (.tup (r.map numV))=some (.tup (tD w::r.map numV),S):=fun S=>by
     simp only[binop]
     rw[if_neg (by unfold lim; simp; omega)]
     rfl
    exact stR (evB (n:=19) (a:=.tup [tD w]) (b:=.tup (r.map numV)) rfl rfl (hadd st))
   ·cases h
theorem qle(h:faO (splitC 32 cs)=none):Xc (m+6) 6 [tD cs] st st:=by
 have hw:=qk5 hg hB
 have hn:=qk6 hg
 have hl:=hg.2
 obtain⟨w,r,hs⟩:=qyw 32 cs
 rw[hs]at h hw hn
 refine qdr (F:=qq3) rfl rfl rfl rfl ?_
 show XS fns (m+5) _ [some (tD cs),none,none,none] st qqd st
 rw[b_rf]
 refine .next (0+20) (rf_1 m st cs w r hs (by omega) 0) (.next (0+20) (rf_2 m st cs w r 0) ?_)
 have hw':∀ x∈r,wOk x:=fun x h=>hw x (Qqy _ h)
 have hl':r.length<601:=by simp only[Qqv]at hn; omega
 simp only[faO]at h
 by_cases h1:w=wVein
 ·rw[if_pos h1]at h
  exact .iteT (0+20) (st1:=st) (by rw[qdx m st cs w r 15,beq_iff_eq.mpr h1]) (.ret (.call (0+20) (ds:=[.lst (r.map tD)]) (st1:=st) (qec m st cs w r 15) (qld m st r hw' hl' h)))
 ·rw[if_neg h1]at h
  refine .next (0+20) (τ1:=fT cs w r none) (st1:=st) ((qzx (st':=st) (by rw[qdx m st cs w r 15,beq_eq_false_iff_ne.mpr h1])).trans rfl) ?_
  by_cases h2:askN w=0
  ·exact .iteT (0+20) (st1:=st) (by rw[qeb m st cs w r 15,h2]; rfl) .rais
  ·rw[if_neg h2]at h
   refine .next (0+20) (τ1:=fT cs w r none) (st1:=st) ((qzx (st':=st) (by rw[qeb m st cs w r 15,beq_eq_false_iff_ne.mpr h2])).trans rfl) ?_
   cases h3:r.all nOk with
   |false=>exact .set rfl (.gc (.call (0+20) (ds:=[.lst (r.map tD)]) (st1:=st) (qec m st cs w r 15) (qea (m:=m+2) hw' (by omega) h3)))
   |true=>
    refine .next (0+20) (rf_3 m st cs w r hw' (by omega) h3 0) (.iteT (0+20) (st1:=st) ?_ .rais)
    rw[qg1 m st cs w r h2 14]
    cases h4:r.length==askN w with
    |false=>rfl
    |true=>rw[h3,h4]at h; cases h
end
theorem tOr{c:CF}{n:Nat}{τ:Sl}{st:Store}{a b:E}{x y:Bool}(ha:(runK c n).tst τ st a=some (x,st))(hb:(runK c n).tst τ st b=some (y,st)):(runK c (n+1)).tst τ st (.or a b)=some (x||y,st):=by
 rw[qzl]
 simp only[stepTst,ha,oBs]
 cases x
 ·exact hb
 ·rfl
theorem tOrT{c:CF}{n:Nat}{τ:Sl}{st:Store}{a b:E}(ha:(runK c n).tst τ st a=some (true,st)):(runK c (n+1)).tst τ st (.or a b)=some (true,st):=by
 rw[qzl]
 simp only[stepTst,ha,oBs]
 rfl
theorem any_map{α:Type}(xs:List α)(p:α→Bool)(S:Store):bAny S [.lst (xs.map fun x=>.bl (p x))]=some (.bl (xs.any p),S):=by
 have e1:∀ xs:List α,asBools (xs.map fun x=>D.bl (p x))=some (xs.map p):=fun xs=>by
  induction xs with
  |nil=>rfl
  |cons x r ih=>simp only[Qqt,asBools,ih,oMs]
 show((asBools (xs.map fun x=>D.bl (p x))).map fun bs=>(D.bl (bs.any id),S))=_
 rw[e1,oMs,List.any_map]
 rfl
noncomputable def fgD(c:Nat):D:=.int (findC digs c)
noncomputable def qh6:List S:=[.expr (.meth (.var 1) .append [(.meth (.lit (.str "0123456789")) .find [(.var 2)])])]
noncomputable def qgf:List S:=[.set (.var 5) (.gc (.call 23 [(.gc (.meth (.var 4) .split [(.lit (.str ","))]))])),.ite (.or (.cmp .Is (.var 5) (.lit .non)) (.cmp .NotEq (.bcall .len [(.var 5)]) (.lit (.int 2)))) [.ret (.lit .non)] [],.expr (.meth (.var 3) .append [(.bcall .tuple [(.var 5)])])]
noncomputable def lv0:E:=.or (.cmp .Lt (.bcall .len [(.var 0)]) (.lit (.int 3))) (.cmp .Eq (.idx (.var 0) (.lit (.int 1))) (.lit (.str "")))
noncomputable def lv1:S:=.ite (.cmp .NotEq (.idx (.var 0) (.lit (.int 1))) (.lit (.str "-"))) [.forr (.var 2) (.idx (.var 0) (.lit (.int 1))) qh6] []
noncomputable def lv2:S:=.forr (.var 4) (.gc (.sli (.var 0) (some (.lit (.int 2))) none)) qgf
noncomputable def lv3:E:=.bcall .any [(.gc (.comp (.var 0) (.var 1) none (.cmp .Lt (.var 0) (.lit (.int 0))) [none]))]
theorem b_lv:qz4=[.ite lv0 [.ret (.lit .non)] [],.set (.var 1) (.lst []),lv1,.set (.var 3) (.lst []),lv2,.ite lv3 [.ret (.lit .non)] [],.ret (.tup [(.lit (.str "vein")),(.bcall .tuple [(.var 1)]),(.bcall .tuple [(.var 3)])])]:=rfl
section
variable (m:Nat)(st:Store)
theorem qif(r:List (List Nat))(τ:Sl)(h0:τ[0]?=some (some (.lst ((wVein::r).map tD))))(n:Nat):(rn fns (m+2) (n+5)).tst τ st (.cmp .Lt (.bcall .len [(.var 0)]) (.lit (.int 3)))=some (decide (r.length<2),st):=by
 have ln:∀ S,bLen S [.lst ((wVein::r).map tD)]=some (.int ((r.length+1:Nat):Int),S):=fun S=>by simp only[bLen,seqAt,oMs,Qqj,Qqv]
 simp only[qzl,stepTst,ev_k,stepEv,evs,h0,oBs,bfun,ln,cmpD,oMs]
 congr 2
 rw[Qq1,decide_eq_true_iff,decide_eq_true_iff]
 omega
variable (s:List Nat)(cs:List (List Nat))(hs:wOk s)(hw:∀ w∈cs,wOk w)(hl:cs.length<601)
noncomputable abbrev lW(s:List Nat)(cs:List (List Nat)):D:=.lst ((wVein::s::cs).map tD)
theorem qmj(S:Store)(τ:Sl)(h0:τ[0]?=some (some (lW s cs)))(n:Nat):(rn fns (m+2) (n+3)).ev τ S (.idx (.var 0) (.lit (.int 1)))=some (tD s,S):=by
 have i1:idxD S (lW s cs) (.int 1)=some (tD s):=by
  show atI ((wVein::s::cs).map tD) 1=_
  unfold atI ixN
  rw[if_pos (by decide),if_pos (by simp; omega)]
  rfl
 exact evX (n:=n+2) (x:=lW s cs) (y:=.int 1) (qww h0) rfl i1
theorem lv_t0(τ:Sl)(h0:τ[0]?=some (some (lW s cs)))(hc:cs≠[])(n:Nat):(rn fns (m+2) (n+10)).tst τ st lv0=some (s==[],st):=by
 have a:=qif m st (s::cs) τ h0 (n+4)
 have hp:=List.length_pos_iff.mpr hc
 rw[decide_eq_false (by simp only[Qqv]; omega)]at a
 have b:(rn fns (m+2) (n+9)).tst τ st (.cmp .Eq (.idx (.var 0) (.lit (.int 1))) (.lit (.str "")))=some (s==[],st):=tCmp (n:=n+8) (x:=tD s) (y:=tD []) (qmj m s cs st τ h0 (n+5)) (by rw[te]; rfl) (by show eqD st (tD s) (tD [])=_; exact qbb st s [])
 exact tOr a b
theorem turn1(acc:List D)(c:Nat)(x:D)(a b d:Option D)(hacc:acc.length<1000):(rn fns (m+2) 33).ex [some x,some (.loc st.length),some (sgn c),a,b,d] (st++[.lst true acc]) qh6=some (.nx [some x,some (.loc st.length),some (sgn c),a,b,d],st++[.lst true (acc++[fgD c])]):=by
 rw[ex_k]
 unfold qh6
 have fi:∀ S,mFind S (.str (mk digs)) [sgn c]=some (fgD c,S):=fun S=>rfl
 have my:∀ S,mty S .find (.str (mk digs))=true:=fun S=>rfl
 have e:(rn fns (m+2) 31).ev [some x,some (.loc st.length),some (sgn c),a,b,d] (st++[.lst true acc]) (.meth (.lit (.str "0123456789")) .find [(.var 2)])=some (fgD c,st++[.lst true acc]):=by
  rw[td]
  simp only[ev_k,stepEv,my,if_true,evs,Qqx,Qqz,oBs,mfun,fi]
 have ap:=qbs (c:=callD fns (m+2)) (n:=31) (i:=1) (τ:=[some x,some (.loc st.length),some (sgn c),a,b,d]) (st:=st) (ds:=acc) (d:=fgD c) rfl e hacc (by decide)
 rw[qzz (τ':=[some x,some (.loc st.length),some (sgn c),a,b,d]) (s':=st++[.lst true (acc++[fgD c])]) (by
  show((rn fns (m+2) 32).ev _ _ _).map _=_
  rw[ap]
  rfl)]
 rfl
include hs
theorem lv_1:∃ y,stepEx (rn fns (m+2) (0+34)) [some (lW s cs),some (.loc st.length),none,none,none,none] (st++[.lst true []]) lv1=some (.nx [some (lW s cs),some (.loc st.length),y,none,none,none],st++[.lst true (if s=[45] then [] else s.map fgD)]):=by
 have t1:(rn fns (m+2) (0+34)).tst [some (lW s cs),some (.loc st.length),none,none,none,none] (st++[.lst true []]) (.cmp .NotEq (.idx (.var 0) (.lit (.int 1))) (.lit (.str "-")))=some (!(s==[45]),st++[.lst true []]):=tCmp (n:=33) (x:=tD s) (y:=tD [45]) (qmj m s cs _ _ rfl 30) (by rw[qi2]; rfl) (by
  show neD _ (tD s) (tD [45])=_
  unfold neD
  rw[qbb]
  rfl)
 by_cases h:s=[45]
 ·refine⟨none,(qzx (st':=st++[.lst true []]) (by rw[t1,h]; rfl)).trans ?_⟩
  rw[if_pos h]
  rfl
 ·rw[if_neg h]
  obtain⟨τ',S',⟨rfl,y,rfl⟩,el⟩:=qxo (ds:=s.map sgn) (s:=.str (mk s)) (f:=fun τ S dd=>(setT (.var 2) dd τ).bind fun τ'=>(rn fns (m+2) 33).ex τ' S qh6) (τ:=[some (lW s cs),some (.loc st.length),none,none,none,none]) (st:=st++[.lst true []]) (fun i τ S=>S=st++[.lst true ((s.take i).map fgD)]∧∃ y,τ=[some (lW s cs),some (.loc st.length),y,none,none,none]) (fun i τ S _=>qvp _ _ _) (fun i τ S dd hi hd p=>by
   obtain⟨rfl,y,rfl⟩:=p
   rw[Qqn]at hd
   obtain⟨c,hc,e⟩:=Qzx.mp hd
   subst e
   refine⟨_,_,turn1 m st ((s.take i).map fgD) c (lW s cs) none none none (by have:=hs.2; simp; omega),?_,_,rfl⟩
   rw[Qxm,hc,Qzu]
   rfl) ⟨rfl,none,rfl⟩
  refine⟨y,(qzk (st':=st++[.lst true []]) (by rw[t1,beq_eq_false_iff_ne.mpr h]; rfl)).trans ?_⟩
  rw[ex_k]
  have i1:=qmj m s cs (st++[.lst true []]) [some (lW s cs),some (.loc st.length),none,none,none,none] rfl
  have hsrc:∀ n,src (rn fns (m+2) (n+3)) [some (lW s cs),some (.loc st.length),none,none,none,none] (st++[.lst true []]) (.idx (.var 0) (.lit (.int 1)))=some (.str (mk s),st++[.lst true []]):=fun n=>by
   simp only[src,i1,oBs]
   show(if (mk s).cps.all (· < 128) then some (Src.str (mk s),st++[.lst true []]) else none)=_
   rw[if_pos (qji hs.1)]
  rw[Qqj,List.take_length]at el
  refine(qzz (τ':=[some (lW s cs),some (.loc st.length),y,none,none,none]) (s':=st++[.lst true (s.map fgD)]) ?_).trans rfl
  have h30:src (runK (callD fns (m+2)) 33) [some (lW s cs),some (.loc st.length),none,none,none,none] (st++[.lst true []]) (.idx (.var 0) (.lit (.int 1)))=some (.str (mk s),st++[.lst true []]):=hsrc 30
  simp only[stepEx,h30,oBs]
  rw[show Src.size (st++[.lst true []]) (.str (mk s))=s.length by simp[Src.size,qx7]]
  exact el
omit hs
theorem turn2(acc:List D)(w:List Nat)(hw:wOk w)(x a b d:Option D)(hacc:acc.length<1000):(rn fns (m+2) (0+34)).ex [x,a,b,some (.loc st.length),some (tD w),d] (st++[.lst true acc]) qgf=some (if clOk w=true then(.nx [x,a,b,some (.loc st.length),some (tD w),some (qz1 (splitC 44 w))],st++[.lst true (acc++[clV w])]) else(.rt .non,st++[.lst true acc])):=by
 rw[ex_k]
 unfold qgf
 generalize hS:st++[Cell.lst true acc]=S
 have sp:evs ((rn fns (m+2) 31).ev [x,a,b,some (.loc st.length),some (tD w),d]) [(.gc (.meth (.var 4) .split [(.lit (.str ","))]))] S=some ([.lst ((splitC 44 w).map tD)],S):=by
  simp only[evs,qjs (c:=callD fns (m+2)) (n:=27) (τ:=[x,a,b,some (.loc st.length),some (tD w),d]) (st:=S) (i:=4) (cs:=w) qds rfl (by have:=hw.2; omega),oBs]
 have g1:(rn fns (m+2) 33).ev [x,a,b,some (.loc st.length),some (tD w),d] S (.gc (.call 23 [(.gc (.meth (.var 4) .split [(.lit (.str ","))]))]))=some (qz1 (splitC 44 w),S):=qzb (r:=[]) (n:=30) (ds:=[.lst ((splitC 44 w).map tD)]) sp (by rw[Qqh]; exact qw0 (m:=m) (qlk hw) (by have:=qgr (x:=44) hw; omega)) (qwr _)
 rw[qzz (τ':=[x,a,b,some (.loc st.length),some (tD w),some (qz1 (splitC 44 w))]) (s':=S) (by simp only[stepEx,g1,oBs]; rfl)]
 have t1:(rn fns (m+2) 33).tst [x,a,b,some (.loc st.length),some (tD w),some (qz1 (splitC 44 w))] S (.or (.cmp .Is (.var 5) (.lit .non)) (.cmp .NotEq (.bcall .len [(.var 5)]) (.lit (.int 2))))=some (!clOk w,S):=by
  unfold clOk qz1
  cases ha:(splitC 44 w).all nOk with
  |false=>exact tOrT rfl
  |true=>
   have ln:∀ S,bLen S [.lst ((splitC 44 w).map numV)]=some (.int (((splitC 44 w).length:Nat):Int),S):=fun S=>by simp only[bLen,seqAt,oMs,Qqj]
   refine tOr (x:=false) (y:=!((splitC 44 w).length==2)) rfl ?_
   simp only[if_true,qzl,stepTst,ev_k,stepEv,evs,Qqx,Qqz,oBs,bfun,ln,cmpD,neD,qqs,oMs]
   congr 3
   rw[Qq1,beq_iff_eq,beq_iff_eq]
   omega
 cases hc:clOk w with
 |false=>
  rw[hc]at t1
  refine qzj ((qzk (st':=S) t1).trans ?_)
  rw[ex_k]
  exact qzj rfl
 |true=>
  rw[hc]at t1
  rw[qzz (τ':=[x,a,b,some (.loc st.length),some (tD w),some (qz1 (splitC 44 w))]) (s':=S) ((qzx (st':=S) t1).trans rfl)]
  have hn:qz1 (splitC 44 w)=.lst ((splitC 44 w).map numV):=by
   unfold clOk at hc
   rw[Qqk]at hc
   unfold qz1
   rw[if_pos hc.1]
  subst hS
  have e:(rn fns (m+2) 32).ev [x,a,b,some (.loc st.length),some (tD w),some (qz1 (splitC 44 w))] (st++[.lst true acc]) (.bcall .tuple [(.var 5)])=some (clV w,st++[.lst true acc]):=by rw[hn]; rfl
  have ap:=qbs (c:=callD fns (m+2)) (n:=32) (i:=3) (τ:=[x,a,b,some (.loc st.length),some (tD w),some (qz1 (splitC 44 w))]) (st:=st) (ds:=acc) (d:=clV w) rfl e hacc (by decide)
  rw[qzz (τ':=[x,a,b,some (.loc st.length),some (tD w),some (qz1 (splitC 44 w))]) (s':=st++[.lst true (acc++[clV w])]) (by
   show((rn fns (m+2) 33).ev _ _ _).map _=_
   rw[ap]
   rfl)]
  rfl
end
section
variable (m:Nat)(st:Store)(s:List Nat)(cs:List (List Nat))(hs:wOk s)(hw:∀ w∈cs,wOk w)(hl:cs.length<601)
noncomputable def vF(m:Nat):Sl→Store→D→Option (Out×Store):=fun τ S d=>(setT (.var 4) d τ).bind fun τ'=>(rn fns (m+2) (0+34)).ex τ' S qgf
def vP(s:List Nat)(cs:List (List Nat))(a b:Option D)(st:Store)(i:Nat)(τ:Sl)(S:Store):Prop:=S=st++[.lst true ((cs.take i).map clV)]∧∃ y z,τ=[some (lW s cs),a,b,some (.loc st.length),y,z]
include hw hl
theorem qd0(a b:Option D)(i:Nat)(τ:Sl)(S:Store)(d:D)(p:vP s cs a b st i τ S)(hd:(cs.map tD)[i]?=some d):∃ w,cs[i]?=some w∧vF m τ S d=some (if clOk w=true then(.nx [some (lW s cs),a,b,some (.loc st.length),some (tD w),some (qz1 (splitC 44 w))],st++[.lst true ((cs.take (i+1)).map clV)]) else(.rt .non,st++[.lst true ((cs.take i).map clV)])):=by
 obtain⟨rfl,y,z,rfl⟩:=p
 rw[Qqn]at hd
 obtain⟨w,hc,e⟩:=Qzx.mp hd
 subst e
 refine⟨w,hc,?_⟩
 have:=turn2 m st ((cs.take i).map clV) w (hw w (Qzb hc)) (some (lW s cs)) a b z (by simp; omega)
 show(rn fns (m+2) (0+34)).ex [some (lW s cs),a,b,some (.loc st.length),some (tD w),z] _ qgf=_
 refine this.trans ?_
 rw[Qxm,hc,Qzu]
 rfl
theorem lv_2(a b:Option D):∃ Z,stepEx (rn fns (m+2) (0+34)) [some (lW s cs),a,b,some (.loc st.length),none,none] (st++[.lst true []]) lv2=some Z∧((cs.all clOk=true∧∃ y z,Z=(.nx [some (lW s cs),a,b,some (.loc st.length),y,z],st++[.lst true (cs.map clV)]))∨(cs.all clOk=false∧∃ r,Z=(.rt .non,st++r))):=by
 have unf:∀ Z,loop (.lst (.lst (cs.map tD))) (vF m) ((cs.map tD).length+1) 0 [some (lW s cs),a,b,some (.loc st.length),none,none] (st++[.lst true []])=some Z→stepEx (rn fns (m+2) (0+34)) [some (lW s cs),a,b,some (.loc st.length),none,none] (st++[.lst true []]) lv2=some Z:=fun Z e=>by
  have q:(rn fns (m+2) (0+34)).ev [some (lW s cs),a,b,some (.loc st.length),none,none] (st++[.lst true []]) (.gc (.sli (.var 0) (some (.lit (.int 2))) none))=some (.lst (cs.map tD),st++[.lst true []]):=gcDr (c:=callD fns (m+2)) (n:=31) (τ:=[some (lW s cs),a,b,some (.loc st.length),none,none]) (st:=st++[.lst true []]) (a:=.var 0) (ws:=wVein::s::cs) 2 rfl
  have sr:src (rn fns (m+2) (0+34)) [some (lW s cs),a,b,some (.loc st.length),none,none] (st++[.lst true []]) (.gc (.sli (.var 0) (some (.lit (.int 2))) none))=some (.lst (.lst (cs.map tD)),st++[.lst true []]):=by
   simp only[src,q]
   rfl
  unfold lv2
  simp only[stepEx,sr,oBs]
  exact e
 cases ha:cs.all clOk with
 |true=>
  obtain⟨τ',st',⟨rfl,y,z,rfl⟩,e⟩:=qxo (ds:=cs.map tD) (s:=.lst (.lst (cs.map tD))) (f:=vF m) (τ:=[some (lW s cs),a,b,some (.loc st.length),none,none]) (st:=st++[.lst true []]) (vP s cs a b st) (fun i τ S _=>qxg _ _) (fun i τ S d hi hd p=>by
   obtain⟨o,ho,q⟩:=qd0 m st s cs hw hl a b i τ S d p hd
   rw[q,if_pos (Qq3.mp ha o (Qzb ho))]
   exact⟨_,_,rfl,rfl,_,_,rfl⟩) ⟨rfl,none,none,rfl⟩
  refine⟨_,unf _ e,.inl ⟨rfl,y,z,?_⟩⟩
  rw[Qqj,Qzz (Qqc _)]
 |false=>
  obtain⟨i0,o0,hi0,hb0,hp⟩:=qjt clOk cs ha
  obtain⟨st',rfl,e⟩:=qfw (ds:=cs.map tD) (s:=.lst (.lst (cs.map tD))) (f:=vF m) (i0:=i0) (τ:=[some (lW s cs),a,b,some (.loc st.length),none,none]) (st:=st++[.lst true []]) (vP s cs a b st) (fun S=>S=st++[.lst true ((cs.take i0).map clV)]) .non (fun i τ S _=>qxg _ _) (by rw[Qqj]; exact(Qqd.mp hi0).1) (fun i τ S d hi hd p=>by
   obtain⟨o,ho,q⟩:=qd0 m st s cs hw hl a b i τ S d p hd
   rw[q,if_pos (hp i o hi ho)]
   exact⟨_,_,rfl,rfl,_,_,rfl⟩) (fun τ S d hd p=>by
   obtain⟨o,ho,q⟩:=qd0 m st s cs hw hl a b i0 τ S d p hd
   rw[hi0]at ho
   cases ho
   rw[q,if_neg (by rw[hb0]; exact Qqg)]
   exact⟨_,rfl,rfl⟩) ⟨rfl,none,none,rfl⟩
  exact⟨_,unf _ e,.inr ⟨rfl,_,rfl⟩⟩
end
theorem lv_3(m n l:Nat)(S:Store)(τ:Sl)(xs:List Nat)(h1:τ[1]?=some (some (.loc l)))(hq:seqAt S (.loc l)=some (xs.map fgD))(hl:xs.length<1000):(rn fns (m+2) (n+20)).tst τ S lv3=some (xs.any fun c=>!isFig c,S):=by
 have c1:(rn fns (m+2) (n+18)).ev τ S (.gc (.comp (.var 0) (.var 1) none (.cmp .Lt (.var 0) (.lit (.int 0))) [none]))=some (.lst (xs.map fun c=>.bl (!isFig c)),S):=by
  refine qqw (n:=n+16) (s:=.lst (.loc l)) (rest:=[]) xs fgD (fun c=>.bl (!isFig c)) ?_ (fun i=>?_) ?_ rfl (by omega) (fun _ _=>rfl) fun c hc=>?_
  ·show((rn fns (m+2) (n+16)).ev τ S (.var 1)).bind _=_
   rw[show(rn fns (m+2) (n+16)).ev τ S (.var 1)=some (.loc l,S) from qww h1]
   show(seqAt S (.loc l)).map _=_
   rw[hq]
   rfl
  ·show(seqAt S (.loc l)).map _=_
   rw[hq]
   rfl
  ·show((seqAt S (.loc l)).getD []).length=_
   rw[hq]
   simp
  ·show(rn fns (m+2) (n+16)).ev [some (.int (findC digs c))] S (.cmp .Lt (.var 0) (.lit (.int 0)))=_
   have e:decide (findC digs c<0) = !isFig c:=by
    cases h:isFig c with
    |true=>rw[qfp h,decide_eq_false (by omega)]; rfl
    |false=>rw[qip h]; rfl
   simp only[ev_k,stepEv,Qqz,oBs,cmpD,oMs,e]
 unfold lv3
 rw[qzl]
 simp only[stepTst]
 rw[ev_k]
 simp only[stepEv,evs,c1,oBs,bfun,any_map,truth,oMs]
theorem qcy(m:Nat)(st:Store)(r:List (List Nat))(hw:∀ w∈r,wOk w)(hl:r.length<601):∃ rr,callD fns (m+3) 24 [.lst ((wVein::r).map tD)] st=some ((veO r).getD .non,st++rr):=by
 have key:∀ d rr,exs (stepEx (rn fns (m+2) (0+34))) qz4 [some (.lst ((wVein::r).map tD)),none,none,none,none,none] st=some (.rt d,st++rr)→∃ rr,callD fns (m+3) 24 [.lst ((wVein::r).map tD)] st=some (d,st++rr):=fun d rr h=>⟨rr,call_of (0+34) (F:=qqa) rfl rfl rfl h⟩
 rw[b_lv]at key
 by_cases h2:r.length<2
 ·have hv:veO r=none:=by
   match r,h2 with
   |[],_=>rfl
   |[_],_=>rfl
  rw[hv]
  refine key _ [] ?_
  rw[Qqh]
  refine qzj ((qzk (st':=st) (tOrT (n:=33) (by rw[qif m st r _ rfl 28,decide_eq_true h2]))).trans ?_)
  rw[ex_k]
  exact qzj rfl
 ·obtain⟨s,c,cs,rfl⟩:∃ s c cs,r=s::c::cs:=by
   match r,h2 with
   |[],h2=>exact absurd (by simp) h2
   |[_],h2=>exact absurd (by simp) h2
   |s::c::cs,_=>exact⟨s,c,cs,rfl⟩
  have hs:=hw s Qqe
  have hw':∀ w∈c::cs,wOk w:=fun w h=>hw w (Qqy _ h)
  have hl':(c::cs).length<601:=by simp only[Qqv]at hl ⊢; omega
  have t0:=lv_t0 m st s (c::cs) [some (lW s (c::cs)),none,none,none,none,none] rfl (by simp) 24
  by_cases he:s=[]
  ·have hv:veO (s::c::cs)=none:=by
    simp only[veO]
    split
    ·rw[he]; rfl
    ·rfl
   rw[hv]
   refine key _ [] ?_
   rw[Qqh]
   refine qzj ((qzk (st':=st) (t0.trans (by rw[he]; rfl))).trans ?_)
   rw[ex_k]
   exact qzj rfl
  ·have s0:stepEx (rn fns (m+2) (0+34)) [some (lW s (c::cs)),none,none,none,none,none] st (.ite lv0 [.ret (.lit .non)] [])=some (.nx [some (lW s (c::cs)),none,none,none,none,none],st):=(qzx (st':=st) (t0.trans (by rw[beq_eq_false_iff_ne.mpr he]))).trans rfl
   have s1:stepEx (rn fns (m+2) (0+34)) [some (lW s (c::cs)),none,none,none,none,none] st (.set (.var 1) (.lst []))=some (.nx [some (lW s (c::cs)),some (.loc st.length),none,none,none,none],st++[.lst true []]):=rfl
   obtain⟨y,s2⟩:=lv_1 m st s (c::cs) hs
   obtain⟨xs,hxs⟩:∃ xs:List Nat,(if s=[45] then [] else s.map fgD)=xs.map fgD∧xs=if s=[45] then [] else s:=by
    by_cases h:s=[45]
    ·exact⟨[],by rw[if_pos h,if_pos h]; exact⟨rfl,rfl⟩⟩
    ·exact⟨s,by rw[if_neg h,if_neg h]; exact⟨rfl,rfl⟩⟩
   rw[hxs.1]at s2
   have hxl:xs.length<1000:=by rw[hxs.2]; have:=hs.2; split<;>simp<;>omega
   generalize hS:st++[Cell.lst true (xs.map fgD)]=S1 at s2
   have s3:stepEx (rn fns (m+2) (0+34)) [some (lW s (c::cs)),some (.loc st.length),y,none,none,none] S1 (.set (.var 3) (.lst []))=some (.nx [some (lW s (c::cs)),some (.loc st.length),y,some (.loc S1.length),none,none],S1++[.lst true []]):=rfl
   obtain⟨Z,e,⟨ha,y',z',rfl⟩|⟨ha,rr,rfl⟩⟩:=lv_2 m S1 s (c::cs) hw' hl' (some (.loc st.length)) y
   ·generalize hS2:S1++[Cell.lst true ((c::cs).map clV)]=S2 at e
    have q1:seqAt S2 (.loc st.length)=some (xs.map fgD):=by rw[← hS2,← hS,Qxn]; exact qek _ _ _ _
    have q3:seqAt S2 (.loc S1.length)=some ((c::cs).map clV):=by rw[← hS2]; exact qwl _ _ _
    have t3:=lv_3 m 14 st.length S2 [some (lW s (c::cs)),some (.loc st.length),y,some (.loc S1.length),y',z'] xs rfl q1 hxl
    have hS3:S2=st++[.lst true (xs.map fgD),.lst true ((c::cs).map clV)]:=by rw[← hS2,← hS,Qxn]; rfl
    cases hf:xs.any fun c=>!isFig c with
    |true=>
     have hv:veO (s::c::cs)=none:=by
      simp only[veO,ha,if_true]
      have:stV s=none:=by
       unfold stV
       by_cases h:s=[45]
       ·have hx2:=hxs.2; rw[if_pos h]at hx2; rw[hx2]at hf; cases hf
       ·have hx2:=hxs.2
        rw[if_neg h]at hx2
        rw[if_neg h,if_neg]
        rw[← hx2]
        intro z
        rw[Qqk]at z
        obtain⟨c0,h1,h2⟩:=Qzs.mp hf
        rw[Qq3.mp z.2 c0 h1]at h2
        cases h2
      rw[this]; rfl
     rw[hv]
     refine key _ [.lst true (xs.map fgD),.lst true ((c::cs).map clV)] ?_
     rw[qzz s0,qzz s1,qzz s2,qzz s3]
     refine(qzz e).trans ?_
     rw[← hS3]
     refine qzj ((qzk (st':=S2) (t3.trans (by rw[hf]))).trans ?_)
     rw[ex_k]
     exact qzj rfl
    |false=>
     have hall:∀ c0∈xs,isFig c0=true:=fun c0 h=>by
      cases h1:isFig c0 with
      |true=>rfl
      |false=>
       have:(xs.any fun c=>!isFig c)=true:=Qzs.mpr ⟨c0,h,by rw[h1]; rfl⟩
       rw[hf]at this
       cases this
     have hv:veO (s::c::cs)=some (.tup [tD wVein,.tup (xs.map fgD),.tup ((c::cs).map clV)]):=by
      simp only[veO,ha,if_true]
      have e3:xs.map fgD=(xs.map (· - 48)).map iD:=by
       rw[Qq6]
       refine Qxd fun c0 h=>?_
       show D.int (findC digs c0)=_
       rw[qfp (hall c0 h)]
       rfl
      have:stV s=some (xs.map (· - 48)):=by
       unfold stV
       by_cases h:s=[45]
       ·have hx2:=hxs.2; rw[if_pos h]at hx2; rw[hx2,if_pos h]; rfl
       ·have hx2:=hxs.2
        rw[if_neg h]at hx2
        subst hx2
        rw[if_neg h,if_pos]
        rw[Qqk]
        refine⟨?_,Qq3.mpr hall⟩
        cases xs with
        |nil=>exact absurd rfl he
        |cons a b=>rfl
      rw[this,e3]; rfl
     rw[hv]
     refine key _ [.lst true (xs.map fgD),.lst true ((c::cs).map clV)] ?_
     rw[qzz s0,qzz s1,qzz s2,qzz s3]
     refine(qzz e).trans ?_
     rw[← hS3]
     refine(qzz (τ':=[some (lW s (c::cs)),some (.loc st.length),y,some (.loc S1.length),y',z']) (s':=S2) ((qzx (st':=S2) (t3.trans (by rw[hf]))).trans rfl)).trans ?_
     refine qzj ?_
     have b1:∀ n,(rn fns (m+2) (n+2)).ev [some (lW s (c::cs)),some (.loc st.length),y,some (.loc S1.length),y',z'] S2 (.bcall .tuple [(.var 1)])=some (.tup (xs.map fgD),S2):=fun n=>by
      simp only[ev_k,stepEv,evs,Qqx,Qqz,oBs,bfun,bTuple,q1,oMs]
     have b3:∀ n,(rn fns (m+2) (n+2)).ev [some (lW s (c::cs)),some (.loc st.length),y,some (.loc S1.length),y',z'] S2 (.bcall .tuple [(.var 3)])=some (.tup ((c::cs).map clV),S2):=fun n=>by
      simp only[ev_k,stepEv,evs,Qqx,Qqz,oBs,bfun,bTuple,q3,oMs]
     have b0:∀ n,(rn fns (m+2) (n+1)).ev [some (lW s (c::cs)),some (.loc st.length),y,some (.loc S1.length),y',z'] S2 (.lit (.str "vein"))=some (tD wVein,S2):=fun n=>by rw[qwd]; rfl
     refine stR (n:=0+34) ?_
     rw[ev_k]
     simp only[stepEv,evs,b0,b1,b3,oBs]
     rfl
   ·have hv:veO (s::c::cs)=none:=by simp only[veO,ha,Qq0,if_false]
    rw[hv]
    refine key _ (Cell.lst true (xs.map fgD)::rr) ?_
    rw[qzz s0,qzz s1,qzz s2,qzz s3]
    refine(qzj e).trans ?_
    rw[← hS,Qxn]
    rfl
noncomputable def bDay:D:=.tup [.int 1,.int 400]
noncomputable def qx5:D:=.tup [.int 1,.int 40]
noncomputable def qxf:D:=.tup [.int 1,.int (10 ^ 6)]
noncomputable def bX:D:=.tup [.int 0,.int 0]
noncomputable def bOne:D:=.tup [.int 1,.int 1]
noncomputable def bL:List (List D):=[[bDay,bDay,bOne],[qx5,bX,bX,bX,bX],[bDay],[bDay,qx5],[bDay,.tup [.int 0,.int 1],.tup [.int 1,.int 23],qx5],[bDay],[qx5,bX,bX,bX,bX,.tup [.int 0,.int 1],qxf],[qx5,qx5,qxf]]
noncomputable def qwp:Nat→List (List Nat×Nat)→List (D×D)
 |_,[]=>[]
 |n,p::L=>(tD p.1,.loc n)::qwp (n+1) L
theorem qak(x:List Nat):∀ (L:List (List Nat×Nat)) (n:Nat),(L.find? (fun p=>p.1==x)=none∧dget (qwp n L) (tD x)=none)∨∃ p i,L.find? (fun p=>p.1==x)=some p∧L[i]?=some p∧dget (qwp n L) (tD x)=some (.loc (n+i))
 |[],n=>.inl ⟨rfl,rfl⟩
 |q::L,n=>by
  have eq_:eqT (tD q.1) (tD x)=(q.1==x):=qvq q.1 x
  by_cases h:q.1=x
  ·refine .inr ⟨q,0,?_,rfl,?_⟩
   ·rw[Qx3 (by simpa using h)]
   ·have e:eqT (tD q.1) (tD x)=true:=by rw[eq_]; simpa using h
    unfold dget qwp
    rw[Qx3 (by exact e)]; rfl
  ·have f:List.find? (fun p=>p.1==x) (q::L)=List.find? (fun p=>p.1==x) L:=Qx4 (by simpa using h)
   have e:eqT (tD q.1) (tD x)=false:=by rw[eq_]; simpa using h
   have g:dget (qwp n (q::L)) (tD x)=dget (qwp (n+1) L) (tD x):=by
    unfold dget
    rw[qwp,Qx4 (by show ¬ eqT (tD q.1) (tD x)=true; rw[e]; simp)]
   rw[f,g]
   rcases qak x L (n+1) with h|⟨p,i,h1,h2,h3⟩
   ·exact .inl h
   ·exact .inr ⟨p,i+1,h1,by simpa using h2,by rw[h3]; congr 2; omega⟩
noncomputable def bSk(k:Nat):Store:=.dic (qwp 1 (wordsN.take k))::(bL.take k).map (.lst true)
noncomputable abbrev bnT(w:List Nat)(a b c d e f:Option D):Sl:=[some (zD 1 1 1),some (tD w),a,b,c,d,e,f]
theorem bd_run(m:Nat)(w:List Nat):callD fns (m+1) 20 [zD 1 1 1,tD w] []=some ((dget (qwp 1 wordsN) (tD w)).getD .non,bSk 8):=by
 refine call_of (0+20) (F:=qxd) rfl rfl rfl ?_
 show exs (stepEx (rn fns m (0+20))) qql (bnT w none none none none none none) []=_
 unfold qql
 rw[xJoin,qbu,xWork,xSell,qi1,xGive,xDig,xPay]
 rw[qzz (τ':=bnT w (some bDay) none none none none none) (s':=[]) rfl]
 rw[qzz (τ':=bnT w (some bDay) (some qx5) none none none none) (s':=[]) rfl]
 rw[qzz (τ':=bnT w (some bDay) (some qx5) (some qxf) none none none) (s':=[]) rfl]
 rw[qzz (τ':=bnT w (some bDay) (some qx5) (some qxf) (some bX) none none) (s':=[]) rfl]
 rw[qzz (τ':=bnT w (some bDay) (some qx5) (some qxf) (some bX) (some bX) none) (s':=[]) rfl]
 rw[qzz (τ':=bnT w (some bDay) (some qx5) (some qxf) (some bX) (some bX) (some (.loc 0))) (s':=bSk 3) rfl]
 rw[qzz (τ':=bnT w (some bDay) (some qx5) (some qxf) (some bX) (some bX) (some (.loc 0))) (s':=bSk 4) rfl]
 rw[qzz (τ':=bnT w (some bDay) (some qx5) (some qxf) (some bX) (some bX) (some (.loc 0))) (s':=bSk 5) rfl]
 rw[qzz (τ':=bnT w (some bDay) (some qx5) (some qxf) (some bX) (some bX) (some (.loc 0))) (s':=bSk 6) rfl]
 rw[qzz (τ':=bnT w (some bDay) (some qx5) (some qxf) (some bX) (some bX) (some (.loc 0))) (s':=bSk 7) rfl]
 rw[qzz (τ':=bnT w (some bDay) (some qx5) (some qxf) (some bX) (some bX) (some (.loc 0))) (s':=bSk 8) rfl]
 exact qzj rfl
theorem bd_ok(m:Nat)(w:List Nat):(askN w=0∧callD fns (m+1) 20 [zD 1 1 1,tD w] []=some (.non,bSk 8))∨(askN w≠0∧∃ i ds,callD fns (m+1) 20 [zD 1 1 1,tD w] []=some (.loc (1+i),bSk 8)∧(bSk 8)[1+i]?=some (.lst true ds)∧noLocs ds=true∧ds.length=askN w):=by
 have e:=bd_run m w
 rcases qak w wordsN 1 with⟨h1,h2⟩|⟨p,i,h1,h2,h3⟩
 ·rw[h2]at e
  exact .inl ⟨by unfold askN; rw[h1]; rfl,e⟩
 ·rw[h3]at e
  have hp:askN w=p.2:=by unfold askN; rw[h1]; rfl
  refine .inr ⟨by rw[hp]; exact(qwe p (Qz9 h1)).2.2,i,?_⟩
  rw[hp]
  clear h1 h3 hp
  rcases i with _|_|_|_|_|_|_|_|i
  all_goals first|(cases h2; exact⟨_,e,rfl,rfl,rfl⟩)|skip
  cases h2
section
variable (m:Nat)(w:List Nat)(r:List (List Nat))
noncomputable abbrev lrT(w:List Nat)(r:List (List Nat))(a b:Option D):Sl:=[some (.lst ((w::r).map tD)),a,b]
theorem lr_i(S:Store)(a b:Option D)(n:Nat):(rn fns (m+3) (n+2)).ev (lrT w r a b) S (.idx (.var 0) (.lit (.int 0)))=some (tD w,S):=by
 show((idxD S (.lst (tD w::r.map tD)) (.int 0)).map fun d=>(d,S))=_
 rw[ixL0]; rfl
theorem lr_t(S:Store)(n:Nat):(rn fns (m+3) (n+5)).tst (lrT w r none none) S (.cmp .Eq (.idx (.var 0) (.lit (.int 0))) (.lit (.str "vein")))=some (w==wVein,S):=by
 rw[qwd]
 exact tCmp (n:=n+4) (x:=tD w) (y:=tD wVein) (lr_i m w r S none none (n+2)) rfl (by show eqD S (tD w) (tD wVein)=_; exact qbb S w wVein)
theorem lr_1:∃ d,((askN w=0∧d=.non)∨(askN w≠0∧∃ ds,d=.lst ds∧ds.length=askN w))∧stepEx (rn fns (m+3) (0+20)) (lrT w r none none) [] (.set (.var 1) (.gc (.call 20 [(.tup [(.lit (.int 1)),(.lit (.int 1)),(.lit (.int 1))]),(.idx (.var 0) (.lit (.int 0)))])))=some (.nx (lrT w r (some d) none),[]):=by
 have z:∀ n,evs ((rn fns (m+3) (n+3)).ev (lrT w r none none)) [(.tup [(.lit (.int 1)),(.lit (.int 1)),(.lit (.int 1))]),(.idx (.var 0) (.lit (.int 0)))] []=some ([zD 1 1 1,tD w],[]):=fun n=>by
  have z0:(rn fns (m+3) (n+3)).ev (lrT w r none none) [] (.tup [(.lit (.int 1)),(.lit (.int 1)),(.lit (.int 1))])=some (zD 1 1 1,[]):=rfl
  have z1:=lr_i m w r [] none none (n+1)
  simp only[evs,z0,z1,oBs]
 have fin:∀ d st',callD fns (m+3) 20 [zD 1 1 1,tD w] []=some (d,st')→∀ d',gcD [] (d,st')=(d',[])→stepEx (rn fns (m+3) (0+20)) (lrT w r none none) [] (.set (.var 1) (.gc (.call 20 [(.tup [(.lit (.int 1)),(.lit (.int 1)),(.lit (.int 1))]),(.idx (.var 0) (.lit (.int 0)))])))=some (.nx (lrT w r (some d') none),[]):=fun d st' h d' g=>by
  have c:(rn fns (m+3) (0+20)).ev (lrT w r none none) [] (.gc (.call 20 [(.tup [(.lit (.int 1)),(.lit (.int 1)),(.lit (.int 1))]),(.idx (.var 0) (.lit (.int 0)))]))=some (d',[]):=by
   show((rn fns (m+3) 19).ev _ _ _).map _=_
   rw[ev_k]
   simp only[stepEv,z 15,oBs,call_k,h,oMs,g]
  simp only[stepEx,c,oBs]
  rfl
 rcases bd_ok (m+2) w with⟨h0,e⟩|⟨h0,i,ds,e,d1,d2,d3⟩
 ·exact⟨.non,.inl ⟨h0,rfl⟩,fin _ _ e _ (qch (st:=[]) (r:=bSk 8) rfl)⟩
 ·refine⟨.lst ds,.inr ⟨h0,ds,rfl,d3⟩,fin _ _ e _ ?_⟩
  have:=qme (st:=[]) (r:=bSk 8) (k:=1+i) d2 d1
  rw[show([]:Store).length+(1+i)=1+i from Nat.zero_add _]at this
  exact this
theorem qhb(hw:∀ x∈w::r,wOk x)(hl:r.length<601):∃ rr,callD fns (m+4) 25 [.lst ((w::r).map tD)] []=some ((faO (w::r)).getD .non,rr):=by
 have key:∀ d rr,exs (stepEx (rn fns (m+3) (0+20))) qx0 (lrT w r none none) []=some (.rt d,rr)→∃ rr,callD fns (m+4) 25 [.lst ((w::r).map tD)] []=some (d,rr):=fun d rr h=>⟨rr,call_of (0+20) (F:=qkv) rfl rfl rfl h⟩
 unfold qx0 at key
 have hw':∀ x∈r,wOk x:=fun x h=>hw x (Qqy _ h)
 simp only[faO]
 by_cases h1:w=wVein
 ·rw[if_pos h1]
  obtain⟨rr,e⟩:=qcy m [] r hw' hl
  refine key _ ([]++rr) ?_
  refine qzj ((qzk (st':=[]) (by rw[lr_t m w r [] 15,beq_iff_eq.mpr h1])).trans ?_)
  rw[ex_k]
  refine qzj ?_
  rw[h1]
  have v:evs ((rn fns (m+3) 18).ev (lrT wVein r none none)) [(.var 0)] []=some ([.lst ((wVein::r).map tD)],[]):=rfl
  have ee:(runK (callD fns (m+3)) 19).ev (lrT wVein r none none) [] (.call 24 [(.var 0)])=some ((veO r).getD .non,[]++rr):=by
   rw[ev_k]
   simp only[stepEv,v,oBs,call_k,e]
  simp only[stepEx,ee,oMs]
 ·rw[if_neg h1]
  have s0:stepEx (rn fns (m+3) (0+20)) (lrT w r none none) [] (.ite (.cmp .Eq (.idx (.var 0) (.lit (.int 0))) (.lit (.str "vein"))) [.ret (.call 24 [(.var 0)])] [])=some (.nx (lrT w r none none),[]):=(qzx (st':=[]) (by rw[lr_t m w r [] 15,beq_eq_false_iff_ne.mpr h1])).trans rfl
  obtain⟨d,hd,s1⟩:=lr_1 m w r
  have sl:∀ n,evs ((rn fns (m+3) (n+5)).ev (lrT w r (some d) none)) [(.gc (.sli (.var 0) (some (.lit (.int 1))) none))] []=some ([.lst (r.map tD)],[]):=fun n=>by
   have q:(rn fns (m+3) (n+5)).ev (lrT w r (some d) none) [] (.gc (.sli (.var 0) (some (.lit (.int 1))) none))=some (.lst (r.map tD),[]):=gcDr (c:=callD fns (m+3)) (n:=n+2) (τ:=lrT w r (some d) none) (st:=[]) (a:=.var 0) (ws:=w::r) 1 rfl
   simp only[evs,q,oBs]
  have s2:stepEx (rn fns (m+3) (0+20)) (lrT w r (some d) none) [] (.set (.var 2) (.gc (.call 23 [(.gc (.sli (.var 0) (some (.lit (.int 1))) none))])))=some (.nx (lrT w r (some d) (some (qz1 r))),[]):=by
   have g:(rn fns (m+3) (0+20)).ev (lrT w r (some d) none) [] (.gc (.call 23 [(.gc (.sli (.var 0) (some (.lit (.int 1))) none))]))=some (qz1 r,[]):=qzb (r:=[]) (n:=17) (ds:=[.lst (r.map tD)]) (sl 13) (by rw[Qqh]; exact qw0 (m:=m+1) hw' (by omega)) (qwr r)
   simp only[stepEx,g,oBs]
   rfl
  have t3:(rn fns (m+3) (0+20)).tst (lrT w r (some d) (some (qz1 r))) [] (.or (.cmp .Is (.var 1) (.lit .non)) (.or (.cmp .Is (.var 2) (.lit .non)) (.cmp .NotEq (.bcall .len [(.var 2)]) (.bcall .len [(.var 1)]))))=some (decide (askN w=0) || !(r.all nOk&&r.length==askN w),[]):=by
   rcases hd with⟨h2,rfl⟩|⟨h2,ds,rfl,h3⟩
   ·rw[decide_eq_true h2]
    exact tOrT rfl
   ·rw[decide_eq_false h2]
    refine tOr (n:=19) (x:=false) rfl ?_
    unfold qz1
    cases ha:r.all nOk with
    |false=>exact tOrT rfl
    |true=>
     have ln:∀ S,bLen S [.lst (r.map numV)]=some (.int ((r.length:Nat):Int),S):=fun S=>by simp only[bLen,seqAt,oMs,Qqj]
     have ld:∀ S,bLen S [.lst ds]=some (.int ((askN w:Nat):Int),S):=fun S=>by simp only[bLen,seqAt,oMs,h3]
     refine tOr (x:=false) (y:=!(r.length==askN w)) rfl ?_
     simp only[if_true,qzl,stepTst,ev_k,stepEv,evs,Qqx,Qqz,oBs,bfun,ln,ld,cmpD,neD,qqs,oMs]
     congr 3
     rw[Qq1,beq_iff_eq,beq_iff_eq]
     omega
  have no:∀ d0:D,d0=.non→(decide (askN w=0) || !(r.all nOk&&r.length==askN w))=true→∃ rr,callD fns (m+4) 25 [.lst ((w::r).map tD)] []=some (d0,rr):=fun d0 h0 hb=>by
   subst h0
   refine key _ [] ?_
   rw[qzz s0,qzz s1,qzz s2]
   refine qzj ((qzk (st':=[]) (t3.trans (by rw[hb]))).trans ?_)
   rw[ex_k]
   exact qzj rfl
  by_cases h2:askN w=0
  ·rw[if_pos h2]
   exact no _ rfl (by rw[decide_eq_true h2]; rfl)
  ·rw[if_neg h2]
   cases h3:(r.all nOk&&r.length==askN w) with
   |false=>
    rw[if_neg Qqg]
    exact no _ rfl (by rw[h3]; simp)
   |true=>
    rw[if_pos rfl]
    refine key _ [] ?_
    rw[qzz s0,qzz s1,qzz s2]
    refine(qzz (τ':=lrT w r (some d) (some (qz1 r))) (s':=[]) ((qzx (st':=[]) (t3.trans (by rw[h3,decide_eq_false h2]; rfl))).trans rfl)).trans ?_
    rw[Qqk]at h3
    have hn:qz1 r=.lst (r.map numV):=by unfold qz1; rw[if_pos h3.1]
    rw[hn]
    have hadd:binop [] .Add (.tup [tD w]) (.tup (r.map numV))=some (.tup (tD w::r.map numV),[]):=by
     simp only[binop]
     rw[if_neg (by unfold lim; simp; omega)]
     rfl
    refine qzj (stR (n:=0+20) (evB (n:=19) (a:=.tup [tD w]) (b:=.tup (r.map numV)) ?_ rfl hadd))
    have i0:=lr_i m w r [] (some d) (some (.lst (r.map numV)))
    rw[ev_k]
    simp only[stepEv,evs,i0,oBs,oMs]
    rfl
end
theorem qc1{f d:Nat}{F:Fn}{ds:List D}{st st':Store}{v:D}(hf:fns[f]?=some F)(h:callD fns (d+1) f ds st=some (v,st')):ds.length=F.np∧∃ k o,exs (stepEx (rn fns d (k+30))) F.body (ds.map some++List.replicate (F.nl - ds.length) none) st=some (o,st')∧(o=.rt v∨∃ τ,o=.nx τ):=by
 have h:stepCall fns (RL (callD fns d)) f ds st=some (v,st'):=h
 unfold stepCall at h
 rw[hf]at h
 dsimp only at h
 split at h
 ·rename_i hl
  obtain⟨p,e1,e2⟩:=Qxj.mp h
  obtain⟨k,e3⟩:=lim1_is e1
  have e4:=ex_up (N:=k+31) e3 (by omega)
  obtain⟨o,s⟩:=p
  refine⟨hl,k,o,?_,?_⟩
  ·cases o with
   |rt d=>cases e2; exact e4
   |nx τ=>cases e2; exact e4
   |bk τ=>cases e2
   |ct τ=>cases e2
  ·cases o with
   |rt d=>cases e2; exact .inl rfl
   |nx τ=>exact .inr ⟨τ,rfl⟩
   |bk τ=>cases e2
   |ct τ=>cases e2
 ·cases h
noncomputable def chF(g:Nat):Fn:=⟨1,1,[.ret (.gc (.call g [(.var 0)]))]⟩
theorem qvn{f g d:Nat}{x v:D}{st:Store}(hf:fns[f]?=some (chF g))(h:callD fns d g [x] st=some (v,st))(hv:noLoc v=true):callD fns (d+1) f [x] st=some (v,st):=by
 refine call_of (0+10) (F:=chF g) hf rfl rfl ?_
 show exs (stepEx (rn fns d (0+10))) [.ret (.gc (.call g [(.var 0)]))] [some x] st=_
 exact qzj (stR (qzb (r:=[]) (n:=7) (ds:=[x]) rfl (by rw[Qqh]; exact h) hv))
theorem qzm{f g d:Nat}{x:D}{st:Store}{r:D×Store}(hf:fns[f]?=some (chF g))(h:callD fns (d+1) f [x] st=some r):∃ r',callD fns d g [x] st=some r':=by
 obtain⟨v,st'⟩:=r
 obtain⟨_,k,o,e,_⟩:=qc1 hf h
 have e:((stepEx (rn fns d (k+30)) [some x] st (.ret (.gc (.call g [(.var 0)])))).bind fun p=>match p.1 with|.nx τ'=>exs (stepEx (rn fns d (k+30))) [] τ' p.2|o=>some (o,p.2))=some (o,st'):=e
 obtain⟨p,e1,_⟩:=Qxj.mp e
 simp only[stepEx,ev_k,stepEv,evs,Qqz,oBs,call_k]at e1
 cases hc:callD fns d g [x] st with
 |none=>rw[hc]at e1; cases e1
 |some r'=>exact⟨r',rfl⟩
theorem qgi{d:Nat}{ds:List D}{st:Store}{r:D×Store}(h:callD fns (d+1) 28 ds st=some r):∃ cs,ds=[.str (mk cs)]∧Gt 590 cs∧∃ r',callD fns d 30 ds st=some r':=by
 obtain⟨v,st'⟩:=r
 obtain⟨hl,k,o,e,ho⟩:=qc1 (F:=qkx) rfl h
 have hl:ds.length=1:=hl
 obtain⟨x,rfl⟩:∃ x,ds=[x]:=by
  match ds,hl with
  |[x],_=>exact⟨x,rfl⟩
 have e:exs (stepEx (rn fns d (k+30))) qqu [some x,none] st=some (o,st'):=e
 have bad:(rn fns d (k+30)).tst [some x,none] st (.and (.isi (.var 0) [.str] false) (.cmp .LtE (.bcall .len [(.var 0)]) (.lit (.int 590))))=some (false,st)→False:=fun t=>by
  unfold qqu at e
  have s1:stepEx (rn fns d (k+30)) [some x,none] st (.ite (.and (.isi (.var 0) [.str] false) (.cmp .LtE (.bcall .len [(.var 0)]) (.lit (.int 590)))) [] [.brk])=some (.bk [some x,none],st):=(qzx t).trans rfl
  have e':((stepEx (rn fns d (k+30)) [some x,none] st (.ite (.and (.isi (.var 0) [.str] false) (.cmp .LtE (.bcall .len [(.var 0)]) (.lit (.int 590)))) [] [.brk])).bind fun p=>match p.1 with|.nx τ'=>exs (stepEx (rn fns d (k+30))) [.forr (.var 1) (.var 0) [],.expr (.gc (.call 30 [(.var 0)])),.ret (.gc (.call 38 [(.var 0)]))] τ' p.2|o=>some (o,p.2))=some (o,st'):=e
  rw[s1]at e'
  cases e'
  rcases ho with z|⟨τ,z⟩<;>cases z
 have isi:∀ n,(rn fns d (n+3)).tst [some x,none] st (.isi (.var 0) [.str] false)=(tyName st x).map fun t=>(tyIs .str t,st):=fun n=>by
  rw[qzl]
  simp only[stepTst,ev_k,stepEv,Qqz,oBs]
  cases tyName st x with
  |none=>rfl
  |some t=>simp only[oMs,oBs,Qq2,Qzr,Qzl,truth]
 have nostr:∀ t,tyName st x=some t→tyIs .str t=false→False:=fun t h1 h2=>bad (by
  rw[qzl]
  simp only[stepTst,isi,h1,h2,oMs,oBs]
  rfl)
 have none_:tyName st x=none→False:=fun h1=>by
  have:stepEx (rn fns d (k+30)) [some x,none] st (.ite (.and (.isi (.var 0) [.str] false) (.cmp .LtE (.bcall .len [(.var 0)]) (.lit (.int 590)))) [] [.brk])=none:=by
   show((rn fns d (k+30)).tst _ _ _).bind _=none
   rw[qzl]
   simp only[stepTst,isi,h1,Option.map_none,Option.bind_none]
  have e':((stepEx (rn fns d (k+30)) [some x,none] st (.ite (.and (.isi (.var 0) [.str] false) (.cmp .LtE (.bcall .len [(.var 0)]) (.lit (.int 590)))) [] [.brk])).bind fun p=>match p.1 with|.nx τ'=>exs (stepEx (rn fns d (k+30))) [.forr (.var 1) (.var 0) [],.expr (.gc (.call 30 [(.var 0)])),.ret (.gc (.call 38 [(.var 0)]))] τ' p.2|o=>some (o,p.2))=some (o,st'):=e
  rw[this]at e'
  cases e'
 have str:∃ z,x=.str z:=by
  cases x with
  |str z=>exact⟨z,rfl⟩
  |non=>exact(nostr .non rfl rfl).elim
  |bl b=>exact(nostr .bl rfl rfl).elim
  |int i=>exact(nostr .int rfl rfl).elim
  |tup ds=>exact(nostr .tup rfl rfl).elim
  |lst ds=>exact(nostr .lst rfl rfl).elim
  |loc l=>
   cases hq:tyName st (.loc l) with
   |none=>exact(none_ hq).elim
   |some t=>
    have:((seqAt st (.loc l)).map fun _=>Ty.lst)=some t:=hq
    obtain⟨_,_,z⟩:=Qzx.mp this
    subst z
    exact(nostr _ hq rfl).elim
 obtain⟨z,rfl⟩:=str
 obtain⟨cs,rfl⟩:∃ cs,z=mk cs:=⟨z.cps.toList,rfl⟩
 have lenT:∀ n,(rn fns d (n+5)).tst [some (.str (mk cs)),none] st (.cmp .LtE (.bcall .len [(.var 0)]) (.lit (.int 590)))=if lim<cs.length then none else some (decide (cs.length≤590),st):=fun n=>by
  rw[qzl]
  simp only[stepTst,ev_k,stepEv,evs,Qqz,oBs,bfun,bLen,qz2]
  split
  ·rfl
  ·simp only[oBs,cmpD,oMs]
   congr 2
   rw[Qq1,decide_eq_true_iff,decide_eq_true_iff]
   omega
 have guard:∀ n,(rn fns d (n+6)).tst [some (.str (mk cs)),none] st (.and (.isi (.var 0) [.str] false) (.cmp .LtE (.bcall .len [(.var 0)]) (.lit (.int 590))))=if lim<cs.length then none else some (decide (cs.length≤590),st):=fun n=>by
  rw[qzl]
  simp only[stepTst,isi,tyName,oMs,oBs,lenT]
  rfl
 have g1:=guard (k+24)
 have hle:cs.length≤590:=by
  by_cases h1:lim<cs.length
  ·rw[if_pos h1]at g1
   have e':((stepEx (rn fns d (k+30)) [some (.str (mk cs)),none] st (.ite (.and (.isi (.var 0) [.str] false) (.cmp .LtE (.bcall .len [(.var 0)]) (.lit (.int 590)))) [] [.brk])).bind fun p=>match p.1 with|.nx τ'=>exs (stepEx (rn fns d (k+30))) [.forr (.var 1) (.var 0) [],.expr (.gc (.call 30 [(.var 0)])),.ret (.gc (.call 38 [(.var 0)]))] τ' p.2|o=>some (o,p.2))=some (o,st'):=e
   have:stepEx (rn fns d (k+30)) [some (.str (mk cs)),none] st (.ite (.and (.isi (.var 0) [.str] false) (.cmp .LtE (.bcall .len [(.var 0)]) (.lit (.int 590)))) [] [.brk])=none:=by
    show((rn fns d (k+30)).tst _ _ _).bind _=none
    rw[show(rn fns d (k+30)).tst [some (.str (mk cs)),none] st (.and (.isi (.var 0) [.str] false) (.cmp .LtE (.bcall .len [(.var 0)]) (.lit (.int 590))))=none from g1]
    rfl
   rw[this]at e'
   cases e'
  ·rw[if_neg h1]at g1
   by_cases h2:cs.length≤590
   ·exact h2
   ·rw[decide_eq_false h2]at g1
    exact(bad g1).elim
 rw[if_neg (by unfold lim; omega),decide_eq_true hle]at g1
 have e':exs (stepEx (rn fns d (k+30))) [.forr (.var 1) (.var 0) [],.expr (.gc (.call 30 [(.var 0)])),.ret (.gc (.call 38 [(.var 0)]))] [some (.str (mk cs)),none] st=some (o,st'):=by
  have:=qzz (b:=[.forr (.var 1) (.var 0) [],.expr (.gc (.call 30 [(.var 0)])),.ret (.gc (.call 38 [(.var 0)]))]) (f:=stepEx (rn fns d (k+30))) (x:=.ite (.and (.isi (.var 0) [.str] false) (.cmp .LtE (.bcall .len [(.var 0)]) (.lit (.int 590)))) [] [.brk]) (τ:=[some (.str (mk cs)),none]) (τ':=[some (.str (mk cs)),none]) (s:=st) (s':=st) ((qzk g1).trans rfl)
  exact this.symm.trans e
 have src_:∀ n,src (rn fns d (n+1)) [some (.str (mk cs)),none] st (.var 0)=if (mk cs).cps.all (· < 128) then some (.str (mk cs),st) else none:=fun n=>rfl
 have hasc:(mk cs).cps.all (· < 128)=true:=by
  by_cases h1:(mk cs).cps.all (· < 128)=true
  ·exact h1
  ·have s1:stepEx (rn fns d (k+30)) [some (.str (mk cs)),none] st (.forr (.var 1) (.var 0) [])=none:=by
    show(src (rn fns d (k+29+1)) _ _ _).bind _=none
    rw[src_,if_neg h1]
    rfl
   have e2:((stepEx (rn fns d (k+30)) [some (.str (mk cs)),none] st (.forr (.var 1) (.var 0) [])).bind fun p=>match p.1 with|.nx τ'=>exs (stepEx (rn fns d (k+30))) [.expr (.gc (.call 30 [(.var 0)])),.ret (.gc (.call 38 [(.var 0)]))] τ' p.2|o=>some (o,p.2))=some (o,st'):=e'
   rw[s1]at e2
   cases e2
 have asc:∀ c∈cs,c<128:=fun c hc=>by
  rw[Array.all_eq_true_iff_forall_mem]at hasc
  have:=hasc c (by show c∈cs.toArray; simpa using hc)
  simpa using this
 refine⟨cs,rfl,⟨asc,hle⟩,?_⟩
 obtain⟨τ',S',⟨rfl,y,rfl⟩,el⟩:=qxo (ds:=cs.map sgn) (s:=.str (mk cs)) (f:=fun τ S dd=>(setT (.var 1) dd τ).bind fun τ'=>(rn fns d (k+30)).ex τ' S []) (τ:=[some (.str (mk cs)),none]) (st:=st) (fun i τ S=>S=st∧∃ y,τ=[some (.str (mk cs)),y]) (fun i τ S _=>qvp _ _ _) (fun i τ S dd hi hd p=>by
  obtain⟨rfl,y,rfl⟩:=p
  exact⟨_,_,rfl,rfl,_,rfl⟩) ⟨rfl,none,rfl⟩
 have s2:stepEx (rn fns d (k+30)) [some (.str (mk cs)),none] S' (.forr (.var 1) (.var 0) [])=some (.nx [some (.str (mk cs)),y],S'):=by
  show(src (rn fns d (k+29+1)) _ _ _).bind _=_
  rw[src_,if_pos hasc]
  rw[show(cs.map sgn).length=Src.size S' (.str (mk cs)) by simp[Src.size,qx7]]at el
  exact el
 have e3:=(qzz (b:=[.expr (.gc (.call 30 [(.var 0)])),.ret (.gc (.call 38 [(.var 0)]))]) s2).symm.trans e'
 have e4:((stepEx (rn fns d (k+30)) [some (.str (mk cs)),y] S' (.expr (.gc (.call 30 [(.var 0)])))).bind fun p=>match p.1 with|.nx τ'=>exs (stepEx (rn fns d (k+30))) [.ret (.gc (.call 38 [(.var 0)]))] τ' p.2|o=>some (o,p.2))=some (o,st'):=e3
 obtain⟨p,e1,_⟩:=Qxj.mp e4
 simp only[stepEx,ev_k,stepEv,evs,Qqz,oBs,call_k]at e1
 cases hc:callD fns d 30 [.str (mk cs)] S' with
 |none=>rw[hc]at e1; cases e1
 |some r'=>exact⟨r',rfl⟩
theorem qmn{n:Nat}{x:D}{st:Store}{r:D×Store}(h:callD fns n 30 [x] st=some r):∃ m,n=m+8:=by
 match n,h with
 |0,h=>cases h
 |1,h=>obtain⟨_,h⟩:=qzm (g:=31) rfl h; cases h
 |2,h=>obtain⟨_,h⟩:=qzm (g:=31) rfl h; obtain⟨_,h⟩:=qzm (g:=32) rfl h; cases h
 |3,h=>obtain⟨_,h⟩:=qzm (g:=31) rfl h; obtain⟨_,h⟩:=qzm (g:=32) rfl h; obtain⟨_,h⟩:=qzm (g:=33) rfl h; cases h
 |4,h=>obtain⟨_,h⟩:=qzm (g:=31) rfl h; obtain⟨_,h⟩:=qzm (g:=32) rfl h; obtain⟨_,h⟩:=qzm (g:=33) rfl h; obtain⟨_,h⟩:=qzm (g:=34) rfl h; cases h
 |5,h=>obtain⟨_,h⟩:=qzm (g:=31) rfl h; obtain⟨_,h⟩:=qzm (g:=32) rfl h; obtain⟨_,h⟩:=qzm (g:=33) rfl h; obtain⟨_,h⟩:=qzm (g:=34) rfl h; obtain⟨_,h⟩:=qzm (g:=35) rfl h; cases h
 |6,h=>obtain⟨_,h⟩:=qzm (g:=31) rfl h; obtain⟨_,h⟩:=qzm (g:=32) rfl h; obtain⟨_,h⟩:=qzm (g:=33) rfl h; obtain⟨_,h⟩:=qzm (g:=34) rfl h; obtain⟨_,h⟩:=qzm (g:=35) rfl h; obtain⟨_,h⟩:=qzm (g:=36) rfl h; cases h
 |7,h=>obtain⟨_,h⟩:=qzm (g:=31) rfl h; obtain⟨_,h⟩:=qzm (g:=32) rfl h; obtain⟨_,h⟩:=qzm (g:=33) rfl h; obtain⟨_,h⟩:=qzm (g:=34) rfl h; obtain⟨_,h⟩:=qzm (g:=35) rfl h; obtain⟨_,h⟩:=qzm (g:=36) rfl h; obtain⟨_,h⟩:=qzm (g:=37) rfl h; cases h
 |m+8,_=>exact⟨m,rfl⟩
theorem ch_str(m:Nat)(st:Store)(z:Str):callD fns (m+8) 30 [.str z] st=some (.str z,st):=by
 have h7:callD fns (m+1) 37 [.str z] st=some (.str z,st):=call_of (0+10) (F:=f_ch7) rfl rfl rfl (qzj rfl)
 exact qvn (f:=30) (g:=31) rfl (qvn (f:=31) (g:=32) rfl (qvn (f:=32) (g:=33) rfl (qvn (f:=33) (g:=34) rfl (qvn (f:=34) (g:=35) rfl (qvn (f:=35) (g:=36) rfl (qvn (f:=36) (g:=37) rfl h7 rfl) rfl) rfl) rfl) rfl) rfl) rfl
noncomputable def tlB:List S:=[
 .set (.var 1) (.gc (.meth (.var 0) .split [(.lit (.str " "))])),
 .set (.var 2) (.idx (.var 1) (.lit (.int 0))),
 .ite (.cmp .Eq (.var 2) (.lit (.str "vein"))) [.ret (.call 24 [(.var 1)])] [],
 .ite (.gin true "ASKS" askKeys (.var 2)) [.ret (.lit .non)] [],
 .set (.var 3) (.gc (.call 23 [(.gc (.sli (.var 1) (some (.lit (.int 1))) none))])),
 .ite (.cmp .Is (.var 3) (.lit .non)) [.ret (.lit .non)] [],
 .ite (.cmp .NotEq (.bcall .len [(.var 3)]) (.bcall .len [(.gidx "ASKS" askKeys qkd (.var 2))])) [.ret (.lit .non)] [],
 .ret (.bin .Add (.tup [(.var 2)]) (.bcall .tuple [(.var 3)]))]
theorem h_tl:fns[38]?=some ⟨1,4,tlB⟩:=rfl
theorem tl_ok(m:Nat)(st:Store)(cs:List Nat){B:Nat}(hg:Gt B cs)(hB:B<600):∃ rr,callD fns (m+6) 38 [tD cs] st=some ((faO (splitC 32 cs)).getD .non,st++rr):=by
 have hw:=qk5 hg hB
 have hn:=qk6 hg
 have hl:=hg.2
 obtain⟨w,r,hs⟩:=qyw 32 cs
 rw[hs]at hw hn ⊢
 have hw':∀ x∈r,wOk x:=fun x h=>hw x (Qqy _ h)
 have hl':r.length<601:=by simp only[Qqv]at hn; omega
 have key:∀ d rr,exs (stepEx (rn fns (m+5) (0+20))) tlB [some (tD cs),none,none,none] st=some (.rt d,st++rr)→∃ rr,callD fns (m+6) 38 [tD cs] st=some (d,st++rr):=fun d rr h=>⟨rr,call_of (0+20) (F:=⟨1,4,tlB⟩) h_tl rfl rfl h⟩
 unfold tlB at key
 simp only[qzz (rf_1 m st cs w r hs (by omega) 0),qzz (rf_2 m st cs w r 0)]at key
 simp only[faO]
 by_cases h1:w=wVein
 ·rw[if_pos h1]
  subst h1
  obtain⟨rr,e⟩:=qcy (m+2) st r hw' hl'
  refine key _ rr ?_
  refine qzj ((qzk (st':=st) (by rw[qdx m st cs wVein r 15,beq_self_eq_true])).trans ?_)
  rw[ex_k]
  refine qzj ?_
  have v:evs ((rn fns (m+5) 18).ev (fT cs wVein r none)) [(.var 1)] st=some ([.lst ((wVein::r).map tD)],st):=rfl
  have ee:(runK (callD fns (m+5)) 19).ev (fT cs wVein r none) st (.call 24 [(.var 1)])=some ((veO r).getD .non,st++rr):=by
   rw[ev_k]
   simp only[stepEv,v,oBs,call_k,e]
  simp only[stepEx,ee,oMs]
 ·rw[if_neg h1]
  have s1:stepEx (rn fns (m+5) (0+20)) (fT cs w r none) st (.ite (.cmp .Eq (.var 2) (.lit (.str "vein"))) [.ret (.call 24 [(.var 1)])] [])=some (.nx (fT cs w r none),st):=(qzx (st':=st) (by rw[qdx m st cs w r 15,beq_eq_false_iff_ne.mpr h1])).trans rfl
  simp only[qzz s1]at key
  by_cases h2:askN w=0
  ·rw[if_pos h2]
   refine key _ [] ?_
   rw[Qqh]
   refine qzj ((qzk (st':=st) (by rw[qeb m st cs w r 15,h2]; rfl)).trans ?_)
   rw[ex_k]
   exact qzj rfl
  ·rw[if_neg h2]
   have s2:stepEx (rn fns (m+5) (0+20)) (fT cs w r none) st (.ite (.gin true "ASKS" askKeys (.var 2)) [.ret (.lit .non)] [])=some (.nx (fT cs w r none),st):=(qzx (st':=st) (by rw[qeb m st cs w r 15,beq_eq_false_iff_ne.mpr h2])).trans rfl
   have s3:stepEx (rn fns (m+5) (0+20)) (fT cs w r none) st (.set (.var 3) (.gc (.call 23 [(.gc (.sli (.var 1) (some (.lit (.int 1))) none))])))=some (.nx (fT cs w r (some (qz1 r))),st):=by
    have g:(rn fns (m+5) (0+20)).ev (fT cs w r none) st (.gc (.call 23 [(.gc (.sli (.var 1) (some (.lit (.int 1))) none))]))=some (qz1 r,st):=qzb (r:=[]) (n:=17) (ds:=[.lst (r.map tD)]) (qec m st cs w r 13) (by rw[Qqh]; exact qw0 (m:=m+3) hw' (by omega)) (qwr r)
    simp only[stepEx,g,oBs]
    rfl
   simp only[qzz s2,qzz s3]at key
   cases h3:r.all nOk with
   |false=>
    rw[if_neg (by simp)]
    refine key _ [] ?_
    rw[Qqh,show qz1 r=.non by unfold qz1; rw[h3]; rfl]
    refine qzj ((qzk (st':=st) rfl).trans ?_)
    rw[ex_k]
    exact qzj rfl
   |true=>
    have hv:qz1 r=.lst (r.map numV):=by unfold qz1; rw[if_pos h3]
    rw[hv]at key
    have s4:stepEx (rn fns (m+5) (0+20)) (fT cs w r (some (.lst (r.map numV)))) st (.ite (.cmp .Is (.var 3) (.lit .non)) [.ret (.lit .non)] [])=some (.nx (fT cs w r (some (.lst (r.map numV)))),st):=(qzx (st':=st) rfl).trans rfl
    simp only[qzz s4]at key
    cases h4:r.length==askN w with
    |false=>
     rw[if_neg (by simp)]
     refine key _ [] ?_
     rw[Qqh]
     refine qzj ((qzk (st':=st) (by rw[qg1 m st cs w r h2 14,h4]; rfl)).trans ?_)
     rw[ex_k]
     exact qzj rfl
    |true=>
     rw[if_pos (by simp)]
     refine key _ [] ?_
     rw[Qqh]
     refine(qzz (τ':=fT cs w r (some (.lst (r.map numV)))) (s':=st) ((qzx (st':=st) (by rw[qg1 m st cs w r h2 14,h4]; rfl)).trans rfl)).trans ?_
     have hadd:∀ S,binop S .Add (.tup [tD w]) (.tup (r.map numV))=some (.tup (tD w::r.map numV),S):=fun S=>by
      simp only[binop]
      rw[if_neg (by unfold lim; simp; omega)]
      rfl
     exact qzj (stR (evB (n:=19) (a:=.tup [tD w]) (b:=.tup (r.map numV)) rfl rfl (hadd st)))
noncomputable def pv(cs:List Nat):D:=(faO (splitC 32 cs)).getD .non
theorem veO_nl{r:List (List Nat)}{d:D}(h:veO r=some d):noLoc d=true:=by
 unfold veO at h
 split at h
 ·split at h
  ·obtain⟨ss,h1,h2⟩:=Qzx.mp h
   subst h2
   rw[qzg]
   simp only[qzu,qzg,qbk,qz0 fun w _=>qcu w,qdw,Qjz]
   rfl
  ·cases h
 ·cases h
theorem qg4(cs:List Nat):noLoc (pv cs)=true:=by
 unfold pv
 cases h:faO (splitC 32 cs) with
 |none=>rfl
 |some d=>
  show noLoc d=true
  unfold faO at h
  split at h
  ·cases h
  ·split at h
   ·exact veO_nl h
   ·split at h
    ·cases h
    ·split at h
     ·cases h
      rw[qzg,qzu,qyr]
      rfl
     ·cases h
theorem told_ok(m:Nat)(st:Store)(cs:List Nat)(hg:Gt 590 cs):callD fns (m+9) 28 [.str (mk cs)] st=some (pv cs,st):=by
 refine call_of (0+20) (F:=qkx) rfl rfl rfl ?_
 show exs (stepEx (rn fns (m+8) (0+20))) qqu [some (.str (mk cs)),none] st=_
 unfold qqu
 have hli:¬ lim<(mk cs).length:=by rw[qz2]; unfold lim; have:=hg.2; omega
 have ln:∀ S,bLen S [.str (mk cs)]=some (.int (cs.length:Int),S):=fun S=>by
  simp only[bLen]
  rw[if_neg hli,qz2]
 have t1:(rn fns (m+8) (0+20)).tst [some (.str (mk cs)),none] st (.and (.isi (.var 0) [.str] false) (.cmp .LtE (.bcall .len [(.var 0)]) (.lit (.int 590))))=some (true,st):=by
  refine tAnd (n:=19) (x:=true) (y:=true) rfl (tCmp (n:=18) (x:=.int (cs.length:Int)) (y:=.int 590) (by rw[ev_k]; exact ln st) rfl ?_)
  show some (decide ((cs.length:Int)≤590))=_
  rw[decide_eq_true (by have:=hg.2; omega)]
 rw[qzz (τ':=[some (.str (mk cs)),none]) (s':=st) ((qzk t1).trans rfl)]
 obtain⟨τ',S',⟨rfl,y,rfl⟩,el⟩:=qxo (ds:=cs.map sgn) (s:=.str (mk cs)) (f:=fun τ S dd=>(setT (.var 1) dd τ).bind fun τ'=>(rn fns (m+8) (0+20)).ex τ' S []) (τ:=[some (.str (mk cs)),none]) (st:=st) (fun i τ S=>S=st∧∃ y,τ=[some (.str (mk cs)),y]) (fun i τ S _=>qvp _ _ _) (fun i τ S dd hi hd p=>by
  obtain⟨rfl,y,rfl⟩:=p
  exact⟨_,_,rfl,rfl,_,rfl⟩) ⟨rfl,none,rfl⟩
 rw[qzz (τ':=[some (.str (mk cs)),y]) (s':=S') (by
  show(if (mk cs).cps.all (· < 128) then some (Src.str (mk cs),S') else none).bind _=_
  rw[if_pos (qji hg.1)]
  rw[show(cs.map sgn).length=Src.size S' (.str (mk cs)) by simp[Src.size,qx7]]at el
  exact el)]
 have c1:(rn fns (m+8) (0+20)).ev [some (.str (mk cs)),y] S' (.gc (.call 30 [(.var 0)]))=some (.str (mk cs),S'):=qzb (r:=[]) (n:=17) (ds:=[.str (mk cs)]) rfl (by rw[Qqh]; exact ch_str m S' _) rfl
 rw[qzz (τ':=[some (.str (mk cs)),y]) (s':=S') (by show((rn fns (m+8) (0+20)).ev _ _ _).map _=_; rw[c1]; rfl)]
 obtain⟨rr,he⟩:=tl_ok (m+2) S' cs hg (by omega)
 have c2:(rn fns (m+8) (0+20)).ev [some (.str (mk cs)),y] S' (.gc (.call 38 [(.var 0)]))=some (pv cs,S'):=qzb (r:=rr) (n:=17) (ds:=[.str (mk cs)]) rfl he (qg4 cs)
 exact qzj (stR c2)
theorem told_eq(n:Nat)(ds:List D)(st0:Store)(d:D)(st':Store)(h:callD fns (n+1) 28 ds st0=some (d,st')):∃ z,ds=[z]∧((∃ k,(rn fns n k).ev [some z,some .non] st0 (.gc (.call 6 [.var 0]))=some (d,st'))∨(d=.non∧XC fns okF n 6 [z] st0 st')):=by
 obtain⟨cs,rfl,hg,r',h2⟩:=qgi h
 obtain⟨m,rfl⟩:=qmn h2
 refine⟨_,rfl,?_⟩
 rw[told_ok m st0 cs hg]at h
 cases h
 unfold pv
 cases hp:faO (splitC 32 cs) with
 |none=>exact .inr ⟨rfl,qle (m+2) st0 cs hg (by omega) hp⟩
 |some d=>
  refine .inl ⟨20,qzb (r:=[]) (n:=17) (ds:=[.str (mk cs)]) rfl (by rw[Qqh]; exact qg0 (m+2) st0 cs hg (by omega) hp) ?_⟩
  have:=qg4 cs
  unfold pv at this
  rw[hp]at this
  exact this
theorem dpN(k:Nat)(w:List Nat):Dp k (numV w):=by
 unfold numV
 split
 ·exact .int
 ·exact .non
theorem dp_pv{B:Nat}(cs:List Nat)(hg:Gt B cs)(hB:B<600):Dp 3 (pv cs):=by
 unfold pv
 have hw:=qk5 hg hB
 have hn:=qk6 hg
 cases h:faO (splitC 32 cs) with
 |none=>exact .non
 |some d=>
  show Dp 3 d
  obtain⟨w,r,hs⟩:=qyw 32 cs
  rw[hs]at h hw hn
  simp only[Qqv]at hn
  simp only[faO]at h
  split at h
  ·unfold veO at h
   split at h
   ·rename_i s c cs
    split at h
    ·obtain⟨ss,h1,h2⟩:=Qzx.mp h
     subst h2
     have hs:=hw s (by simp)
     have hsl:ss.length<1000:=by
      unfold stV at h1
      split at h1
      ·cases h1; decide
      ·split at h1
       ·cases h1; rw[Qqj]; have:=hs.2; omega
       ·cases h1
     refine .tup (fun d hd=>?_) (by simp)
     simp only[Qqw,Qqo,or_false]at hd
     rcases hd with rfl|rfl|rfl
     ·exact .str
     ·exact .tup (fun d hd=>by obtain⟨k,_,rfl⟩:=Qq5.mp hd; exact .int) (by rw[Qqj]; omega)
     ·refine .tup (fun d hd=>?_) (by rw[Qqj]; simp only[Qqv]at hn ⊢; omega)
      obtain⟨x,hx,rfl⟩:=Qq5.mp hd
      have hl:=qgr (x:=44) (hw x (Qqy _ (Qqy _ hx)))
      exact .tup (fun d hd=>by obtain⟨k,_,rfl⟩:=Qq5.mp hd; exact dpN _ _) (by rw[Qqj]; omega)
    ·cases h
   ·cases h
  ·split at h
   ·cases h
   ·split at h
    ·cases h
     refine .tup (fun d hd=>?_) (by simp only[Qqv,Qqj]; omega)
     rcases Qqw.mp hd with rfl|hd
     ·exact .str
     ·obtain⟨k,_,rfl⟩:=Qq5.mp hd
      exact dpN _ _
    ·cases h
theorem qed(cs:List Nat):(∀ {b},pv cs≠.bl b)∧(∀ {i},pv cs≠.int i)∧(∀ {z},pv cs≠.str z)∧(∀ {ds},pv cs≠.lst ds)∧(∀ {l},pv cs≠.loc l):=by
 have:pv cs=.non∨∃ ds,pv cs=.tup ds:=by
  unfold pv
  cases h:faO (splitC 32 cs) with
  |none=>exact .inl rfl
  |some d=>
   right
   show ∃ ds,d=.tup ds
   unfold faO at h
   split at h
   ·cases h
   ·split at h
    ·unfold veO at h
     split at h
     ·split at h
      ·obtain⟨ss,h1,h2⟩:=Qzx.mp h
       exact⟨_,h2.symm⟩
      ·cases h
     ·cases h
    ·split at h
     ·cases h
     ·split at h
      ·cases h; exact⟨_,rfl⟩
      ·cases h
 rcases this with e|⟨ds,e⟩<;>rw[e]<;>refine⟨?_,?_,?_,?_,?_⟩<;>intro _ z<;>cases z
theorem qdt:∀ p∈wordsN,∀ c∈p.1,c<128:=by decide
theorem f_gt{f:Fact}(h:f.ok):Gt 500 (fX f):=by
 have hg:=f_gd h
 have hl:=f_len h
 refine⟨fun c hc=>?_,?_⟩
 ·rcases qjn 32 _ c hc with rfl|⟨q,hq,e⟩
  ·decide
  ·cases f with
   |word w ks=>
    rcases Qqw.mp hq with rfl|hq
    ·exact qdt _ h.1 c e
    ·obtain⟨k,_,rfl⟩:=Qq5.mp hq
     exact qfq k c e
   |vein ss cs=>
    rcases Qqw.mp hq with rfl|hq
    ·have:∀ c∈wVein,c<128:=by decide
     exact this c e
    ·rcases Qqw.mp hq with rfl|hq
     ·unfold sT at e
      split at e
      ·rw[Qzk]at e; omega
      ·obtain⟨a,ha,rfl⟩:=Qq5.mp e
       have:=h.1 a ha
       omega
     ·obtain⟨p,_,rfl⟩:=Qq5.mp hq
      unfold cT at e
      rcases qjn 44 _ c e with rfl|⟨q,hq,e⟩
      ·decide
      ·simp only[Qqw,Qqo,or_false]at hq
       rcases hq with rfl|rfl<;>exact qfq _ c e
 ·have:=qvk 32 20 (fP f) fun x hx=>(hg x hx).2
  have h2:(fP f).length*(20+1)≤22*21:=Nat.mul_le_mul_right _ hl
  unfold fX
  omega
noncomputable def odd1:List Str:=[PySem.Str.ofString "",PySem.Str.ofString " ",PySem.Str.ofString "vein",PySem.Str.ofString "vein - ",PySem.Str.ofString "vein 0 1",PySem.Str.ofString "vein 0",PySem.Str.ofString "vein - 1,2,3",PySem.Str.ofString "vein -- 1,2",PySem.Str.ofString "vein 00 1,"]
noncomputable def odd2:List Str:=[PySem.Str.ofString "work",PySem.Str.ofString "Work 3",PySem.Str.ofString "vein  1,2"]
noncomputable def odd3:List Str:=[PySem.Str.ofString "works 3",PySem.Str.ofString "work 03",PySem.Str.ofString "work 3 ",PySem.Str.ofString " work 3",PySem.Str.ofString "work  3",PySem.Str.ofString "work 3 4",PySem.Str.ofString "give -3",PySem.Str.ofString "pay 1 2",PySem.Str.ofString "vein 5 01,2"]
noncomputable def odd:List Str:=odd1++odd2++odd3
theorem odd_gt:∀ z∈odd,(z.cps.toList.all fun c=>decide (c<128))=true∧z.cps.toList.length≤500:=by decide +kernel
theorem qe9(xs:List Str):noLocs (xs.map D.str)=true:=qz0 fun _ _=>rfl
theorem stAd{c:CF}{n:Nat}{τ:Sl}{st:Store}{a b:E}{x y:List Str}(ha:(runK c n).ev τ st a=some (.lst (x.map D.str),st))(hb:(runK c n).ev τ st b=some (.lst (y.map D.str),st))(hl:x.length+y.length<10000):(runK c (n+2)).ev τ st (.gc (.bin .Add a b))=some (.lst ((x++y).map D.str),st):=by
 have:=qci (c:=c) (n:=n) (τ:=τ) (st:=st) ha hb rfl rfl (by simp; omega) (by rw[← Qzu]; exact qe9 _)
 rw[← Qzu]at this
 exact this
noncomputable def lT(ns:List Int)(F:D)(cs:List Nat)(y a b:Option D):Sl:=[some (sD ns),some F,some (.str (mk cs)),some (.lst (odd.map D.str)),y,a,b]
noncomputable def lbody:List S:=[.set (.var 2) (.gc (.call 27 [(.var 0),(.bin .Add (.lit (.int 3)) (.var 4)),(.lit (.int 0)),(.var 2)]))]
theorem qhc(ns:List Int)(hn:ns.length≤63)(F:D)(i:Int){B:Nat}(cs:List Nat)(hg:Gt B cs)(hB:B<1000)(n:Nat):∃ cs',Gt (B+2) cs'∧(rn fns 19 (n+20)).ex (lT ns F cs (some (.int i)) none none) [] lbody=some (.nx (lT ns F cs' (some (.int i)) none none),[]):=by
 have v0:∀ n,(rn fns 19 (n+1)).ev (lT ns F cs (some (.int i)) none none) [] (.var 0)=some (sD ns,[]):=fun n=>rfl
 have v1:∀ n,(rn fns 19 (n+1)).ev (lT ns F cs (some (.int i)) none none) [] (.var 2)=some (.str (mk cs),[]):=fun n=>rfl
 have k1:∀ n,(rn fns 19 (n+2)).ev (lT ns F cs (some (.int i)) none none) [] (.bin .Add (.lit (.int 3)) (.var 4))=some (.int (3+i),[]):=fun n=>evB (n:=n+1) rfl rfl (pA _ _ _)
 have q3:∀ n,(rn fns 19 (n+1)).ev (lT ns F cs (some (.int i)) none none) [] (.lit (.int 0))=some (.int 0,[]):=fun n=>rfl
 obtain⟨cs',g',e'⟩:=qmp 17 [] ns hn (3+i) cs hg hB
 refine⟨cs',g',?_⟩
 rw[ex_k]
 unfold lbody
 exact(qzz (b:=[]) (stS (n:=n+19) (qzb (r:=[]) (n:=n+16) (ds:=[sD ns,.int (3+i),.int 0,.str (mk cs)]) (by simp only[evs,v0,k1,v1,q3,oBs]) e' rfl) rfl)).trans rfl
theorem law_ok(ns:List Int)(hn:ns.length≤63):∃ st',callD fns 20 29 [.lst (ns.map D.int)] []=some (.bl true,st'):=by
 obtain⟨w,t,d,w0,w1,t0,t1,d0,d1,ez⟩:=qla hn (m:=19) (by omega) 0
 obtain⟨f,hf,ef⟩:=qlv hn (m:=19) (by omega) 1 w t d w0 w1 t0 t1 d0 d1 []
 have ew:=qc4 18 [] f hf
 have g0:=f_gt hf
 refine⟨[],call_of (0+30) (F:=qhm) rfl rfl rfl ?_⟩
 show exs (stepEx (rn fns 19 (0+30))) qh7 [some (sD ns),none,none,none,none,none,none] []=_
 unfold qh7
 have s1:stepEx (rn fns 19 (0+30)) [some (sD ns),none,none,none,none,none,none] [] (.set (.var 1) (.gc (.call 21 [(.var 0),(.lit (.int 1)),(.gc (.call 9 [(.var 0),(.lit (.int 0))]))])))=some (.nx [some (sD ns),some (fD f),none,none,none,none,none],[]):=by
  have a1:∀ n,(rn fns 19 (n+4)).ev [some (sD ns),none,none,none,none,none,none] [] (.gc (.call 9 [(.var 0),(.lit (.int 0))]))=some (zD w t d,[]):=fun n=>qzb (r:=[]) (n:=n+1) (ds:=[sD ns,.int 0]) rfl (ez []) rfl
  have v0:∀ n,(rn fns 19 (n+1)).ev [some (sD ns),none,none,none,none,none,none] [] (.var 0)=some (sD ns,[]):=fun n=>rfl
  have q1:∀ n,(rn fns 19 (n+1)).ev [some (sD ns),none,none,none,none,none,none] [] (.lit (.int 1))=some (.int 1,[]):=fun n=>rfl
  exact stS (qzb (r:=[]) (n:=27) (ds:=[sD ns,.int 1,zD w t d]) (by simp only[evs,v0,q1,a1,oBs]) ef (fD_nl f)) rfl
 have s1':stepEx (rn fns 19 (0+30)) [some (sD ns),some (fD f),none,none,none,none,none] [] (.set (.var 2) (.gc (.call 26 [(.var 1)])))=some (.nx [some (sD ns),some (fD f),some (.str (mk (fX f))),none,none,none,none],[]):=stS (qzb (r:=[]) (n:=27) (ds:=[fD f]) rfl ew rfl) rfl
 rw[qzz s1,qzz s1']
 generalize fX f=x0 at g0
 generalize fD f=F
 have s2:stepEx (rn fns 19 (0+30)) [some (sD ns),some F,some (.str (mk x0)),none,none,none,none] [] (.set (.var 3) (.gc (.lst [(.lit (.str "")),(.lit (.str " ")),(.lit (.str "vein")),(.lit (.str "vein - ")),(.lit (.str "vein 0 1")),(.lit (.str "vein 0")),(.lit (.str "vein - 1,2,3")),(.lit (.str "vein -- 1,2")),(.lit (.str "vein 00 1,"))])))=some (.nx [some (sD ns),some F,some (.str (mk x0)),some (.lst (odd1.map D.str)),none,none,none],[]):=stS (qxa (n:=28) (ds:=odd1.map D.str) rfl (by decide) (qe9 _)) rfl
 have ad:∀ (x y:List Str) (es:List E),evs ((rn fns 19 26).ev [some (sD ns),some F,some (.str (mk x0)),some (.lst (x.map D.str)),none,none,none]) es []=some (y.map D.str,[])→y.length≤1000→x.length≤1000→stepEx (rn fns 19 (0+30)) [some (sD ns),some F,some (.str (mk x0)),some (.lst (x.map D.str)),none,none,none] [] (.set (.var 3) (.gc (.bin .Add (.var 3) (.gc (.lst es)))))=some (.nx [some (sD ns),some F,some (.str (mk x0)),some (.lst ((x++y).map D.str)),none,none,none],[]):=fun x y es h hy hx=>stS (stAd (n:=28) (x:=x) (y:=y) rfl (qxa (n:=26) h (by simpa using hy) (qe9 _)) (by omega)) rfl
 rw[qzz s2,qzz (ad odd1 odd2 _ rfl (by decide) (by decide)),qzz (ad (odd1++odd2) odd3 _ rfl (by decide) (by decide))]
 show exs (stepEx (rn fns 19 (0+30))) _ (lT ns F x0 none none none) []=_
 obtain⟨x1,g1,s6⟩:∃ x1,Gt 500 x1∧stepEx (rn fns 19 (0+30)) (lT ns F x0 none none none) [] (.ite (.cmp .Eq (.gc (.call 7 [(.var 0),(.lit (.int 2)),(.lit (.int 20)),(.lit (.int 8))])) (.lit (.int 0))) [.set (.var 2) (.idx (.var 3) (.gc (.call 7 [(.var 0),(.lit (.int 2)),(.lit (.int 21)),(.bcall .len [(.var 3)])])))] [])=some (.nx (lT ns F x1 none none none),[]):=by
  have d1:=drwG 18 [] ns 2 20 8 hn (by omega) (by omega) (by omega)
  have c1:∀ n,(rn fns 19 (n+4)).ev (lT ns F x0 none none none) [] (.gc (.call 7 [(.var 0),(.lit (.int 2)),(.lit (.int 20)),(.lit (.int 8))]))=some (.int (drawV ns 2 20 8),[]):=fun n=>qzb (r:=[]) (n:=n+1) (ds:=[sD ns,.int 2,.int 20,.int 8]) rfl d1 rfl
  have t1:∀ n,(rn fns 19 (n+5)).tst (lT ns F x0 none none none) [] (.cmp .Eq (.gc (.call 7 [(.var 0),(.lit (.int 2)),(.lit (.int 20)),(.lit (.int 8))])) (.lit (.int 0)))=some (drawV ns 2 20 8==0,[]):=fun n=>tCmp (n:=n+4) (x:=.int (drawV ns 2 20 8)) (y:=.int 0) (c1 n) rfl (by simp only[cmpD,qqs])
  by_cases h:drawV ns 2 20 8=0
  ·have z0:=qq7 ns 2 21 (many:=21) (by omega)
   have z1:=qq8 ns 2 21 (many:=21) (by omega)
   have hme:=getD_mem odd "" (drawV ns 2 21 21) z0 (by show _<(21:Int); exact z1)
   have hix:=qwq D.str odd "" (drawV ns 2 21 21) z0 (by show _<(21:Int); exact z1) []
   obtain⟨o1,o2⟩:=odd_gt _ hme
   generalize odd.getD (drawV ns 2 21 21).toNat "" = z at hix o1 o2
   refine⟨z.cps.toList,⟨fun c hc=>by have:=Qq3.mp o1 c hc; simpa using this,o2⟩,?_⟩
   have d2:=drwG 18 [] ns 2 21 21 hn (by omega) (by omega) (by omega)
   have ln:∀ n,(rn fns 19 (n+3)).ev (lT ns F x0 none none none) [] (.bcall .len [(.var 3)])=some (.int 21,[]):=fun n=>rfl
   have v0:∀ n,(rn fns 19 (n+1)).ev (lT ns F x0 none none none) [] (.var 0)=some (sD ns,[]):=fun n=>rfl
   have q3:∀ (q:Int) n,(rn fns 19 (n+1)).ev (lT ns F x0 none none none) [] (.lit (.int q))=some (.int q,[]):=fun q n=>rfl
   have c2:∀ n,(rn fns 19 (n+6)).ev (lT ns F x0 none none none) [] (.gc (.call 7 [(.var 0),(.lit (.int 2)),(.lit (.int 21)),(.bcall .len [(.var 3)])]))=some (.int (drawV ns 2 21 21),[]):=fun n=>qzb (r:=[]) (n:=n+3) (ds:=[sD ns,.int 2,.int 21,.int 21]) (by simp only[evs,v0,q3,ln,oBs]) d2 rfl
   refine(qzk (st':=[]) (by rw[t1 25,h]; rfl)).trans ?_
   rw[ex_k]
   exact(qzz (b:=[]) (stS (n:=29) (evX (n:=28) (x:=.lst (odd.map D.str)) rfl (c2 22) hix) rfl)).trans rfl
  ·exact⟨x0,g0,(qzx (st':=[]) (by rw[t1 25,show(drawV ns 2 20 8==0)=false by simpa using h])).trans rfl⟩
 rw[qzz s6]
 obtain⟨x2,y2,g2,s7⟩:∃ x2 y,Gt 590 x2∧stepEx (rn fns 19 (0+30)) (lT ns F x1 none none none) [] (.forr (.var 4) (.rng1 (.gc (.call 7 [(.var 0),(.lit (.int 2)),(.lit (.int 22)),(.lit (.int 3))]))) lbody)=some (.nx (lT ns F x2 y none none),[]):=by
  have z0:=qq7 ns 2 22 (many:=3) (by omega)
  have z1:=qq8 ns 2 22 (many:=3) (by omega)
  have d1:=drwG 18 [] ns 2 22 3 hn (by omega) (by omega) (by omega)
  obtain⟨q,hq⟩:∃ q:Nat,drawV ns 2 22 3=(q:Int):=⟨(drawV ns 2 22 3).toNat,by omega⟩
  rw[hq]at z0 z1 d1
  have c1:∀ n,(rn fns 19 (n+4)).ev (lT ns F x1 none none none) [] (.gc (.call 7 [(.var 0),(.lit (.int 2)),(.lit (.int 22)),(.lit (.int 3))]))=some (.int (q:Int),[]):=fun n=>qzb (r:=[]) (n:=n+1) (ds:=[sD ns,.int 2,.int 22,.int 3]) rfl d1 rfl
  have sr:src (rn fns 19 (0+30)) (lT ns F x1 none none none) [] (.rng1 (.gc (.call 7 [(.var 0),(.lit (.int 2)),(.lit (.int 22)),(.lit (.int 3))])))=some (.rng 0 q,[]):=by
   have hb:big (q:Int)=false:=by unfold big; simp; omega
   simp only[src,c1 26,oBs,hb]
   rfl
  obtain⟨τ',S',⟨rfl,cs,y,hgc,rfl⟩,e⟩:=qxo (ds:=(List.range q).map fun(j:Nat)=>D.int (0+j)) (s:=.rng 0 q) (f:=fun τ S d=>(setT (.var 4) d τ).bind fun τ'=>(rn fns 19 (0+30)).ex τ' S lbody) (τ:=lT ns F x1 none none none) (st:=[]) (fun i τ S=>S=[]∧∃ cs y,Gt (500+2*i) cs∧τ=lT ns F cs y none none) (fun i τ S _=>qgg 0 q i) (fun i τ S d hi hd p=>by
   obtain⟨rfl,cs,y,hgc,rfl⟩:=p
   have hi:i<q:=by simpa using hi
   rw[Qqn,List.getElem?_range hi]at hd
   cases hd
   obtain⟨cs',g',e'⟩:=qhc ns hn F (0+(i:Int)) cs hgc (by omega) 10
   exact⟨_,_,e',rfl,cs',_,g',rfl⟩) ⟨rfl,x1,none,g1,rfl⟩
  refine⟨cs,y,?_,?_⟩
  ·have hlen:((List.range q).map fun(j:Nat)=>D.int (0+j)).length=q:=by simp
   rw[hlen]at hgc
   exact hgc.mono (by omega)
  ·show(src (rn fns 19 (0+30)) (lT ns F x1 none none none) [] _).bind _=_
   rw[sr,oBs]
   rw[show((List.range q).map fun(j:Nat)=>D.int (0+j)).length=Src.size [] (.rng 0 q) by simp[Src.size]]at e
   exact e
 refine(qzz s7).trans ?_
 obtain⟨w2,r2,hs2⟩:=qyw 32 x2
 have hw2:=qk5 g2 (by omega)
 have hn2:=qk6 g2
 have hp:pv x2=(faO (w2::r2)).getD .non:=by unfold pv; rw[hs2]
 have sp:=qjs (c:=callD fns 19) (n:=24) (τ:=lT ns F x2 y2 none none) (st:=[]) (i:=2) (cs:=x2) qb0 rfl (by have:=g2.2; omega)
 rw[hs2]at hw2 hn2 sp
 obtain⟨rr,el⟩:=qhb 15 w2 r2 hw2 (by simp only[Qqv]at hn2; omega)
 rw[← hp]at el
 have s8:stepEx (rn fns 19 (0+30)) (lT ns F x2 y2 none none) [] (.set (.var 5) (.gc (.call 25 [(.gc (.meth (.var 2) .split [(.lit (.str " "))]))])))=some (.nx (lT ns F x2 y2 (some (pv x2)) none),[]):=stS (qzb (r:=rr) (n:=27) (ds:=[.lst ((w2::r2).map tD)]) (by simp only[evs,sp,oBs]) el (qg4 x2)) rfl
 have s9:stepEx (rn fns 19 (0+30)) (lT ns F x2 y2 (some (pv x2)) none) [] (.set (.var 6) (.gc (.call 28 [(.var 2)])))=some (.nx (lT ns F x2 y2 (some (pv x2)) (some (pv x2))),[]):=stS (qzb (r:=[]) (n:=27) (ds:=[.str (mk x2)]) rfl (told_ok 10 [] x2 g2) (qg4 x2)) rfl
 rw[qzz s8,qzz s9]
 have e6:=qlc hSame (dp_pv x2 g2 (by omega)) 19 [] (by omega)
 cases hq:pv x2 with
 |non=>
  refine qzj ((qzk (st':=[]) rfl).trans ?_)
  rw[ex_k]
  exact qzj rfl
 |tup ds=>
  rw[hq]at e6
  refine(qzz (τ':=lT ns F x2 y2 (some (.tup ds)) (some (.tup ds))) (s':=[]) ((qzx (st':=[]) rfl).trans rfl)).trans (qzj (stR ?_))
  have v:evs ((rn fns 19 29).ev (lT ns F x2 y2 (some (.tup ds)) (some (.tup ds)))) [(.var 6),(.var 5)] []=some ([.tup ds,.tup ds],[]):=rfl
  rw[ev_k]
  simp only[stepEv,v,oBs,call_k,e6]
 |bl b=>exact absurd hq (qed x2).1
 |int i=>exact absurd hq (qed x2).2.1
 |str z=>exact absurd hq (qed x2).2.2.1
 |lst ds=>exact absurd hq (qed x2).2.2.2.1
 |loc l=>exact absurd hq (qed x2).2.2.2.2
end K08
end
section
namespace MS
open PySem PySem.Spec PyProof.Rows L2
section
variable {prog:Program}{w:World}{A:Around}{E:Value→Shared→Prop}{s:Shared}
theorem qjw{t sl:Addr}{items:Array Value}{vl vu:Value}{lo hi:Option Int}{Q:Value→Shared→Prop}(ht:IsTup s.heap t items)(hs:s.heap.IsSliceOf sl vl vu .none)(pl:IsPart vl lo)(pu:IsPart vu hi)
  (hw:HT.sIx items.size 0 lo=0∧HT.sIx items.size items.size hi=items.size) (h:Q (.ref t) s):wpAny (model prog w) A (getItem (.ref t) (.ref sl)) Q E s:=by
 obtain⟨os,hos,hcs,hds⟩:=id hs
 have hTs:s.TypeIs (.ref sl) "slice":=⟨os,hos,hcs⟩
 unfold getItem
 try with_reducible refine wpAny_holding ?_
 first|refine wpAny_bind (wpAny_pure ?_)|skip
 refine wpAny_bind (wpAny_sequenceKey ht.typeIs (by decide) ?_)
 refine wpAny_bind (wpAny_callSpecial?_slot (name:=Str.ofString "__getitem__") ht.typeIs PyProof.Rows.slot_tuple_getitem
  (wpAny_call_entry PyProof.Rows.slot_tuple_getitem ht.typeIs entry_tuple_getitem ?_ (args_tuple_getitem _ _)))
 show wpAny _ _ (Builtin.Tuple.tupleItemsOf (.ref t) >>= _) _ _ s
 refine wpAny_bind (tupleItemsOf_ ht ?_)
 refine wpAny_bind (wpAny_typeOf hTs ?_)
 rw[if_pos (by decide)]
 refine wpAny_bind (HT.sliceApplied_gen hs pl pu ?_)
 have hyes:(((HT.sIx items.size 0 lo:Nat):Int)==0&&(1:Int)==1&&(HT.sIx items.size items.size hi - HT.sIx items.size 0 lo)==items.size)=true:=by
  rw[hw.1,hw.2]
  simp
 show wpAny _ _ (if (((HT.sIx items.size 0 lo:Nat):Int)==0&&(1:Int)==1&&(HT.sIx items.size items.size hi - HT.sIx items.size 0 lo)==items.size)=true then _ else _) _ _ s
 rw[if_pos hyes]
 refine wpAny_bind (m:=Builtin.Tuple.tupleIsExact _) ?_
 unfold Builtin.Tuple.tupleIsExact
 refine wpAny_bind (wpAny_typeOf ht.typeIs (wpAny_pure ?_))
 rw[if_pos (by decide)]
 first
  |exact wpAny_bind (wpAny_rule (wpAny_pure ⟨_,rfl,wpAny_pure h⟩))
  |exact wpAny_bind (wpAny_rule (wpAny_bind (wpAny_pure (wpAny_pure ⟨_,rfl,wpAny_pure h⟩))))
  |exact wpAny_bind (wpAny_bind (wpAny_rule (wpAny_pure (wpAny_pure ⟨_,rfl,wpAny_pure h⟩))))
end
end MS
end
section
namespace MS
open PySem PySem.Spec PyProof.Rows L2
open M (D Cell Store Sl)
def SqF(K:Qqq)(H:Hp)(a:Addr)(xs:List V):Prop:=
 (∃ o,H a=some (.frz o (.lst xs)))∨∃ (o:Obj) (its:Array Value) (n:Nat),K.lookup a=some o∧o.cls=.type "list"∧o.dict=none∧o.data=.seq its n∧its.size≤sizeLine∧Vals xs its.toList
mutual
noncomputable def IsD(K:Qqq)(m:List Addr)(H:Hp):D→V→Prop
 |.non,v=>v=.non
 |.bl b,v=>v=.bl b
 |.int i,v=>v=.int i
 |.str s,v=>v=.str s
 |.tup ds,v=>∃ a xs,v=.ref a∧SqT K H a xs∧IsDs K m H ds xs
 |.lst ds,v=>∃ a xs,v=.ref a∧SqF K H a xs∧IsDs K m H ds xs
 |.loc l,v=>∃ a,m[l]?=some a∧v=.ref a
noncomputable def IsDs(K:Qqq)(m:List Addr)(H:Hp):List D→List V→Prop
 |[],xs=>xs=[]
 |d::ds,xs=>∃ x r,xs=x::r∧IsD K m H d x∧IsDs K m H ds r
end
def Sub(m m':List Addr):Prop:=∀ (l:Nat) (a:Addr),m[l]?=some a→m'[l]?=some a
structure Tr (H H':Hp):Prop where
 tup:∀ b xs,H b=some (.tup xs)→H' b=some (.tup xs)
 frz:∀ b o u,H b=some (.frz o u)→H' b=some (.frz o u)
theorem Sub.refl(m:List Addr):Sub m m:=fun _ _ h=>h
theorem Sub.trans{m m1 m2:List Addr}(a:Sub m m1)(b:Sub m1 m2):Sub m m2:=fun l x h=>b l x (a l x h)
theorem Sub.app(m r:List Addr):Sub m (m++r):=fun l a h=>by
 rw[Qq7 (Qqd.mp h).1]; exact h
theorem Tr.refl(H:Hp):Tr H H:=⟨fun _ _ h=>h,fun _ _ _ h=>h⟩
theorem Tr.trans{H H1 H2:Hp}(a:Tr H H1)(b:Tr H1 H2):Tr H H2:=⟨fun c xs h=>b.tup c xs (a.tup c xs h),fun c o u h=>b.frz c o u (a.frz c o u h)⟩
theorem Tr.of_same{H H':Hp}(h:Same H H'):Tr H H':=⟨fun b xs e=>h b _ e,fun b o u e=>h b _ e⟩
theorem qzo{H:Hp}{p:Addr}{o:HO}(hp:H p=none):Same H (upd H p o):=fun b u e=>by
 rw[qzy (qzi e hp)]; exact e
theorem Tr.put{H:Hp}{p:Addr}{xs ys:List V}(hp:H p=some (.lst xs)):Tr H (upd H p (.lst ys)):=
 ⟨fun b zs e=>by rw[qzy (qjh e hp (by intro z; cases z))]; exact e,fun b o u e=>by rw[qzy (qjh e hp (by intro z; cases z))]; exact e⟩
theorem Tr.sqT{K:Qqq}{H H':Hp}{a:Addr}{xs:List V}(t:Tr H H')(h:SqT K H a xs):SqT K H' a xs:=by
 rcases h with (h|⟨o,h⟩)|h
 ·exact .inl (.inl (t.tup _ _ h))
 ·exact .inl (.inr ⟨o,t.frz _ _ _ h⟩)
 ·exact .inr h
theorem SqF.sq{K:Qqq}{H:Hp}{a:Addr}{xs:List V}(h:SqF K H a xs):SqL K H a xs:=by
 rcases h with h|h
 ·exact .inl (.inr h)
 ·exact .inr h
theorem Tr.sqF{K:Qqq}{H H':Hp}{a:Addr}{xs:List V}(t:Tr H H')(h:SqF K H a xs):SqF K H' a xs:=by
 rcases h with⟨o,h⟩|h
 ·exact .inl ⟨o,t.frz _ _ _ h⟩
 ·exact .inr h
section
variable {K:Qqq}{m m':List Addr}{H H':Hp}
mutual
theorem qze(hs:Sub m m')(ht:Tr H H'):∀ (d:D) (v:V),IsD K m H d v→IsD K m' H' d v
 |.non,_,h=>h
 |.bl _,_,h=>h
 |.int _,_,h=>h
 |.str _,_,h=>h
 |.tup ds,_,h=>by
  unfold IsD at h ⊢
  obtain⟨a,xs,e,q,r⟩:=h
  exact⟨a,xs,e,ht.sqT q,qza hs ht ds xs r⟩
 |.lst ds,_,h=>by
  unfold IsD at h ⊢
  obtain⟨a,xs,e,q,r⟩:=h
  exact⟨a,xs,e,ht.sqF q,qza hs ht ds xs r⟩
 |.loc l,_,h=>by
  unfold IsD at h ⊢
  obtain⟨a,e,q⟩:=h
  exact⟨a,hs l a e,q⟩
theorem qza(hs:Sub m m')(ht:Tr H H'):∀ (ds:List D) (xs:List V),IsDs K m H ds xs→IsDs K m' H' ds xs
 |[],_,h=>h
 |d::ds,_,h=>by
  unfold IsDs at h ⊢
  obtain⟨x,r,e,q,t⟩:=h
  exact⟨x,r,e,qze hs ht d x q,qza hs ht ds r t⟩
end
theorem IsD.int{i:Int}{v:V}(h:IsD K m H (.int i) v):v=.int i:=by unfold IsD at h; exact h
theorem IsD.bl{i:Bool}{v:V}(h:IsD K m H (.bl i) v):v=.bl i:=by unfold IsD at h; exact h
theorem IsD.str{i:Str}{v:V}(h:IsD K m H (.str i) v):v=.str i:=by unfold IsD at h; exact h
theorem IsD.non{v:V}(h:IsD K m H .non v):v=.non:=by unfold IsD at h; exact h
theorem IsD.tup{ds:List D}{v:V}(h:IsD K m H (.tup ds) v):∃ a xs,v=.ref a∧SqT K H a xs∧IsDs K m H ds xs:=by unfold IsD at h; exact h
theorem IsD.lst{ds:List D}{v:V}(h:IsD K m H (.lst ds) v):∃ a xs,v=.ref a∧SqF K H a xs∧IsDs K m H ds xs:=by unfold IsD at h; exact h
theorem IsD.loc{l:Nat}{v:V}(h:IsD K m H (.loc l) v):∃ a,m[l]?=some a∧v=.ref a:=by unfold IsD at h; exact h
theorem mkInt(i:Int):IsD K m H (.int i) (.int i):=by unfold IsD; rfl
theorem mkBl(i:Bool):IsD K m H (.bl i) (.bl i):=by unfold IsD; rfl
theorem mkStr(i:Str):IsD K m H (.str i) (.str i):=by unfold IsD; rfl
theorem qyu:IsD K m H .non .non:=by unfold IsD; rfl
theorem qxw{ds:List D}{a:Addr}{xs:List V}(h:SqT K H a xs)(q:IsDs K m H ds xs):IsD K m H (.tup ds) (.ref a):=by unfold IsD; exact⟨a,xs,rfl,h,q⟩
theorem qfv{ds:List D}{a:Addr}{xs:List V}(h:SqF K H a xs)(q:IsDs K m H ds xs):IsD K m H (.lst ds) (.ref a):=by unfold IsD; exact⟨a,xs,rfl,h,q⟩
theorem qmq{l:Nat}{a:Addr}(h:m[l]?=some a):IsD K m H (.loc l) (.ref a):=by unfold IsD; exact⟨a,h,rfl⟩
theorem IsDs.nil{xs:List V}(h:IsDs K m H [] xs):xs=[]:=by unfold IsDs at h; exact h
theorem IsDs.cons{d:D}{ds:List D}{xs:List V}(h:IsDs K m H (d::ds) xs):∃ x r,xs=x::r∧IsD K m H d x∧IsDs K m H ds r:=by unfold IsDs at h; exact h
theorem qz7:IsDs K m H [] []:=by unfold IsDs; rfl
theorem qzw{d:D}{ds:List D}{x:V}{r:List V}(h:IsD K m H d x)(t:IsDs K m H ds r):IsDs K m H (d::ds) (x::r):=by unfold IsDs; exact⟨x,r,rfl,h,t⟩
theorem IsDs.one{d:D}{xs:List V}(h:IsDs K m H [d] xs):∃ x,xs=[x]∧IsD K m H d x:=by
 obtain⟨x,r,rfl,q,t⟩:=h.cons
 rw[t.nil]
 exact⟨x,rfl,q⟩
theorem IsDs.two{d e:D}{xs:List V}(h:IsDs K m H [d,e] xs):∃ x y,xs=[x,y]∧IsD K m H d x∧IsD K m H e y:=by
 obtain⟨x,r,rfl,q,t⟩:=h.cons
 obtain⟨y,rfl,q'⟩:=t.one
 exact⟨x,y,rfl,q,q'⟩
theorem IsDs.length:∀ {ds:List D}{xs:List V},IsDs K m H ds xs→ds.length=xs.length
 |[],_,h=>by rw[h.nil]; rfl
 |_::_,_,h=>by
  obtain⟨x,r,rfl,_,t⟩:=h.cons
  rw[Qqv,Qqv,t.length]
theorem IsDs.get:∀ {ds:List D}{xs:List V}{i:Nat}{d:D},IsDs K m H ds xs→ds[i]?=some d→∃ x,xs[i]?=some x∧IsD K m H d x
 |[],_,_,_,_,e=>by simp at e
 |d::ds,_,0,d',h,e=>by
  obtain⟨x,r,rfl,q,_⟩:=h.cons
  have e':d=d':=by simpa using e
  subst e'
  exact⟨x,rfl,q⟩
 |d::ds,_,i+1,d',h,e=>by
  obtain⟨x,r,rfl,_,t⟩:=h.cons
  obtain⟨y,e1,e2⟩:=t.get (i:=i) (d:=d') (by simpa using e)
  exact⟨y,by simpa using e1,e2⟩
theorem IsDs.back:∀ {ds:List D}{xs:List V}{i:Nat}{x:V},IsDs K m H ds xs→xs[i]?=some x→∃ d,ds[i]?=some d∧IsD K m H d x:=fun {ds xs i x} h e=>by
 have hl:=h.length
 have hi:=(Qqd.mp e).1
 have e2:ds[i]?=some (ds[i]'(by omega)):=by simp
 obtain⟨y,e3,q⟩:=h.get e2
 rw[e]at e3
 cases e3
 exact⟨_,e2,q⟩
theorem IsDs.append:∀ {ds es:List D}{xs ys:List V},IsDs K m H ds xs→IsDs K m H es ys→IsDs K m H (ds++es) (xs++ys)
 |[],_,_,_,h,q=>by rw[h.nil]; exact q
 |_::_,_,_,_,h,q=>by
  obtain⟨x,r,rfl,a,t⟩:=h.cons
  exact qzw a (t.append q)
theorem IsDs.set:∀ {ds:List D}{xs:List V}(i:Nat){d:D}{x:V},IsDs K m H ds xs→IsD K m H d x→IsDs K m H (ds.set i d) (xs.set i x)
 |[],_,_,_,_,h,_=>by rw[h.nil]; exact qz7
 |_::_,_,0,_,_,h,q=>by
  obtain⟨x,r,rfl,a,t⟩:=h.cons
  exact qzw q t
 |_::_,_,i+1,_,_,h,q=>by
  obtain⟨x,r,rfl,a,t⟩:=h.cons
  exact qzw a (t.set i q)
end
noncomputable def keyOf:D→Option Key
 |.int i=>some (.inl i)
 |.str z=>some (.inr z)
 |_=>none
noncomputable def IsKV(K:Qqq)(m:List Addr)(H:Hp):List (D×D)→List (Key×V)→Prop
 |[],xs=>xs=[]
 |p::r,xs=>∃ k v xr,xs=(k,v)::xr∧keyOf p.1=some k∧IsD K m H p.2 v∧IsKV K m H r xr
theorem qjp{K:Qqq}{m m':List Addr}{H H':Hp}(hs:Sub m m')(ht:Tr H H'):∀ (kvs:List (D×D)) (xs:List (Key×V)),IsKV K m H kvs xs→IsKV K m' H' kvs xs
 |[],_,h=>h
 |p::r,_,⟨k,v,xr,e,hk,hv,hr⟩=>⟨k,v,xr,e,hk,qze hs ht _ _ hv,qjp hs ht r xr hr⟩
theorem IsKV.length{K:Qqq}{m:List Addr}{H:Hp}:∀ {kvs:List (D×D)}{xs:List (Key×V)},IsKV K m H kvs xs→kvs.length=xs.length
 |[],_,h=>by rw[show _=[] from h]; rfl
 |p::r,_,⟨k,v,xr,e,_,_,hr⟩=>by rw[e,Qqv,Qqv,hr.length]
theorem qft{a b:D}{k j:Key}(ha:keyOf a=some k)(hb:keyOf b=some j):M.eqT a b=decide (k=j):=by
 cases a with
 |int i=>
  cases ha
  cases b with
  |int i'=>cases hb; rw[M.eqT]; by_cases h:i=i'<;>simp[h]
  |str z=>cases hb; simp[M.eqT]
  |_=>cases hb
 |str z=>
  cases ha
  cases b with
  |int i'=>cases hb; simp[M.eqT]
  |str z'=>cases hb; rw[M.eqT]; by_cases h:z=z'<;>simp[h]
  |_=>cases hb
 |_=>cases ha
theorem qjm{a:D}(h:M.isKey a=true):∃ k,keyOf a=some k:=by
 cases a with
 |int i=>exact⟨_,rfl⟩
 |str z=>exact⟨_,rfl⟩
 |_=>cases h
theorem qma{K:Qqq}{m:List Addr}{H:Hp}{a:D}{k:Key}{v:V}(h:keyOf a=some k)(i:IsD K m H a v):v=kV k:=by
 cases a with
 |int i'=>cases h; exact i.int
 |str z=>cases h; exact i.str
 |_=>cases h
theorem IsKV.get{K:Qqq}{m:List Addr}{H:Hp}{a:D}{j:Key}(ha:keyOf a=some j):∀ {kvs:List (D×D)}{xs:List (Key×V)},IsKV K m H kvs xs→(M.dget kvs a=none∧valV xs j=none)∨∃ d v,M.dget kvs a=some d∧valV xs j=some v∧IsD K m H d v
 |[],_,h=>by rw[show _=[] from h]; exact .inl ⟨rfl,rfl⟩
 |p::r,_,⟨k,v,xr,e,hk,hv,hr⟩=>by
  subst e
  have eq:=qft hk ha
  by_cases hkj:k=j
  ·refine .inr ⟨p.2,v,?_,qkr (p:=(k,v)) hkj,hv⟩
   rw[decide_eq_true hkj]at eq
   simp[M.dget,Qzq,eq]
  ·rw[decide_eq_false hkj]at eq
   have e1:M.dget (p::r) a=M.dget r a:=by simp[M.dget,Qzq,eq]
   rw[e1,qks (p:=(k,v)) hkj]
   exact hr.get ha
theorem IsKV.any{K:Qqq}{m:List Addr}{H:Hp}{a:D}{j:Key}(ha:keyOf a=some j):∀ {kvs:List (D×D)}{xs:List (Key×V)},IsKV K m H kvs xs→(kvs.any fun p=>M.eqT p.1 a)=(xs.any fun p=>decide (p.1=j))
 |[],_,h=>by rw[show _=[] from h]; rfl
 |p::r,_,⟨k,v,xr,e,hk,hv,hr⟩=>by
  subst e
  rw[Qq2,Qq2,qft hk ha,hr.any ha]
theorem IsKV.repl{K:Qqq}{m:List Addr}{H:Hp}{a d:D}{j:Key}{w:V}(ha:keyOf a=some j)(hd:IsD K m H d w):∀ {kvs:List (D×D)}{xs:List (Key×V)},IsKV K m H kvs xs→IsKV K m H (kvs.map fun p=>if M.eqT p.1 a then(p.1,d) else p) (xs.map fun p=>if p.1=j then(p.1,w) else p)
 |[],_,h=>by rw[show _=[] from h]; rfl
 |p::r,_,⟨k,v,xr,e,hk,hv,hr⟩=>by
  subst e
  have eq:=qft hk ha
  rw[Qqt,Qqt]
  by_cases hkj:k=j
  ·rw[decide_eq_true hkj]at eq
   rw[if_pos eq,if_pos hkj]
   exact⟨k,w,_,rfl,hk,hd,hr.repl ha hd⟩
  ·rw[decide_eq_false hkj]at eq
   rw[if_neg (by rw[eq]; nofun),if_neg hkj]
   exact⟨k,v,_,rfl,hk,hv,hr.repl ha hd⟩
theorem IsKV.snoc{K:Qqq}{m:List Addr}{H:Hp}{a d:D}{j:Key}{w:V}(ha:keyOf a=some j)(hd:IsD K m H d w):∀ {kvs:List (D×D)}{xs:List (Key×V)},IsKV K m H kvs xs→IsKV K m H (kvs++[(a,d)]) (xs++[(j,w)])
 |[],_,h=>by rw[show _=[] from h]; exact⟨j,w,[],rfl,ha,hd,rfl⟩
 |p::r,_,⟨k,v,xr,e,hk,hv,hr⟩=>by
  subst e
  exact⟨k,v,_,rfl,hk,hv,hr.snoc ha hd⟩
theorem IsKV.put{K:Qqq}{m:List Addr}{H:Hp}{a d:D}{j:Key}{w:V}{kvs:List (D×D)}{xs:List (Key×V)}(h:IsKV K m H kvs xs)(ha:keyOf a=some j)(hd:IsD K m H d w):IsKV K m H (M.dput kvs a d) (putK xs j w):=by
 unfold M.dput putK
 rw[h.any ha]
 split
 ·exact h.repl ha hd
 ·exact h.snoc ha hd
theorem IsKV.merge{K:Qqq}{m:List Addr}{H:Hp}:∀ {more:List (D×D)}{ms:List (Key×V)}{kvs:List (D×D)}{xs:List (Key×V)},IsKV K m H more ms→IsKV K m H kvs xs→IsKV K m H (more.foldl (fun acc p=>M.dput acc p.1 p.2) kvs) (qv8 xs ms)
 |[],_,kvs,xs,h,q=>by rw[show _=[] from h]; exact q
 |p::r,_,kvs,xs,⟨k,v,xr,e,hk,hv,hr⟩,q=>by
  subst e
  exact hr.merge (q.put hk hv)
noncomputable def IsC(K:Qqq)(m:List Addr)(H:Hp):Cell→Addr→Prop
 |.lst true ds,a=>∃ xs,H a=some (.lst xs)∧IsDs K m H ds xs
 |.lst false ds,a=>∃ xs,SqF K H a xs∧IsDs K m H ds xs
 |.dic kvs,a=>∃ xs,H a=some (.dK xs)∧IsKV K m H kvs xs
noncomputable def Wr:Cell→Bool
 |.lst w _=>w
 |.dic _=>true
structure Rel (K:Qqq) (m:List Addr) (st:Store) (H:Hp):Prop where
 len:m.length=st.length
 nd:∀ (l l':Nat) (a:Addr) (c c':Cell),m[l]?=some a→m[l']?=some a→st[l]?=some c→st[l']?=some c'→Wr c=true→Wr c'=true→l=l'
 cell:∀ (l:Nat) (c:Cell) (a:Addr),st[l]?=some c→m[l]?=some a→IsC K m H c a
section
variable {K:Qqq}{m:List Addr}{st:Store}{H:Hp}
theorem Rel.addr(h:Rel K m st H){l:Nat}{c:Cell}(e:st[l]?=some c):∃ a,m[l]?=some a:=by
 have hl:=(Qqd.mp e).1
 have:=h.len
 exact⟨m[l]'(by omega),by simp⟩
theorem IsC.wr{c:Cell}{a:Addr}(h:IsC K m H c a)(w:Wr c=true):∃ o,H a=some o:=by
 cases c with
 |lst w' ds=>
  have e:w'=true:=w
  subst e
  obtain⟨xs,e,_⟩:=h
  exact⟨_,e⟩
 |dic kvs=>
  obtain⟨xs,e,_⟩:=h
  exact⟨_,e⟩
theorem Rel.list(h:Rel K m st H){l:Nat}{ds:List D}{v:V}(e:M.listAt st l=some ds)(hv:IsD K m H (.loc l) v):∃ a xs,m[l]?=some a∧v=.ref a∧SqL K H a xs∧IsDs K m H ds xs:=by
 obtain⟨a,ha,rfl⟩:=hv.loc
 unfold M.listAt at e
 split at e
 ·rename_i w ds' q
  cases e
  have c:=h.cell l _ a q ha
  cases w with
  |true=>
   obtain⟨xs,e1,e2⟩:=c
   exact⟨a,xs,ha,rfl,SqL.of e1,e2⟩
  |false=>
   obtain⟨xs,e1,e2⟩:=c
   exact⟨a,xs,ha,rfl,e1.sq,e2⟩
 ·cases e
theorem Rel.seq(h:Rel K m st H){d:D}{ds:List D}{v:V}(e:M.seqAt st d=some ds)(hv:IsD K m H d v):∃ a xs,True∧v=.ref a∧SqL K H a xs∧IsDs K m H ds xs:=by
 cases d with
 |loc l=>
  obtain⟨a,xs,_,q⟩:=h.list e hv
  exact⟨a,xs,trivial,q⟩
 |lst es=>
  cases e
  obtain⟨a,xs,e,q,r⟩:=hv.lst
  exact⟨a,xs,trivial,e,q.sq,r⟩
 |_=>cases e
theorem Rel.wlist(h:Rel K m st H){l:Nat}{ds:List D}{v:V}(e:M.wlistAt st l=some ds)(hv:IsD K m H (.loc l) v):∃ a xs,m[l]?=some a∧v=.ref a∧H a=some (.lst xs)∧IsDs K m H ds xs∧st[l]?=some (.lst true ds):=by
 obtain⟨a,ha,rfl⟩:=hv.loc
 unfold M.wlistAt at e
 split at e
 ·rename_i ds' q
  cases e
  obtain⟨xs,e1,e2⟩:=h.cell l _ a q ha
  exact⟨a,xs,ha,rfl,e1,e2,q⟩
 ·cases e
theorem qk0{m':List Addr}{H':Hp}(hs:Sub m m')(ht:Tr H H'){c:Cell}{a:Addr}(h:IsC K m H c a)(hw:Wr c=true→H' a=H a):IsC K m' H' c a:=by
 cases c with
 |lst w ds=>
  cases w with
  |true=>
   obtain⟨xs,e,q⟩:=h
   exact⟨xs,(hw rfl).trans e,qza hs ht ds xs q⟩
  |false=>
   obtain⟨xs,e,q⟩:=h
   exact⟨xs,ht.sqF e,qza hs ht ds xs q⟩
 |dic kvs=>
  obtain⟨xs,e,q⟩:=h
  exact⟨xs,(hw rfl).trans e,qjp hs ht kvs xs q⟩
theorem Rel.dict(h:Rel K m st H){l:Nat}{kvs:List (D×D)}{v:V}(e:M.dicAt st l=some kvs)(hv:IsD K m H (.loc l) v):∃ a xs,m[l]?=some a∧v=.ref a∧H a=some (.dK xs)∧IsKV K m H kvs xs∧st[l]?=some (.dic kvs):=by
 obtain⟨a,ha,rfl⟩:=hv.loc
 unfold M.dicAt at e
 split at e
 ·rename_i kvs' q
  cases e
  obtain⟨xs,e1,e2⟩:=h.cell l _ a q ha
  exact⟨a,xs,ha,rfl,e1,e2,q⟩
 ·cases e
theorem Rel.same(h:Rel K m st H){H':Hp}(s:Same H H'):Rel K m st H':=
 ⟨h.len,h.nd,fun l c a e ea=>qk0 (Sub.refl m) (Tr.of_same s) (h.cell l c a e ea) fun w=>by
  obtain⟨xs,q⟩:=(h.cell l c a e ea).wr w
  rw[q]; exact s _ _ q⟩
theorem Rel.newC(h:Rel K m st H){p:Addr}{o:HO}{c:Cell}(hp:H p=none)(hc:Wr c=true→True)(hd:IsC K (m++[p]) (upd H p o) c p):Rel K (m++[p]) (st++[c]) (upd H p o):=by
 have ht:Tr H (upd H p o):=Tr.of_same (qzo hp)
 have old:∀ (l:Nat) (e:Cell) (a:Addr),(st++[c])[l]?=some e→(m++[p])[l]?=some a→(l<st.length∧st[l]?=some e∧m[l]?=some a)∨(l=st.length∧e=c∧a=p):=by
  intro l e a he ea
  by_cases hl:l<st.length
  ·rw[Qq7 hl]at he
   rw[Qq7 (by rw[h.len]; exact hl)]at ea
   exact .inl ⟨hl,he,ea⟩
  ·have hlt:=(Qqd.mp he).1
   rw[Qqu,Qzi]at hlt
   have e1:l=st.length:=by omega
   subst e1
   rw[Qq8 (Qqc _)]at he
   rw[Qq8 (by rw[h.len]; exact Qqc _),h.len]at ea
   have e2:c=e:=by simpa using he
   have e3:p=a:=by simpa using ea
   exact .inr ⟨rfl,e2.symm,e3.symm⟩
 refine⟨by simp[h.len],fun l l' a e e' e1 e2 e3 e4 w w'=>?_,fun l e a he ea=>?_⟩
 ·rcases old l e a e3 e1 with⟨h1,q1,r1⟩|⟨h1,q1,r1⟩<;>rcases old l' e' a e4 e2 with⟨h2,q2,r2⟩|⟨h2,q2,r2⟩
  ·exact h.nd l l' a e e' r1 r2 q1 q2 w w'
  ·obtain⟨ys,z⟩:=(h.cell l e a q1 r1).wr w
   rw[r2,hp]at z; cases z
  ·obtain⟨ys,z⟩:=(h.cell l' e' a q2 r2).wr w'
   rw[r1,hp]at z; cases z
  ·rw[h1,h2]
 ·rcases old l e a he ea with⟨h1,q1,r1⟩|⟨h1,q1,r1⟩
  ·refine qk0 (Sub.app m [p]) ht (h.cell l e a q1 r1) fun w=>?_
   obtain⟨ys,z⟩:=(h.cell l e a q1 r1).wr w
   exact qzy (qzi z hp)
  ·rw[q1,r1]
   exact hd
theorem Rel.new(h:Rel K m st H){p:Addr}{ds:List D}{xs:List V}(hp:H p=none)(hd:IsDs K m H ds xs):Rel K (m++[p]) (st++[.lst true ds]) (upd H p (.lst xs)):=
 h.newC hp (fun _=>trivial) ⟨xs,qzn,qza (Sub.app m [p]) (Tr.of_same (qzo hp)) ds xs hd⟩
theorem Rel.newD(h:Rel K m st H){p:Addr}{kvs:List (D×D)}{xs:List (Key×V)}(hp:H p=none)(hd:IsKV K m H kvs xs):Rel K (m++[p]) (st++[.dic kvs]) (upd H p (.dK xs)):=
 h.newC hp (fun _=>trivial) ⟨xs,qzn,qjp (Sub.app m [p]) (Tr.of_same (qzo hp)) kvs xs hd⟩
theorem Rel.newLoc(h:Rel K m st H){p:Addr}{H':Hp}:IsD K (m++[p]) H' (.loc st.length) (.ref p):=qmq (by
 rw[Qq8 (by rw[h.len]; exact Qqc _),h.len]; simp)
theorem Rel.putC(h:Rel K m st H){l:Nat}{a:Addr}{c c':Cell}{o:HO}(e:st[l]?=some c)(hw:Wr c=true)(ea:m[l]?=some a)(ht:Tr H (upd H a o))(hd:IsC K m (upd H a o) c' a):
  Rel K m (st.set l c') (upd H a o):=by
 have hl:=(Qqd.mp e).1
 have wr:∀ (j:Nat) (d:Cell),(st.set l c')[j]?=some d→(j=l∧d=c')∨(j≠l∧st[j]?=some d):=by
  intro j d q
  by_cases hj:j=l
  ·subst hj
   rw[Qzv hl]at q
   exact .inl ⟨rfl,(Option.some.inj q).symm⟩
  ·rw[Qza (Ne.symm hj)]at q
   exact .inr ⟨hj,q⟩
 refine⟨by rw[Qz0]; exact h.len,fun j j' b d d' e1 e2 e3 e4 w w'=>?_,fun j d b q eb=>?_⟩
 ·rcases wr j d e3 with⟨a1,b1⟩|⟨a1,b1⟩<;>rcases wr j' d' e4 with⟨a2,b2⟩|⟨a2,b2⟩
  ·rw[a1,a2]
  ·subst a1; exact h.nd _ _ b _ _ e1 e2 e b2 hw w'
  ·subst a2; exact h.nd _ _ b _ _ e1 e2 b1 e w hw
  ·exact h.nd _ _ b _ _ e1 e2 b1 b2 w w'
 ·rcases wr j d q with⟨a1,b1⟩|⟨a1,b1⟩
  ·subst a1 b1
   rw[ea]at eb; cases eb
   exact hd
  ·refine qk0 (Sub.refl m) ht (h.cell j d b b1 eb) fun w=>qzy fun z=>?_
   subst z
   exact a1 (h.nd _ _ b _ _ eb ea b1 e w hw)
theorem Rel.put(h:Rel K m st H){l:Nat}{a:Addr}{ds ds':List D}{xs ys:List V}(e:st[l]?=some (.lst true ds))(ea:m[l]?=some a)(hH:H a=some (.lst xs))(hd:IsDs K m H ds' ys):
  Rel K m (st.set l (.lst true ds')) (upd H a (.lst ys)):=
 h.putC e rfl ea (Tr.put hH) ⟨ys,qzn,qza (Sub.refl m) (Tr.put hH) ds' ys hd⟩
theorem Tr.putD{H:Hp}{p:Addr}{xs ys:List (Key×V)}(hp:H p=some (.dK xs)):Tr H (upd H p (.dK ys)):=
 ⟨fun b zs e=>by rw[qzy (qjh e hp (by intro z; cases z))]; exact e,fun b o u e=>by rw[qzy (qjh e hp (by intro z; cases z))]; exact e⟩
theorem Rel.putD(h:Rel K m st H){l:Nat}{a:Addr}{kvs kvs':List (D×D)}{xs ys:List (Key×V)}(e:st[l]?=some (.dic kvs))(ea:m[l]?=some a)(hH:H a=some (.dK xs))(hd:IsKV K m H kvs' ys):
  Rel K m (st.set l (.dic kvs')) (upd H a (.dK ys)):=
 h.putC e rfl ea (Tr.putD hH) ⟨ys,qzn,qjp (Sub.refl m) (Tr.putD hH) kvs' ys hd⟩
end
structure SlotOk (K:Qqq) (m:List Addr) (H:Hp) (τ:Sl) (σ:L2.St):Prop where
 len:τ.length=σ.length
 at_:∀ (i:Nat) (d:D),τ[i]?=some (some d)→∃ v,σ[i]?=some (some v)∧IsD K m H d v
theorem SlotOk.mono{K:Qqq}{m m':List Addr}{H H':Hp}{τ:Sl}{σ:L2.St}(h:SlotOk K m H τ σ)(s:Sub m m')(t:Tr H H'):SlotOk K m' H' τ σ:=
 ⟨h.len,fun i d e=>let ⟨v,a,b⟩:=h.at_ i d e; ⟨v,a,qze s t d v b⟩⟩
theorem SlotOk.put{K:Qqq}{m:List Addr}{H:Hp}{τ:Sl}{σ:L2.St}(h:SlotOk K m H τ σ){i:Nat}{d:D}{v:V}(q:IsD K m H d v):SlotOk K m H (τ.set i (some d)) (σ.set i (some v)):=by
 refine⟨by rw[Qz0,Qz0]; exact h.len,fun j e ej=>?_⟩
 by_cases hj:i=j
 ·subst hj
  have hi:i<τ.length:=by
   have:=(Qqd.mp ej).1
   rwa [Qz0]at this
  rw[Qzv hi]at ej
  cases ej
  exact⟨v,Qzv (by rw[← h.len]; exact hi),q⟩
 ·rw[Qza hj]at ej ⊢
  exact h.at_ j e ej
def Post(K:Qqq)(m:List Addr)(H:Hp)(d:D)(st':Store)(Q:VK):Prop:=∀ v m' H',Sub m m'→Tr H H'→Rel K m' st' H'→IsD K m' H' d v→Q v H'
def PostB(K:Qqq)(m:List Addr)(H:Hp)(b:Bool)(st':Store)(Q:Bool→Hp→Prop):Prop:=∀ m' H',Sub m m'→Tr H H'→Rel K m' st' H'→Q b H'
def PostL(K:Qqq)(m:List Addr)(H:Hp)(ds:List D)(st':Store)(Q:List V→Hp→Prop):Prop:=∀ vs m' H',Sub m m'→Tr H H'→Rel K m' st' H'→IsDs K m' H' ds vs→Q vs H'
theorem Post.mono{K:Qqq}{m m1:List Addr}{H H1:Hp}{d:D}{st':Store}{Q:VK}(p:Post K m H d st' Q)(s:Sub m m1)(t:Tr H H1):Post K m1 H1 d st' Q:=
 fun v m' H' s' t' r i=>p v m' H' (s.trans s') (t.trans t') r i
theorem Post.here{K:Qqq}{m:List Addr}{H:Hp}{d:D}{st':Store}{Q:VK}{v:V}(p:Post K m H d st' Q)(r:Rel K m st' H)(i:IsD K m H d v):Q v H:=p v m H (Sub.refl m) (Tr.refl H) r i
noncomputable def tD(K:Qqq)(f:Sl→Store→Option (D×Store)):TE:=fun σ H Q=>∃ m st τ d st',Rel K m st H∧SlotOk K m H τ σ∧f τ st=some (d,st')∧Post K m H d st' Q
noncomputable def tTs(K:Qqq)(f:Sl→Store→Option (Bool×Store)):TT:=fun σ H Q=>∃ m st τ d st',Rel K m st H∧SlotOk K m H τ σ∧f τ st=some (d,st')∧PostB K m H d st' Q
noncomputable def tL(K:Qqq)(f:Sl→Store→Option (List D×Store)):TA:=fun σ H Q=>∃ m st τ d st',Rel K m st H∧SlotOk K m H τ σ∧f τ st=some (d,st')∧PostL K m H d st' Q
noncomputable def rD(K:Qqq)(g:Store→D→D→Option (D×Store)):R2:=fun x y H Q=>∃ m st a b d st',Rel K m st H∧IsD K m H a x∧IsD K m H b y∧g st a b=some (d,st')∧Post K m H d st' Q
def rC(K:Qqq)(g:Store→List D→Option (D×Store)):List V→Hp→VK→Prop:=fun xs H Q=>∃ m st ds d st',Rel K m st H∧IsDs K m H ds xs∧g st ds=some (d,st')∧Post K m H d st' Q
def rU1(K:Qqq)(g:Store→D→Option (D×Store)):V→Hp→VK→Prop:=fun x H Q=>∃ m st a d st',Rel K m st H∧IsD K m H a x∧g st a=some (d,st')∧Post K m H d st' Q
theorem tD.el{K:Qqq}{f:Sl→Store→Option (D×Store)}{σ:L2.St}{H:Hp}{Q:VK}{P:Prop}(h:tD K f σ H Q)(k:∀ m st τ d st',Rel K m st H→SlotOk K m H τ σ→f τ st=some (d,st')→Post K m H d st' Q→P):P:=by
 rcases h with⟨m,st,τ,d,st',a,b,c,e⟩
 exact k m st τ d st' a b c e
theorem tTs.el{K:Qqq}{f:Sl→Store→Option (Bool×Store)}{σ:L2.St}{H:Hp}{Q:Bool→Hp→Prop}{P:Prop}(h:tTs K f σ H Q)(k:∀ m st τ d st',Rel K m st H→SlotOk K m H τ σ→f τ st=some (d,st')→PostB K m H d st' Q→P):P:=by
 rcases h with⟨m,st,τ,d,st',p0,p1,p2,p3⟩
 exact k m st τ d st' p0 p1 p2 p3
theorem tL.el{K:Qqq}{f:Sl→Store→Option (List D×Store)}{σ:L2.St}{H:Hp}{Q:List V→Hp→Prop}{P:Prop}(h:tL K f σ H Q)(k:∀ m st τ d st',Rel K m st H→SlotOk K m H τ σ→f τ st=some (d,st')→PostL K m H d st' Q→P):P:=by
 rcases h with⟨m,st,τ,d,st',p0,p1,p2,p3⟩
 exact k m st τ d st' p0 p1 p2 p3
theorem rD.el{K:Qqq}{f:Store→D→D→Option (D×Store)}{x y:V}{H:Hp}{Q:VK}{P:Prop}(h:rD K f x y H Q)(k:∀ m st a b d st',Rel K m st H→IsD K m H a x→IsD K m H b y→f st a b=some (d,st')→Post K m H d st' Q→P):P:=by
 rcases h with⟨m,st,a,b,d,st',p0,p1,p2,p3,p4⟩
 exact k m st a b d st' p0 p1 p2 p3 p4
theorem rC.el{K:Qqq}{f:Store→List D→Option (D×Store)}{xs:List V}{H:Hp}{Q:VK}{P:Prop}(h:rC K f xs H Q)(k:∀ m st ds d st',Rel K m st H→IsDs K m H ds xs→f st ds=some (d,st')→Post K m H d st' Q→P):P:=by
 rcases h with⟨m,st,ds,d,st',p0,p1,p2,p3⟩
 exact k m st ds d st' p0 p1 p2 p3
theorem rU1.el{K:Qqq}{f:Store→D→Option (D×Store)}{x:V}{H:Hp}{Q:VK}{P:Prop}(h:rU1 K f x H Q)(k:∀ m st a d st',Rel K m st H→IsD K m H a x→f st a=some (d,st')→Post K m H d st' Q→P):P:=by
 rcases h with⟨m,st,a,d,st',p0,p1,p2,p3⟩
 exact k m st a d st' p0 p1 p2 p3
theorem _root_.L2.PE.imp{X:Cx}{e:Expr}{t t':TE}(h:PE X e t)(f:∀ σ H Q,t' σ H Q→t σ H Q):PE X e t':=fun pins s σ H Q I q=>h pins s σ H Q I (f σ H Q q)
theorem _root_.L2.PT.imp{X:Cx}{e:Expr}{t t':TT}(h:PT X e t)(f:∀ σ H Q,t' σ H Q→t σ H Q):PT X e t':=fun pins s σ H Q I q=>h pins s σ H Q I (f σ H Q q)
theorem _root_.L2.PW.imp{X:Cx}{e:Expr}{t t':TT}(h:PW X e t)(f:∀ σ H Q,t' σ H Q→t σ H Q):PW X e t':=fun w pins s σ H Q I q=>h w pins s σ H Q I (f σ H Q q)
theorem _root_.L2.PA.imp{X:Cx}{e:List Expr}{t t':TA}(h:PA X e t)(f:∀ σ H Q,t' σ H Q→t σ H Q):PA X e t':=fun p pins s σ H Q I q=>h p pins s σ H Q I (f σ H Q q)
theorem _root_.L2.PS.imp{X:Cx}{e:Stmt}{t t':TS}(h:PS X e t)(f:∀ σ H Q,t' σ H Q→t σ H Q):PS X e t':=fun pins s σ H Q I q=>h pins s σ H Q I (f Q σ H q)
theorem _root_.L2.PSs.imp{X:Cx}{e:List Stmt}{t t':TS}(h:PSs X e t)(f:∀ D σ H,t' D σ H→t D σ H):PSs X e t':=fun pins s σ H D I q=>h pins s σ H D I (f D σ H q)
theorem qzr{α:Type}{f:Option (D×Store)}{g:D×Store→Option α}{r:α}(e:f.bind g=some r):∃ d st,f=some (d,st)∧g (d,st)=some r:=by
 cases f with
 |none=>cases e
 |some p=>exact⟨p.1,p.2,rfl,e⟩
theorem mapD{α β:Type}{f:Option α}{g:α→β}{r:β}(e:f.map g=some r):∃ d,f=some d∧g d=r:=by
 cases f with
 |none=>cases e
 |some p=>exact⟨p,rfl,Option.some.inj e⟩
theorem qzf{α β:Type}{f:Option α}{g:α→Option β}{r:β}(e:f.bind g=some r):∃ d,f=some d∧g d=some r:=by
 cases f with
 |none=>cases e
 |some p=>exact⟨p,rfl,e⟩
section
variable {K:Qqq}
theorem qd4{fa fb:Sl→Store→Option (D×Store)}{g:Store→D→D→Option (D×Store)}{σ:L2.St}{H:Hp}{Q:VK}
  (h:tD K (fun τ st=>(fa τ st).bind fun p=>(fb τ p.2).bind fun q=>g q.2 p.1 q.1) σ H Q):tOp (rD K g) (tD K fa) (tD K fb) σ H Q:=by
 refine h.el fun m st τ d st' R0 S0 e q=>?_
 obtain⟨d1,s1,e1,e⟩:=qzr e
 obtain⟨d2,s2,e2,e⟩:=qzr e
 exact⟨m,st,τ,d1,s1,R0,S0,e1,fun x m1 H1 b1 t1 R1 i1=>⟨m1,s1,τ,d2,s2,R1,S0.mono b1 t1,e2,fun y m2 H2 b2 t2 R2 i2=>
  ⟨m2,s2,d1,d2,d,st',R2,qze b2 t2 _ _ i1,i2,e,q.mono (b1.trans b2) (t1.trans t2)⟩⟩⟩
theorem qi9{fa:Sl→Store→Option (D×Store)}{fr:Sl→Store→Option (List D×Store)}{σ:L2.St}{H:Hp}{Q:List V→Hp→Prop}
  (h:tL K (fun τ st=>(fa τ st).bind fun p=>(fr τ p.2).bind fun q=>some (p.1::q.1,q.2)) σ H Q):qlz (tD K fa) (tL K fr) σ H Q:=by
 refine h.el fun m st τ d st' R0 S0 e q=>?_
 obtain⟨d1,s1,e1,e⟩:=qzr e
 obtain⟨p,e2,e⟩:=qzf e
 cases e
 exact⟨m,st,τ,d1,s1,R0,S0,e1,fun x m1 H1 b1 t1 R1 i1=>⟨m1,s1,τ,p.1,p.2,R1,S0.mono b1 t1,e2,fun xs m2 H2 b2 t2 R2 i2=>
  q _ m2 H2 (b1.trans b2) (t1.trans t2) R2 (qzw (qze b2 t2 _ _ i1) i2)⟩⟩
theorem tL_nil{σ:L2.St}{H:Hp}{Q:List V→Hp→Prop}(h:tL K (fun _ st=>some ([],st)) σ H Q):tNil σ H Q:=by
 refine h.el fun m st τ d st' R0 S0 e q=>?_
 cases e
 exact q [] m H (Sub.refl m) (Tr.refl H) R0 qz7
theorem qxk{fa:Sl→Store→Option (List D×Store)}{g:Store→List D→Option (D×Store)}{σ:L2.St}{H:Hp}{Q:VK}
  (h:tD K (fun τ st=>(fa τ st).bind fun p=>g p.2 p.1) σ H Q):tCB (rC K g) (tL K fa) σ H Q:=by
 refine h.el fun m st τ d st' R0 S0 e q=>?_
 obtain⟨p,e1,e⟩:=qzf e
 exact⟨m,st,τ,p.1,p.2,R0,S0,e1,fun xs m1 H1 b1 t1 R1 i1=>⟨m1,p.2,p.1,d,st',R1,i1,e,q.mono b1 t1⟩⟩
end
end MS
end
section
namespace MS
open PySem PySem.Spec PyProof.Rows L2
open M (D Cell Store Sl)
section
variable {X:Cx}
theorem qqq:(sizeLine:Nat)=M.lim:=sizeLine_eq
theorem qe0:OpR X (binaryOp .FloorDiv) (rI (fun _ j=>0<j∧j<2 ^ 64) fun i j=>.int (i / j)):=opI fun i j _ _ _ _ _ hc q=>by
 have h1:(0:Int)<j:=hc.1
 have h2:j<2 ^ 64:=hc.2
 refine floordiv_int (by omega) (by rw[Int.fdiv_eq_ediv_of_nonneg i (by omega)]; exact q) (.inl (PyProof.noPylong_of_log2 ?_))
 have h3:j.natAbs<2 ^ 64:=by omega
 have h4:j.natAbs≠0:=by omega
 have h5:j.natAbs.log2<64:=(Nat.log2_lt h4).mpr h3
 omega
theorem ql6{pins:List (Addr×Obj)}{s:Shared}{σ:L2.St}{H:Hp}{Q:VK}{l b:Addr}{xs ys:List V}(I:Inv X pins σ H s)(hq:SqL X.K H l xs)(hq':SqL X.K H b ys)(hz:xs.length+ys.length≤sizeLine)(q:∀ p,H p=none→Q (.ref p) (upd H p (.lst (xs++ys)))):
  wpAny (model X.prog X.w) X.A (binaryOp .Add (.ref l) (.ref b)) (EP X pins σ Q) X.xe s:=by
 obtain⟨vs,r1,pl,_⟩:=I.list hq
 obtain⟨ws,r2,pl2,_⟩:=I.list hq'
 have l1:=r1.length
 have l2:=r2.length
 obtain⟨⟨cls,dd,data,sl⟩,n,ho,hc,hdd,hd⟩:=pl
 obtain⟨⟨cls2,dd2,data2,sl2⟩,n2,ho2,hc2,hdd2,hd2⟩:=pl2
 simp only at hc hd hc2 hd2
 subst hc hd hc2 hd2
 have e:vs.toArray++ws.toArray=(vs++ws).toArray:=by simp
 refine concat_meets ⟨_,ho,rfl⟩ ⟨_,ho2,rfl⟩ noFill_list_add seq_list_add PySem.F.slot_list_add PySem.F.entry_list_add (PySem.F.args_list_add_2 _ _) (list_addW l b vs.toArray ws.toArray n n2 dd dd2 sl sl2 (by simp; omega)) ⟨ho,ho2,?_⟩
 rw[e]
 exact⟨.ref _,_,I.lnew (t':=s.toks) (r1.append r2) (by rw[Qqu]; omega),rfl,q _ I.fresh⟩
theorem qe2(op:Operator):OpR X (binaryOp op) (rD X.K fun st a b=>M.binop st op a b):=by
 intro pins s σ H x y v u Q I rx ry h
 refine h.el fun m st a b d st' R0 i1 i2 e q=>?_
 have e:M.binop st op a b=some (d,st'):=e
 unfold M.binop at e
 split at e
 ·cases e
  exact op_add pins s σ H x y v u Q I rx ry ⟨_,_,i1.int,i2.int,q.here R0 (mkInt _)⟩
 ·rename_i as bs
  split at e
  ·cases e
  ·rename_i hc
   cases e
   rw[Qx1,decide_eq_true_eq,not_or,List.isEmpty_iff]at hc
   obtain⟨pa,xs,rfl,hx,ix⟩:=i1.tup
   obtain⟨pb,ys,rfl,hy,iy⟩:=i2.tup
   have l1:=ix.length
   have l2:=iy.length
   have l3:=qqq
   refine ql5 pins s σ H _ _ v u Q I rx ry ⟨pa,pb,xs,ys,rfl,rfl,hx,hy,?_,by omega,fun z=>?_,fun z p hp=>?_⟩
   ·intro z
    subst z
    exact hc.1 (Qxk.mp l1)
   ·have i3:=ix.append iy
    rw[z,Qqh]at i3
    exact q.here R0 (qxw hx i3)
   ·have sm:=qzo (o:=.tup (xs++ys)) hp
    exact q _ m _ (Sub.refl m) (Tr.of_same sm) (R0.same sm) (qxw (SqT.of qzn) (qza (Sub.refl m) (Tr.of_same sm) _ _ (ix.append iy)))
 ·split at e
  ·cases e
  ·rename_i hc
   cases e
   have l3:=qqq
   exact qdv pins s σ H x y v u Q I rx ry ⟨_,_,i1.str,i2.str,by omega,q.here R0 (mkStr _)⟩
 ·rename_i la lb _ _ _
  obtain⟨ds1,e1,e⟩:=qzf e
  obtain⟨ds2,e2,e⟩:=qzf e
  split at e
  ·cases e
  ·rename_i hc
   cases e
   obtain⟨pa,xs,_,rfl,hx,ix⟩:=R0.seq e1 i1
   obtain⟨pb,ys,_,rfl,hy,iy⟩:=R0.seq e2 i2
   have l1:=ix.length
   have l2:=iy.length
   have l3:=qqq
   cases rx
   cases ry
   refine ql6 I hx hy (by omega) fun p hp=>?_
   exact q _ (m++[p]) _ (Sub.app m [p]) (Tr.of_same (qzo hp)) (R0.new hp (ix.append iy)) R0.newLoc
 ·cases e
  exact op_sub pins s σ H x y v u Q I rx ry ⟨_,_,i1.int,i2.int,q.here R0 (mkInt _)⟩
 ·split at e
  ·rename_i hc
   cases e
   refine op_mul pins s σ H x y v u Q I rx ry ⟨_,_,i1.int,i2.int,?_,q.here R0 (mkInt _)⟩
   unfold M.mulOk at hc
   simp only[Qx1,Qqk,decide_eq_true_eq]at hc
   exact hc
  ·cases e
 ·split at e
  ·rename_i hc
   cases e
   exact qe0 pins s σ H x y v u Q I rx ry ⟨_,_,i1.int,i2.int,hc,q.here R0 (mkInt _)⟩
  ·cases e
 ·split at e
  ·rename_i hc
   cases e
   exact op_mod pins s σ H x y v u Q I rx ry ⟨_,_,i1.int,i2.int,hc,q.here R0 (mkInt _)⟩
  ·cases e
 ·split at e
  ·rename_i hc
   cases e
   exact op_pow pins s σ H x y v u Q I rx ry ⟨_,_,i1.int,i2.int,⟨hc.1,by omega,hc.2.2⟩,q.here R0 (mkInt _)⟩
  ·cases e
 ·cases e
theorem qzh{pins:List (Addr×Obj)}{σ:L2.St}{H:Hp}{s:Shared}{m:List Addr}{ds:List D}{v:V}(I:Inv X pins σ H s)(h:IsD X.K m H (.tup ds) v):∃ a xs its,v=.ref a∧SqT X.K H a xs∧IsDs X.K m H ds xs∧Vals xs its∧IsTup s.heap a its.toArray:=by
 obtain⟨a,xs,rfl,hx,ix⟩:=h.tup
 obtain⟨its,r,p,_⟩:=I.tuple hx
 exact⟨a,xs,its,rfl,hx,ix,r,p⟩
section
variable {pins:List (Addr×Obj)}{σ:L2.St}{H:Hp}{s:Shared}{m:List Addr}
mutual
theorem qfh(I:Inv X pins σ H s):∀ (n:Nat) (d e:D) (v:V),M.flat n d=true→M.flat n e=true→IsD X.K m H d v→IsD X.K m H e v→d=e
 |n,.loc _,_,_,f,_,_,_=>by simp[M.flat]at f
 |n,.lst _,_,_,f,_,_,_=>by simp[M.flat]at f
 |n,.non,e,v,_,fe,h,h'=>by
  rw[h.non]at h'
  cases e with
  |non=>rfl
  |tup ds=>obtain⟨a,xs,z,_⟩:=h'.tup; cases z
  |loc l=>simp[M.flat]at fe
  |lst _=>simp[M.flat]at fe
  |bl b=>cases h'.bl
  |int b=>cases h'.int
  |str b=>cases h'.str
 |n,.bl b,e,v,_,fe,h,h'=>by
  rw[h.bl]at h'
  cases e with
  |non=>cases h'.non
  |tup ds=>obtain⟨a,xs,z,_⟩:=h'.tup; cases z
  |loc l=>simp[M.flat]at fe
  |lst _=>simp[M.flat]at fe
  |bl b=>cases h'.bl; rfl
  |int b=>cases h'.int
  |str b=>cases h'.str
 |n,.int b,e,v,_,fe,h,h'=>by
  rw[h.int]at h'
  cases e with
  |non=>cases h'.non
  |tup ds=>obtain⟨a,xs,z,_⟩:=h'.tup; cases z
  |loc l=>simp[M.flat]at fe
  |lst _=>simp[M.flat]at fe
  |bl b=>cases h'.bl
  |int b=>cases h'.int; rfl
  |str b=>cases h'.str
 |n,.str b,e,v,_,fe,h,h'=>by
  rw[h.str]at h'
  cases e with
  |non=>cases h'.non
  |tup ds=>obtain⟨a,xs,z,_⟩:=h'.tup; cases z
  |loc l=>simp[M.flat]at fe
  |lst _=>simp[M.flat]at fe
  |bl b=>cases h'.bl
  |int b=>cases h'.int
  |str b=>cases h'.str; rfl
 |0,.tup ds,e,v,f,fe,h,h'=>by simp[M.flat]at f
 |n+1,.tup ds,e,v,f,fe,h,h'=>by
  obtain⟨a,xs,rfl,hx,ix⟩:=h.tup
  cases e with
  |non=>cases h'.non
  |tup es=>
   obtain⟨b,ys,z,hy,iy⟩:=h'.tup
   cases z
   have:=I.tuple_inj hx hy
   subst this
   simp only[M.flat]at f fe
   rw[qw2 I n ds es xs f fe ix iy]
  |loc l=>simp[M.flat]at fe
  |lst _=>simp[M.flat]at fe
  |bl b=>cases h'.bl
  |int b=>cases h'.int
  |str b=>cases h'.str
theorem qw2(I:Inv X pins σ H s):∀ (n:Nat) (ds es:List D) (xs:List V),M.flats n ds=true→M.flats n es=true→IsDs X.K m H ds xs→IsDs X.K m H es xs→ds=es
 |n,[],es,xs,_,_,h,h'=>by
  rw[h.nil]at h'
  exact(Qxk.mp h'.length).symm
 |n,d::ds,es,xs,f,fe,h,h'=>by
  obtain⟨x,r,rfl,q,t⟩:=h.cons
  cases es with
  |nil=>cases h'.nil
  |cons e es=>
   obtain⟨x',r',z,q',t'⟩:=h'.cons
   cases z
   simp only[M.flats,Qqk]at f fe
   rw[qfh I n d e x f.1 fe.1 q q',qw2 I n ds es r f.2 fe.2 t t']
end
mutual
theorem qhp:∀ (n:Nat) (d:D),M.flat n d=true→M.eqT d d=true
 |n,.loc _,f=>by simp[M.flat]at f
 |n,.lst _,f=>by simp[M.flat]at f
 |n,.non,_=>rfl
 |n,.bl b,_=>by simp[M.eqT]
 |n,.int b,_=>by simp[M.eqT]
 |n,.str b,_=>by simp[M.eqT]
 |0,.tup ds,f=>by simp[M.flat]at f
 |n+1,.tup ds,f=>by
  simp only[M.flat]at f
  simp only[M.eqT]
  exact qvf n ds f
theorem qvf:∀ (n:Nat) (ds:List D),M.flats n ds=true→M.eqTs ds ds=true
 |n,[],_=>rfl
 |n,d::ds,f=>by
  simp only[M.flats,Qqk]at f
  simp only[M.eqTs,qhp n d f.1,qvf n ds f.2,Bool.and_self]
end
noncomputable def pairE(ds es:List D)(j:Nat):Bool:=match ds[j]?,es[j]? with
 |some d,some e=>M.eqT d e
 |_,_=>true
theorem qqr:∀ (ds es:List D),M.eqTs ds es=((List.range (min ds.length es.length)).all (pairE ds es)&&ds.length==es.length)
 |[],[]=>rfl
 |[],e::es=>by simp[M.eqTs]
 |d::ds,[]=>by simp[M.eqTs]
 |d::ds,e::es=>by
  simp only[M.eqTs]
  rw[qqr ds es,Qqv,Qqv,Nat.add_min_add_right,List.range_succ_eq_map,Qjq,List.all_map,Bool.and_assoc]
  congr 1
  congr 1
  rw[Qq1,beq_iff_eq,beq_iff_eq]
  omega
theorem qaq{ds es:List D}(h:ds.length=es.length):M.eqTs ds es=(List.range ds.length).all (pairE ds es):=by
 rw[qqr,h,Nat.min_self]
 simp
theorem qco(I:Inv X pins σ H s):∀ (n:Nat) (A:Around) (d e:D) (x y:V) (u v:Value),A.units+n<cLine→M.flat n d=true→M.flat n e=true→IsD X.K m H d x→IsD X.K m H e y→RelV x u→RelV y v→
  SeqAt.EqAt A s u v (M.eqT d e)∧SeqAt.RcAt A s u v (M.eqT d e):=by
 intro n
 induction n with
 |zero=>
  intro A d e x y u v hu f fe hx hy rx ry
  have hu0:A.units<cLine:=by omega
  cases d with
  |loc _=>simp[M.flat]at f
  |lst _=>simp[M.flat]at f
  |tup _=>simp[M.flat]at f
  |non=>
   cases hx.non; cases rx
   cases e with
   |loc _=>simp[M.flat]at fe
   |lst _=>simp[M.flat]at fe
   |tup _=>simp[M.flat]at fe
   |non=>cases hy.non; cases ry; exact⟨SeqAt.EqAt.same _,SeqAt.RcAt.none_none⟩
   |bl b=>cases hy.bl; cases ry; exact⟨SeqAt.EqAt.none_bool b,SeqAt.RcAt.none_bool b⟩
   |int b=>cases hy.int; obtain⟨t,rfl⟩:=ry; exact⟨SeqAt.EqAt.none_int b t,SeqAt.RcAt.none_int b t⟩
   |str b=>cases hy.str; obtain⟨t,rfl⟩:=ry; exact⟨SeqAt.EqAt.none_str b t,SeqAt.RcAt.none_str b t⟩
  |bl a=>
   cases hx.bl; cases rx
   cases e with
   |loc _=>simp[M.flat]at fe
   |lst _=>simp[M.flat]at fe
   |tup _=>simp[M.flat]at fe
   |non=>cases hy.non; cases ry; exact⟨SeqAt.EqAt.bool_none a,SeqAt.RcAt.bool_none a⟩
   |bl b=>cases hy.bl; cases ry; exact⟨SeqAt.EqAt.bool_bool a b,SeqAt.RcAt.bool_bool a b⟩
   |int b=>cases hy.int; obtain⟨t,rfl⟩:=ry; exact⟨SeqAt.EqAt.bool_int a b t,SeqAt.RcAt.bool_int a b t⟩
   |str b=>cases hy.str; obtain⟨t,rfl⟩:=ry; exact⟨SeqAt.EqAt.bool_str a b t,SeqAt.RcAt.bool_str a b t⟩
  |int a=>
   cases hx.int; obtain⟨t',rfl⟩:=rx
   cases e with
   |loc _=>simp[M.flat]at fe
   |lst _=>simp[M.flat]at fe
   |tup _=>simp[M.flat]at fe
   |non=>cases hy.non; cases ry; exact⟨SeqAt.EqAt.int_none a t',SeqAt.RcAt.int_none a t'⟩
   |bl b=>cases hy.bl; cases ry; exact⟨SeqAt.EqAt.int_bool a t' b,SeqAt.RcAt.int_bool a t' b⟩
   |int b=>cases hy.int; obtain⟨t,rfl⟩:=ry; exact⟨SeqAt.EqAt.int_int a t' b t,SeqAt.RcAt.int_int a t' b t⟩
   |str b=>cases hy.str; obtain⟨t,rfl⟩:=ry; exact⟨SeqAt.EqAt.int_str a t' b t,SeqAt.RcAt.int_str a t' b t⟩
  |str a=>
   cases hx.str; obtain⟨t',rfl⟩:=rx
   cases e with
   |loc _=>simp[M.flat]at fe
   |lst _=>simp[M.flat]at fe
   |tup _=>simp[M.flat]at fe
   |non=>cases hy.non; cases ry; exact⟨SeqAt.EqAt.str_none a t',SeqAt.RcAt.str_none a t'⟩
   |bl b=>cases hy.bl; cases ry; exact⟨SeqAt.EqAt.str_bool a t' b,SeqAt.RcAt.str_bool a t' b⟩
   |int b=>cases hy.int; obtain⟨t,rfl⟩:=ry; exact⟨SeqAt.EqAt.str_int a t' b t,SeqAt.RcAt.str_int a t' b t⟩
   |str b=>cases hy.str; obtain⟨t,rfl⟩:=ry; exact⟨SeqAt.EqAt.str_str a t' b t,SeqAt.RcAt.str_str a t' b t⟩
 |succ n ih=>
  intro A d e x y u v hu f fe hx hy rx ry
  have hu0:A.units<cLine:=by omega
  cases d with
  |loc _=>simp[M.flat]at f
  |lst _=>simp[M.flat]at f
  |tup ds=>
   obtain⟨a,xs,its,rfl,hq,ix,r1,p1⟩:=qzh I hx
   cases rx
   cases e with
   |loc _=>simp[M.flat]at fe
   |lst _=>simp[M.flat]at fe
   |non=>cases hy.non; cases ry; exact⟨SeqAt.EqAt.tuple_none p1 hu0,SeqAt.RcAt.tuple_none p1 hu0⟩
   |bl b=>cases hy.bl; cases ry; exact⟨SeqAt.EqAt.tuple_bool b p1 hu0,SeqAt.RcAt.tuple_bool b p1 hu0⟩
   |int b=>cases hy.int; obtain⟨t,rfl⟩:=ry; exact⟨SeqAt.EqAt.tuple_int b t p1 hu0,SeqAt.RcAt.tuple_int b t p1 hu0⟩
   |str b=>cases hy.str; obtain⟨t,rfl⟩:=ry; exact⟨SeqAt.EqAt.tuple_str b t p1 hu0,SeqAt.RcAt.tuple_str b t p1 hu0⟩
   |tup es=>
    obtain⟨b,ys,its2,rfl,hq2,iy,r2,p2⟩:=qzh I hy
    cases ry
    have l1:=ix.length
    have l2:=iy.length
    have l3:=r1.length
    have l4:=r2.length
    simp only[M.flat]at f fe
    have he:∀ j (h1:j<its.toArray.size) (h2:j<its2.toArray.size),SeqAt.EqAt A.in1 s its.toArray[j] its2.toArray[j] (pairE ds es j):=by
     intro j h1 h2
     rw[Qqa]at h1 h2
     have j1:j<ds.length:=by omega
     have j2:j<es.length:=by omega
     have g1:ds[j]?=some ds[j]:=by simp
     have g2:es[j]?=some es[j]:=by simp
     obtain⟨x1,k1,q1⟩:=ix.get g1
     obtain⟨x2,k2,q2⟩:=iy.get g2
     obtain⟨u1,w1,z1⟩:=r1.get k1
     obtain⟨u2,w2,z2⟩:=r2.get k2
     have fl:∀ (l:List D) (k:Nat) (hk:k<l.length),M.flats n l=true→M.flat n l[k]=true:=by
      intro l
      induction l with
      |nil=>intro k hk; cases hk
      |cons c l ihl=>
       intro k hk hf
       simp only[M.flats,Qqk]at hf
       cases k with
       |zero=>exact hf.1
       |succ k=>exact ihl k (by simpa using hk) hf.2
     have:=(ih A.in1 ds[j] es[j] x1 x2 u1 u2 (by have hz:A.in1.units=A.units+1:=rfl; omega) (fl ds j j1 f) (fl es j j2 fe) q1 q2 z1 z2).1
     have e1:its.toArray[j]=u1:=by
      have:its[j]?=some its[j]:=by simp
      rw[w1]at this
      simpa using (Option.some.inj this).symm
     have e2:its2.toArray[j]=u2:=by
      have:its2[j]?=some its2[j]:=by simp
      rw[w2]at this
      simpa using (Option.some.inj this).symm
     rw[e1,e2]
     have e3:pairE ds es j=M.eqT ds[j] es[j]:=by
      unfold pairE
      rw[g1,g2]
     rw[e3]
     exact this
    have rc:SeqAt.RcAt A s (.ref a) (.ref b) (M.eqT (.tup ds) (.tup es)):=by
     have:=SeqAt.RcAt.tuples p1 p2 hu0 he
     simp only[M.eqT]
     rw[qqr,l1,l2,l3,l4]
     simpa using this
    refine⟨?_,rc⟩
    by_cases hab:a=b
    ·subst hab
     have:=I.tuple_inj hq hq2
     subst this
     have e0:=qw2 I n ds es xs f fe ix iy
     subst e0
     have e1:M.eqT (.tup ds) (.tup ds)=true:=by
      simp only[M.eqT]
      exact qvf n ds f
     rw[e1]
     exact SeqAt.EqAt.same _
    ·exact SeqAt.EqAt.of_refs hab rc
  |non=>
   cases hx.non; cases rx
   cases e with
   |loc _=>simp[M.flat]at fe
   |lst _=>simp[M.flat]at fe
   |tup es=>
    obtain⟨b,ys,its2,rfl,hq2,iy,r2,p2⟩:=qzh I hy
    cases ry
    exact⟨SeqAt.EqAt.none_tuple p2 hu0,SeqAt.RcAt.none_tuple p2 hu0⟩
   |non=>cases hy.non; cases ry; exact⟨SeqAt.EqAt.same _,SeqAt.RcAt.none_none⟩
   |bl b=>cases hy.bl; cases ry; exact⟨SeqAt.EqAt.none_bool b,SeqAt.RcAt.none_bool b⟩
   |int b=>cases hy.int; obtain⟨t,rfl⟩:=ry; exact⟨SeqAt.EqAt.none_int b t,SeqAt.RcAt.none_int b t⟩
   |str b=>cases hy.str; obtain⟨t,rfl⟩:=ry; exact⟨SeqAt.EqAt.none_str b t,SeqAt.RcAt.none_str b t⟩
  |bl a=>
   cases hx.bl; cases rx
   cases e with
   |loc _=>simp[M.flat]at fe
   |lst _=>simp[M.flat]at fe
   |tup es=>
    obtain⟨b,ys,its2,rfl,hq2,iy,r2,p2⟩:=qzh I hy
    cases ry
    exact⟨SeqAt.EqAt.bool_tuple a p2 hu0,SeqAt.RcAt.bool_tuple a p2 hu0⟩
   |non=>cases hy.non; cases ry; exact⟨SeqAt.EqAt.bool_none a,SeqAt.RcAt.bool_none a⟩
   |bl b=>cases hy.bl; cases ry; exact⟨SeqAt.EqAt.bool_bool a b,SeqAt.RcAt.bool_bool a b⟩
   |int b=>cases hy.int; obtain⟨t,rfl⟩:=ry; exact⟨SeqAt.EqAt.bool_int a b t,SeqAt.RcAt.bool_int a b t⟩
   |str b=>cases hy.str; obtain⟨t,rfl⟩:=ry; exact⟨SeqAt.EqAt.bool_str a b t,SeqAt.RcAt.bool_str a b t⟩
  |int a=>
   cases hx.int; obtain⟨t',rfl⟩:=rx
   cases e with
   |loc _=>simp[M.flat]at fe
   |lst _=>simp[M.flat]at fe
   |tup es=>
    obtain⟨b,ys,its2,rfl,hq2,iy,r2,p2⟩:=qzh I hy
    cases ry
    exact⟨SeqAt.EqAt.int_tuple a t' p2 hu0,SeqAt.RcAt.int_tuple a t' p2 hu0⟩
   |non=>cases hy.non; cases ry; exact⟨SeqAt.EqAt.int_none a t',SeqAt.RcAt.int_none a t'⟩
   |bl b=>cases hy.bl; cases ry; exact⟨SeqAt.EqAt.int_bool a t' b,SeqAt.RcAt.int_bool a t' b⟩
   |int b=>cases hy.int; obtain⟨t,rfl⟩:=ry; exact⟨SeqAt.EqAt.int_int a t' b t,SeqAt.RcAt.int_int a t' b t⟩
   |str b=>cases hy.str; obtain⟨t,rfl⟩:=ry; exact⟨SeqAt.EqAt.int_str a t' b t,SeqAt.RcAt.int_str a t' b t⟩
  |str a=>
   cases hx.str; obtain⟨t',rfl⟩:=rx
   cases e with
   |loc _=>simp[M.flat]at fe
   |lst _=>simp[M.flat]at fe
   |tup es=>
    obtain⟨b,ys,its2,rfl,hq2,iy,r2,p2⟩:=qzh I hy
    cases ry
    exact⟨SeqAt.EqAt.str_tuple a t' p2 hu0,SeqAt.RcAt.str_tuple a t' p2 hu0⟩
   |non=>cases hy.non; cases ry; exact⟨SeqAt.EqAt.str_none a t',SeqAt.RcAt.str_none a t'⟩
   |bl b=>cases hy.bl; cases ry; exact⟨SeqAt.EqAt.str_bool a t' b,SeqAt.RcAt.str_bool a t' b⟩
   |int b=>cases hy.int; obtain⟨t,rfl⟩:=ry; exact⟨SeqAt.EqAt.str_int a t' b t,SeqAt.RcAt.str_int a t' b t⟩
   |str b=>cases hy.str; obtain⟨t,rfl⟩:=ry; exact⟨SeqAt.EqAt.str_str a t' b t,SeqAt.RcAt.str_str a t' b t⟩
theorem qxb:∀ {n:Nat}{l:List D}{k:Nat}{d:D},M.flats n l=true→l[k]?=some d→M.flat n d=true
 |_,[],_,_,_,e=>by simp at e
 |n,c::l,0,d,f,e=>by
  simp only[M.flats,Qqk]at f
  have e':c=d:=by simpa using e
  rw[← e']; exact f.1
 |n,c::l,k+1,d,f,e=>by
  simp only[M.flats,Qqk]at f
  exact qxb (k:=k) f.2 (by simpa using e)
end
end
end MS
end
section
namespace MS
open PySem PySem.Spec PyProof.Rows L2
noncomputable def Its(z:Str):It:=⟨fun i _=>i<z.cps.toList.length,fun i H x H'=>H'=H∧∃ c,z.cps.toList[i]?=some c∧x=.str ⟨#[c]⟩,fun i _=>z.cps.toList.length≤i⟩
theorem qd1{P:Program}{w:World}{K:Qqq}{tg:Expr}(z:Str)(t:Tok)(it:Addr):Turn P w K tg (Its z) [it] it (fun i h=>h.IsStrIter it "str_ascii_iterator" z t i) where
 mem:=by simp
 obj:=fun i h st b hb=>by
  have e:b=it:=by simpa using hb
  subst e
  obtain⟨o,e,c,d⟩:=st
  exact⟨o,e,fun v q=>by rw[d]at q; cases q⟩
 keep:=fun i h h' st k=>by
  obtain⟨o,e,r⟩:=st
  exact⟨o,k it (by simp) o e,r⟩
 item:=by
  intro X hP hw hK hc i pins s σ H E I hf st hg
  subst hP hw hK
  obtain⟨f0,f1,f2,f3,f4,f5⟩:=hf it (by simp)
  have hi:i<z.cps.toList.length:=hg
  have hx:z.cps[i]?=some (z.cps.toList[i]):=by
   rw[← Array.getElem?_toList]
   exact Qqi hi
  refine wpAny_pyNext_ascii_item st hx fun h' st' sb=>?_
  have I1:Inv X pins σ H { s with heap:=h',toks:=s.toks+1 }:=I.turned (fun b o hb e=>(sb.2 b hb).trans e) f0 f1 f3 f4 f5
  obtain⟨o,e,c,d⟩:=id st'
  exact⟨_,rfl,qhg (s:={ s with heap:=h',toks:=s.toks+1 }) e c d (by decide) ⟨.str ⟨#[z.cps.toList[i]]⟩,H,I1,⟨_,rfl⟩,⟨rfl,_,Qqi hi,rfl⟩,st',fun b hb=>(hf b hb).1⟩⟩
 done:=by
  intro X hP hw hK hc i pins s σ H E I hf st hg
  subst hP hw hK
  obtain⟨f0,f1,f2,f3,f4,f5⟩:=hf it (by simp)
  have hi:z.cps.toList.length≤i:=hg
  have hx:z.cps[i]?=none:=by
   rw[← Array.getElem?_toList]
   exact Qz1 hi
  exact wpAny_pyNext_ascii_end (I.ok.hd hc) st hx fun h' eb=>⟨rfl,I.turned (t':=s.toks) (fun b o hb e=>eb b o hb e) f0 f1 f3 f4 f5⟩
 self:=fun _ _ _ _ _ st h=>wpAny_pyIter_striter_ascii st h
section
variable {X:Cx}
theorem qcx{v:Value}{o:Option Int}(h:IsPart v o):∃ p:Option (Int×Tok),v=partValue p∧p.map (·.1)=o:=by
 cases h with
 |none=>exact⟨none,rfl,rfl⟩
 |int i t=>exact⟨some (i,t),rfl,rfl⟩
theorem qy6(n:Nat)(lo hi:Option Int):Builtin.Str.strSliceIndices lo hi 1 n=PySem.sliceRange ((M.cutIx n 0 lo:Nat):Int) ((M.cutIx n n hi:Nat):Int) 1:=by
 have cl:∀ (o:Option Int) (d:Nat),d≤n→(match o with
   |none=>(d:Int)
   |some i=>max 0 (min (if i<0 then i+(n:Int) else i) (n:Int)))=((M.cutIx n d o:Nat):Int):=by
  intro o d hd
  cases o with
  |none=>rfl
  |some i=>
   simp only[M.cutIx]
   split<;>omega
 rw[← cl lo 0 (Qz5 _),← cl hi n (Qqc _)]
 unfold Builtin.Str.strSliceIndices
 simp only[show((1:Int) > 0)=True from by simp,if_true]
 congr 2
theorem qk1(n d:Nat)(o:Option Int)(h:d≤n):M.cutIx n d o≤n:=by
 cases o with
 |none=>exact h
 |some i=>
  simp only[M.cutIx]
  split<;>omega
theorem qyh(a b:Nat):PySem.sliceRange (a:Int) (b:Int) 1=(List.range (b - a)).map fun k=>a+k:=by
 unfold PySem.sliceRange
 simp only[show((1:Int) > 0)=True from by simp,if_true]
 by_cases h:(a:Int)<(b:Int)
 ·rw[if_pos h]
  have e:(((b:Int) - a+1 - 1) / 1).toNat=b - a:=by
   rw[Int.ediv_one]; omega
  rw[e]
  refine Qxd fun k _=>?_
  omega
 ·rw[if_neg h]
  have e:b - a=0:=by omega
  rw[e]
  rfl
theorem qhu(z:Str)(lo hi:Option Int):(Builtin.Str.strSliceIndices lo hi 1 z.length).filterMap (z.cps[·]?)=M.cut z.cps.toList lo hi:=by
 have hl:z.cps.toList.length=z.length:=by simp[Str.length]
 have h1:=qk1 z.length 0 lo (Qz5 _)
 have h2:=qk1 z.length z.length hi (Qqc _)
 rw[qy6,qyh]
 unfold M.cut
 rw[hl]
 generalize M.cutIx z.length 0 lo=a at *
 generalize M.cutIx z.length z.length hi=b at *
 have e:∀ l:List Nat,l.filterMap (z.cps[·]?)=l.filterMap (z.cps.toList[·]?):=fun l=>by simp
 rw[e]
 by_cases hab:a≤b
 ·exact PySem.StrLaws.picks z.cps.toList (b - a) a (by omega)
 ·have e0:b - a=0:=by omega
  rw[e0]
  simp
theorem qf3(z:Str)(lo hi:Option Int)(h:(Builtin.Str.strSliceIndices lo hi 1 z.length).length=z.length):M.cut z.cps.toList lo hi=z.cps.toList:=by
 have hl:z.cps.toList.length=z.length:=by simp[Str.length]
 have h1:=qk1 z.length 0 lo (Qz5 _)
 have h2:=qk1 z.length z.length hi (Qqc _)
 rw[qy6,qyh,Qqj,List.length_range]at h
 unfold M.cut
 rw[hl]
 generalize M.cutIx z.length 0 lo=a at *
 generalize M.cutIx z.length z.length hi=b at *
 by_cases h0:z.length=0
 ·have e:z.cps.toList=[]:=Qxk.mp (hl.trans h0)
  rw[e]; simp
 ·have ea:a=0:=by omega
  subst ea
  rw[Qx8]
  exact Qzz (by omega)
theorem qlw:SlR X (fun x lo hi H Q=>∃ z,x=.str z∧z.length≤sizeLine∧Q (.str ⟨(M.cut z.cps.toList lo hi).toArray⟩) H):=by
 intro pins s σ H x v vl vu lo hi sl Q I rx hs pl pu h
 obtain⟨z,rfl,hz,q⟩:=h
 obtain⟨t,rfl⟩:=rx
 obtain⟨l,rfl,el⟩:=qcx pl
 obtain⟨u,rfl,eu⟩:=qcx pu
 have hsl:s.heap.IsSlice sl l u none:=hs
 refine⟨"str",_,PySem.F.slot_str_getitem.lookup,typeIs_str s z t,?_⟩
 have el:l.map (·.1)=lo:=el
 have eu:u.map (·.1)=hi:=eu
 have hpick:slicePicked z l u none=Builtin.Str.strSliceIndices lo hi 1 z.length:=by unfold slicePicked; rw[el,eu]; rfl
 have hcut:=qhu z lo hi
 have hl:z.cps.toList.length=z.length:=by simp[Str.length]
 have clen:(M.cut z.cps.toList lo hi).length≤z.length:=by
  unfold M.cut
  rw[Qzf,Qzp,hl]
  omega
 refine wpAny_getItem_str_slice hsl (by decide) ?_
 unfold sliceMade
 rw[hpick,hcut]
 refine post_val_or_str ⟨?_,fun t' k=>?_⟩
 ·split
  ·exact hz
  ·show(M.cut z.cps.toList lo hi).toArray.size≤sizeLine
   rw[Qqa]
   exact Qq9 clen hz
 ·refine⟨.str ⟨(M.cut z.cps.toList lo hi).toArray⟩,H,I.tok k,⟨t',?_⟩,q⟩
  split
  ·rename_i hw
   rw[Qqk,beq_iff_eq,beq_iff_eq]at hw
   have hw2:(Builtin.Str.strSliceIndices lo hi 1 z.length).length=z.length:=hw.2
   have e:M.cut z.cps.toList lo hi=z.cps.toList:=qf3 z lo hi hw2
   rw[e]
  ·rfl
theorem qhi(z:Str)(c:Nat):Txt.find z ⟨#[c]⟩=M.findC z.cps.toList c:=by
 have at_:∀ i,PySem.StrLaws.At z ⟨#[c]⟩ z.length i↔z.cps.toList[i]?=some c:=by
  intro i
  have hl:z.cps.toList.length=z.length:=by simp[Str.length]
  have e1:(⟨#[c]⟩:Str).length=1:=rfl
  unfold PySem.StrLaws.At
  rw[PySem.StrLaws.subAt_eq,e1,beq_iff_eq]
  constructor
  ·rintro⟨h1,h2⟩
   have hi:i<z.cps.toList.length:=by omega
   rw[Qxp hi]at h2
   have h3:[z.cps.toList[i]]=[c]:=by simpa using h2
   rw[Qqi hi]
   simpa using h3
  ·intro h
   obtain⟨hi,hx⟩:=Qqd.mp h
   refine⟨by omega,?_⟩
   rw[Qxp hi,hx]
   simp
 unfold M.findC
 rcases find_whole z ⟨#[c]⟩ with⟨e,h⟩|⟨i,e,h1,h2⟩
 ·rw[e]
  have:z.cps.toList.findIdx? (· == c)=none:=by
   rw[Qxo]
   intro x hx
   obtain⟨i,hi⟩:=List.mem_iff_getElem?.mp hx
   by_cases hc:x=c
   ·subst hc
    exact absurd ((at_ i).mpr hi) (h i)
   ·simpa using hc
  rw[this]
 ·rw[e]
  have h1:=(at_ i).mp h1
  have:z.cps.toList.findIdx? (· == c)=some i:=by
   rw[List.findIdx?_eq_some_iff_getElem]
   obtain⟨hi,hx⟩:=Qqd.mp h1
   refine⟨hi,by simpa using hx,fun j hj=>?_⟩
   have:=h2 j hj
   rw[at_]at this
   intro hc
   exact this (by rw[Qqi (by omega)]; simpa using hc)
  rw[this]
theorem qku{z:Str}{c:Nat}(h:M.oneOf z=some c):z=⟨#[c]⟩:=by
 obtain⟨cs⟩:=z
 unfold M.oneOf at h
 split at h
 ·rename_i d hd
  cases h
  have:cs=#[c]:=by
   apply Array.toList_inj.mp
   simpa using hd
  rw[this]
 ·cases h
end
end MS
end
section
namespace MS
open PySem PySem.Spec PyProof.Rows L2
open M (D Cell Store Sl)
section
variable {X:Cx}
section
variable {pins:List (Addr×Obj)}{σ:L2.St}{H:Hp}{s:Shared}{m:List Addr}
theorem qwc(I:Inv X pins σ H s)(A:Around)(hu:A.units+9<cLine){d0:D}{x0:V}{u0:Value}(f0:M.flat 9 d0=true)(h0:IsD X.K m H d0 x0)(r0:RelV x0 u0):
  ∃ e:Value→Bool,∀ (ds:List D) (xs:List V) (its:List Value),M.flats 9 ds=true→IsDs X.K m H ds xs→Vals xs its→(∀ w∈its,SeqAt.EqAt A s w u0 (e w))∧its.any e=ds.any fun y=>M.eqT y d0:=by
 classical
 refine⟨fun w=>decide (∃ d x,M.flat 9 d=true∧IsD X.K m H d x∧RelV x w∧M.eqT d d0=true),fun ds=>?_⟩
 have key:∀ d x w,M.flat 9 d=true→IsD X.K m H d x→RelV x w→decide (∃ d x,M.flat 9 d=true∧IsD X.K m H d x∧RelV x w∧M.eqT d d0=true)=M.eqT d d0:=by
  intro d x w f i r
  cases q:M.eqT d d0 with
  |true=>exact decide_eq_true ⟨d,x,f,i,r,q⟩
  |false=>
   refine decide_eq_false ?_
   rintro⟨d',x',f',i',r',q'⟩
   have e1:=r.inj r'
   subst e1
   have e2:=qfh I 9 d d' x f f' i i'
   subst e2
   rw[q]at q'
   cases q'
 induction ds with
 |nil=>
  intro xs its _ ix r
  rw[ix.nil]at r
  cases r
  exact⟨fun w hw=>(by cases hw),rfl⟩
 |cons d ds ih=>
  intro xs its f ix r
  obtain⟨x,xr,rfl,q,t⟩:=ix.cons
  simp only[M.flats,Qqk]at f
  cases r with
  |@cons _ u _ us r1 r2=>
   obtain⟨a1,a2⟩:=ih xr us f.2 t r2
   refine⟨fun w hw=>?_,?_⟩
   ·rcases Qqw.mp hw with z|z
    ·subst z
     show SeqAt.EqAt A s w u0 (decide _)
     rw[key d x w f.1 q r1]
     exact(qco I 9 A d d0 x x0 w u0 hu f.1 f0 q h0 r1 r0).1
    ·exact a1 w z
   ·rw[Qq2,Qq2,a2]
    congr 1
    exact key d x u f.1 q r1
end
theorem qce{pins:List (Addr×Obj)}{σ:L2.St}{H:Hp}{s:Shared}{m:List Addr}(I:Inv X pins σ H s)(A:Around)(n:Nat)(hu:A.units+n<cLine){ds es:List D}{xs ys:List V}{its its2:List Value}(f:M.flats n ds=true)(fe:M.flats n es=true)(ix:IsDs X.K m H ds xs)(iy:IsDs X.K m H es ys)(r1:Vals xs its)(r2:Vals ys its2)
  (j:Nat) (h1:j<its.toArray.size) (h2:j<its2.toArray.size):SeqAt.EqAt A s its.toArray[j] its2.toArray[j] (pairE ds es j):=by
 have l1:=ix.length
 have l2:=iy.length
 have l3:=r1.length
 have l4:=r2.length
 rw[Qqa]at h1 h2
 have j1:j<ds.length:=by omega
 have j2:j<es.length:=by omega
 have g1:ds[j]?=some ds[j]:=by simp
 have g2:es[j]?=some es[j]:=by simp
 obtain⟨x1,k1,q1⟩:=ix.get g1
 obtain⟨x2,k2,q2⟩:=iy.get g2
 obtain⟨u1,w1,z1⟩:=r1.get k1
 obtain⟨u2,w2,z2⟩:=r2.get k2
 have this:=(qco I n A ds[j] es[j] x1 x2 u1 u2 hu (qxb f g1) (qxb fe g2) q1 q2 z1 z2).1
 have e1:its.toArray[j]=u1:=by
  have:its[j]?=some its[j]:=by simp
  rw[w1]at this
  simpa using (Option.some.inj this).symm
 have e2:its2.toArray[j]=u2:=by
  have:its2[j]?=some its2[j]:=by simp
  rw[w2]at this
  simpa using (Option.some.inj this).symm
 rw[e1,e2]
 have e3:pairE ds es j=M.eqT ds[j] es[j]:=by
  unfold pairE
  rw[g1,g2]
 rw[e3]
 exact this
theorem op_inD(hu:X.A.units+64<cLine):OpR X (compareOp .In) (rD X.K fun st a b=>(M.inD st a b).map fun k=>(.bl k,st)):=by
 intro pins s σ H x y v u Q I rx ry h
 refine h.el fun m st a b d st' R0 i1 i2 e q=>?_
 obtain⟨k,e1,e2⟩:=mapD e
 cases e2
 have hu1:X.A.in1.units+9<cLine:=by have hz:X.A.in1.units=X.A.units+1:=rfl; omega
 cases b with
 |tup ds=>
  simp only[M.inD]at e1
  split at e1
  ·rename_i hf
   cases e1
   rw[Qqk]at hf
   obtain⟨p,xs,its,rfl,hq,ix,r,pl⟩:=qzh I i2
   cases ry
   obtain⟨ef,ha⟩:=qwc I X.A.in1 hu1 hf.1 i1 rx
   obtain⟨h1,h2⟩:=ha ds xs its hf.2 ix r
   refine SeqAt.in_tupleAt ef pl (fun w hw=>h1 w (by simpa using hw)) ⟨.bl _,H,I,rfl,?_⟩
   rw[show its.toArray.any ef=its.any ef by simp,h2]
   exact q.here R0 (mkBl _)
  ·cases e1
 |loc l=>
  simp only[M.inD]at e1
  obtain⟨ds,e2,e1⟩:=qzf e1
  split at e1
  ·rename_i hf
   cases e1
   rw[Qqk]at hf
   obtain⟨p,xs,_,rfl,hq,ix⟩:=R0.seq e2 i2
   cases ry
   obtain⟨its,r,pl,_⟩:=I.list hq
   obtain⟨ef,ha⟩:=qwc I X.A.in1 hu1 hf.1 i1 rx
   obtain⟨h1,h2⟩:=ha ds xs its hf.2 ix r
   refine SeqAt.in_listAt ef pl.isList (fun w hw=>h1 w (by simpa using hw)) ⟨.bl _,H,I,rfl,?_⟩
   rw[show its.toArray.any ef=its.any ef by simp,h2]
   exact q.here R0 (mkBl _)
  ·cases e1
 |lst l=>
  simp only[M.inD]at e1
  obtain⟨ds,e2,e1⟩:=qzf e1
  split at e1
  ·rename_i hf
   cases e1
   rw[Qqk]at hf
   obtain⟨p,xs,_,rfl,hq,ix⟩:=R0.seq e2 i2
   cases ry
   obtain⟨its,r,pl,_⟩:=I.list hq
   obtain⟨ef,ha⟩:=qwc I X.A.in1 hu1 hf.1 i1 rx
   obtain⟨h1,h2⟩:=ha ds xs its hf.2 ix r
   refine SeqAt.in_listAt ef pl.isList (fun w hw=>h1 w (by simpa using hw)) ⟨.bl _,H,I,rfl,?_⟩
   rw[show its.toArray.any ef=its.any ef by simp,h2]
   exact q.here R0 (mkBl _)
  ·cases e1
 |str z=>
  simp only[M.inD]at e1
  cases a with
  |str y0=>
   obtain⟨c,e3,e4⟩:=mapD e1
   have hy:=qku e3
   subst hy
   subst e4
   refine qeu pins s σ H x y v u Q I rx ry ⟨_,_,i1.str,i2.str,?_⟩
   rw[PySem.StrLaws.found_one]
   exact q.here R0 (mkBl _)
  |_=>cases e1
 |_=>simp[M.inD,M.seqAt]at e1
theorem qet(hu:X.A.units+64<cLine):OpR X (compareOp .NotIn) (rD X.K fun st a b=>((M.inD st a b).map (!·)).map fun k=>(.bl k,st)):=by
 intro pins s σ H x y v u Q I rx ry h
 refine h.el fun m st a b d st' R0 i1 i2 e q=>?_
 obtain⟨k0,e0,e2⟩:=mapD e
 cases e2
 obtain⟨k,e1,e3⟩:=mapD e0
 subst e3
 have hu1:X.A.in1.units+9<cLine:=by have hz:X.A.in1.units=X.A.units+1:=rfl; omega
 cases b with
 |tup ds=>
  simp only[M.inD]at e1
  split at e1
  ·rename_i hf
   cases e1
   rw[Qqk]at hf
   obtain⟨p,xs,its,rfl,hq,ix,r,pl⟩:=qzh I i2
   cases ry
   obtain⟨ef,ha⟩:=qwc I X.A.in1 hu1 hf.1 i1 rx
   obtain⟨h1,h2⟩:=ha ds xs its hf.2 ix r
   refine SeqAt.notIn_tupleAt ef pl (fun w hw=>h1 w (by simpa using hw)) ⟨.bl _,H,I,rfl,?_⟩
   rw[show its.toArray.any ef=its.any ef by simp,h2]
   exact q.here R0 (mkBl _)
  ·cases e1
 |loc l=>
  simp only[M.inD]at e1
  obtain⟨ds,e2,e1⟩:=qzf e1
  split at e1
  ·rename_i hf
   cases e1
   rw[Qqk]at hf
   obtain⟨p,xs,_,rfl,hq,ix⟩:=R0.seq e2 i2
   cases ry
   obtain⟨its,r,pl,_⟩:=I.list hq
   obtain⟨ef,ha⟩:=qwc I X.A.in1 hu1 hf.1 i1 rx
   obtain⟨h1,h2⟩:=ha ds xs its hf.2 ix r
   refine SeqAt.notIn_listAt ef pl.isList (fun w hw=>h1 w (by simpa using hw)) ⟨.bl _,H,I,rfl,?_⟩
   rw[show its.toArray.any ef=its.any ef by simp,h2]
   exact q.here R0 (mkBl _)
  ·cases e1
 |lst l=>
  simp only[M.inD]at e1
  obtain⟨ds,e2,e1⟩:=qzf e1
  split at e1
  ·rename_i hf
   cases e1
   rw[Qqk]at hf
   obtain⟨p,xs,_,rfl,hq,ix⟩:=R0.seq e2 i2
   cases ry
   obtain⟨its,r,pl,_⟩:=I.list hq
   obtain⟨ef,ha⟩:=qwc I X.A.in1 hu1 hf.1 i1 rx
   obtain⟨h1,h2⟩:=ha ds xs its hf.2 ix r
   refine SeqAt.notIn_listAt ef pl.isList (fun w hw=>h1 w (by simpa using hw)) ⟨.bl _,H,I,rfl,?_⟩
   rw[show its.toArray.any ef=its.any ef by simp,h2]
   exact q.here R0 (mkBl _)
  ·cases e1
 |str z=>
  simp only[M.inD]at e1
  cases a with
  |str y0=>
   obtain⟨c,e3,e4⟩:=mapD e1
   have hy:=qku e3
   subst hy
   subst e4
   refine qyp pins s σ H x y v u Q I rx ry ⟨_,_,i1.str,i2.str,?_⟩
   rw[PySem.StrLaws.found_one]
   exact q.here R0 (mkBl _)
  |_=>cases e1
 |_=>simp[M.inD,M.seqAt]at e1
theorem op_eqD(hu:X.A.units+64<cLine):OpR X (compareOp .Eq) (rD X.K fun st a b=>(M.eqD st a b).map fun k=>(.bl k,st)):=by
 intro pins s σ H x y v u Q I rx ry h
 refine h.el fun m st a b d st' R0 i1 i2 e q=>?_
 obtain⟨k,e1,e2⟩:=mapD e
 cases e2
 have e1:M.eqD st a b=some k:=e1
 unfold M.eqD at e1
 split at e1
 ·rename_i ds es g1 g2
  split at e1
  ·rename_i hf
   cases e1
   rw[Qqk]at hf
   obtain⟨p,xs,_,rfl,hq,ix⟩:=R0.seq g1 i1
   obtain⟨p',ys,_,rfl,hq',iy⟩:=R0.seq g2 i2
   cases rx
   cases ry
   obtain⟨its,r1,pl,_⟩:=I.list hq
   obtain⟨its2,r2,pl2,_⟩:=I.list hq'
   have l1:=ix.length
   have l2:=iy.length
   have l3:=r1.length
   have l4:=r2.length
   by_cases hsz:its.toArray.size=its2.toArray.size
   ·refine SeqAt.RcAt.lists (e:=pairE ds es) pl.isList pl2.isList hsz (by omega) (fun j h1 h2=>?_) _ _ _ _ ⟨.bl _,H,I,rfl,?_⟩
    ·rw[Qqa]at h1 h2
     have j1:j<ds.length:=by omega
     have j2:j<es.length:=by omega
     have g1:ds[j]?=some ds[j]:=by simp
     have g2:es[j]?=some es[j]:=by simp
     obtain⟨x1,k1,q1⟩:=ix.get g1
     obtain⟨x2,k2,q2⟩:=iy.get g2
     obtain⟨u1,w1,z1⟩:=r1.get k1
     obtain⟨u2,w2,z2⟩:=r2.get k2
     have this:=(qco I 9 X.A.in1 ds[j] es[j] x1 x2 u1 u2 (by have hz:X.A.in1.units=X.A.units+1:=rfl; omega) (qxb hf.1 g1) (qxb hf.2 g2) q1 q2 z1 z2).1
     have e1:its.toArray[j]=u1:=by
      have:its[j]?=some its[j]:=by simp
      rw[w1]at this
      simpa using (Option.some.inj this).symm
     have e2:its2.toArray[j]=u2:=by
      have:its2[j]?=some its2[j]:=by simp
      rw[w2]at this
      simpa using (Option.some.inj this).symm
     rw[e1,e2]
     have e3:pairE ds es j=M.eqT ds[j] es[j]:=by
      unfold pairE
      rw[g1,g2]
     rw[e3]
     exact this
    ·rw[Qqa,Qqa]at hsz
     have e5:(List.range its.toArray.size).all (pairE ds es)=M.eqTs ds es:=by
      rw[qaq (by omega),Qqa,← l3,← l1]
     rw[e5]
     exact q.here R0 (mkBl _)
   ·rw[Qqa,Qqa]at hsz
    have e5:M.eqTs ds es=false:=by
     rw[qqr]
     have:(ds.length==es.length)=false:=by simp; omega
     rw[this,Qx7]
    rw[e5]at q
    refine SeqAt.RcAt.lists_lengths pl.isList pl2.isList (by simpa using hsz) (by omega) _ _ _ _ ⟨.bl _,H,I,rfl,q.here R0 (mkBl _)⟩
  ·cases e1
 ·split at e1
  ·rename_i hf
   cases e1
   rw[Qqk]at hf
   exact(qco I 9 X.A a b x y v u (by omega) hf.1 hf.2 i1 i2 rx ry).2 _ _ _ _ ⟨.bl _,H,I,rfl,q.here R0 (mkBl _)⟩
  ·cases e1
theorem neAt_D{pins:List (Addr×Obj)}{σ:L2.St}{H:Hp}{s:Shared}{m:List Addr}(I:Inv X pins σ H s)(A:Around)(d e:D)(x y:V)(u v:Value)(hu:A.units+10<cLine)(f:M.flat 9 d=true)(fe:M.flat 9 e=true)(hx:IsD X.K m H d x)(hy:IsD X.K m H e y)(rx:RelV x u)(ry:RelV y v):
  SeqAt.RcNeAt A s u v (!M.eqT d e):=by
 have hu0:A.units<cLine:=by omega
 cases d with
 |loc _=>simp[M.flat]at f
 |lst _=>simp[M.flat]at f
 |non=>
  cases hx.non; cases rx
  cases e with
  |loc _=>simp[M.flat]at fe
  |lst _=>simp[M.flat]at fe
  |tup es=>obtain⟨b,ys,its2,rfl,hq2,iy,r2,p2⟩:=qzh I hy; cases ry; exact SeqAt.RcNeAt.none_tuple p2 hu0
  |non=>cases hy.non; cases ry; exact SeqAt.RcNeAt.none_none
  |bl b=>cases hy.bl; cases ry; exact SeqAt.RcNeAt.none_bool b
  |int b=>cases hy.int; obtain⟨t,rfl⟩:=ry; exact SeqAt.RcNeAt.none_int b t
  |str b=>cases hy.str; obtain⟨t,rfl⟩:=ry; exact SeqAt.RcNeAt.none_str b t
 |bl a=>
  cases hx.bl; cases rx
  cases e with
  |loc _=>simp[M.flat]at fe
  |lst _=>simp[M.flat]at fe
  |tup es=>obtain⟨b,ys,its2,rfl,hq2,iy,r2,p2⟩:=qzh I hy; cases ry; exact SeqAt.RcNeAt.bool_tuple a p2 hu0
  |non=>cases hy.non; cases ry; exact SeqAt.RcNeAt.bool_none a
  |bl b=>cases hy.bl; cases ry; exact SeqAt.RcNeAt.bool_bool a b
  |int b=>cases hy.int; obtain⟨t,rfl⟩:=ry; exact SeqAt.RcNeAt.bool_int a b t
  |str b=>cases hy.str; obtain⟨t,rfl⟩:=ry; exact SeqAt.RcNeAt.bool_str a b t
 |int a=>
  cases hx.int; obtain⟨t',rfl⟩:=rx
  cases e with
  |loc _=>simp[M.flat]at fe
  |lst _=>simp[M.flat]at fe
  |tup es=>obtain⟨b,ys,its2,rfl,hq2,iy,r2,p2⟩:=qzh I hy; cases ry; exact SeqAt.RcNeAt.int_tuple a t' p2 hu0
  |non=>cases hy.non; cases ry; exact SeqAt.RcNeAt.int_none a t'
  |bl b=>cases hy.bl; cases ry; exact SeqAt.RcNeAt.int_bool a t' b
  |int b=>cases hy.int; obtain⟨t,rfl⟩:=ry; exact SeqAt.RcNeAt.int_int a t' b t
  |str b=>cases hy.str; obtain⟨t,rfl⟩:=ry; exact SeqAt.RcNeAt.int_str a t' b t
 |str a=>
  cases hx.str; obtain⟨t',rfl⟩:=rx
  cases e with
  |loc _=>simp[M.flat]at fe
  |lst _=>simp[M.flat]at fe
  |tup es=>obtain⟨b,ys,its2,rfl,hq2,iy,r2,p2⟩:=qzh I hy; cases ry; exact SeqAt.RcNeAt.str_tuple a t' p2 hu0
  |non=>cases hy.non; cases ry; exact SeqAt.RcNeAt.str_none a t'
  |bl b=>cases hy.bl; cases ry; exact SeqAt.RcNeAt.str_bool a t' b
  |int b=>cases hy.int; obtain⟨t,rfl⟩:=ry; exact SeqAt.RcNeAt.str_int a t' b t
  |str b=>cases hy.str; obtain⟨t,rfl⟩:=ry; exact SeqAt.RcNeAt.str_str a t' b t
 |tup ds=>
  obtain⟨a,xs,its,rfl,hq,ix,r1,p1⟩:=qzh I hx
  cases rx
  cases e with
  |loc _=>simp[M.flat]at fe
  |lst _=>simp[M.flat]at fe
  |non=>cases hy.non; cases ry; exact SeqAt.RcNeAt.tuple_none p1 hu0
  |bl b=>cases hy.bl; cases ry; exact SeqAt.RcNeAt.tuple_bool b p1 hu0
  |int b=>cases hy.int; obtain⟨t,rfl⟩:=ry; exact SeqAt.RcNeAt.tuple_int b t p1 hu0
  |str b=>cases hy.str; obtain⟨t,rfl⟩:=ry; exact SeqAt.RcNeAt.tuple_str b t p1 hu0
  |tup es=>
   obtain⟨b,ys,its2,rfl,hq2,iy,r2,p2⟩:=qzh I hy
   cases ry
   have l1:=ix.length
   have l2:=iy.length
   have l3:=r1.length
   have l4:=r2.length
   simp only[M.flat]at f fe
   have he:∀ j (h1:j<its.toArray.size) (h2:j<its2.toArray.size),SeqAt.EqAt A.in1 s its.toArray[j] its2.toArray[j] (pairE ds es j):=fun j h1 h2=>qce I A.in1 8 (by have hz:A.in1.units=A.units+1:=rfl; omega) f fe ix iy r1 r2 j h1 h2
   have:=SeqAt.RcNeAt.tuples p1 p2 hu0 he
   simp only[M.eqT]
   rw[qqr,l1,l2,l3,l4]
   simpa using this
theorem op_neD(hu:X.A.units+64<cLine):OpR X (compareOp .NotEq) (rD X.K fun st a b=>(M.neD st a b).map fun k=>(.bl k,st)):=by
 intro pins s σ H x y v u Q I rx ry h
 obtain⟨m,st,a,b,d,st',R0,i1,i2,e,q⟩:=h
 obtain⟨k0,e0,e2⟩:=mapD e
 cases e2
 obtain⟨k,e1,e3⟩:=mapD e0
 subst e3
 have e1:M.eqD st a b=some k:=e1
 unfold M.eqD at e1
 split at e1
 ·rename_i ds es g1 g2
  split at e1
  ·rename_i hf
   cases e1
   rw[Qqk]at hf
   obtain⟨p,xs,_,rfl,hq,ix⟩:=R0.seq g1 i1
   obtain⟨p',ys,_,rfl,hq',iy⟩:=R0.seq g2 i2
   cases rx
   cases ry
   obtain⟨its,r1,pl,_⟩:=I.list hq
   obtain⟨its2,r2,pl2,_⟩:=I.list hq'
   have l1:=ix.length
   have l2:=iy.length
   have l3:=r1.length
   have l4:=r2.length
   by_cases hsz:its.toArray.size=its2.toArray.size
   ·refine SeqAt.RcNeAt.lists (e:=pairE ds es) pl.isList pl2.isList hsz (by omega) (fun j h1 h2=>qce I X.A.in1 9 (by have hz:X.A.in1.units=X.A.units+1:=rfl; omega) hf.1 hf.2 ix iy r1 r2 j h1 h2) _ _ _ _ ⟨.bl _,H,I,rfl,?_⟩
    rw[Qqa,Qqa]at hsz
    have e5:(List.range its.toArray.size).all (pairE ds es)=M.eqTs ds es:=by
     rw[qaq (by omega),Qqa,← l3,← l1]
    rw[e5]
    exact q.here R0 (mkBl _)
   ·rw[Qqa,Qqa]at hsz
    have e5:M.eqTs ds es=false:=by
     rw[qqr]
     have:(ds.length==es.length)=false:=by simp; omega
     rw[this,Qx7]
    rw[e5]at q
    refine SeqAt.RcNeAt.lists_lengths pl.isList pl2.isList (by simpa using hsz) (by omega) _ _ _ _ ⟨.bl _,H,I,rfl,q.here R0 (mkBl _)⟩
  ·cases e1
 ·split at e1
  ·rename_i hf
   cases e1
   rw[Qqk]at hf
   exact neAt_D I X.A a b x y v u (by omega) hf.1 hf.2 i1 i2 rx ry _ _ _ _ ⟨.bl _,H,I,rfl,q.here R0 (mkBl _)⟩
  ·cases e1
theorem qcf{K:Qqq}{m:List Addr}{H:Hp}{d:D}{x:V}(h:IsD K m H d x):decide (x=.non)=M.isNon d:=by
 cases d with
 |non=>rw[h.non]; rfl
 |bl b=>rw[h.bl]; rfl
 |int b=>rw[h.int]; rfl
 |str b=>rw[h.str]; rfl
 |tup ds=>obtain⟨a,xs,rfl,_⟩:=h.tup; rfl
 |loc l=>obtain⟨a,_,rfl⟩:=h.loc; rfl
 |lst l=>obtain⟨a,xs,rfl,_⟩:=h.lst; rfl
theorem qe1(hu:X.A.units+64<cLine)(op:CmpOp):OpR X (compareOp op) (rD X.K fun st a b=>(M.cmpD st op a b).map fun k=>(.bl k,st)):=by
 intro pins s σ H x y v u Q I rx ry h
 obtain⟨m,st,a,b,d,st',R0,i1,i2,e,q⟩:=h
 obtain⟨k,e1,e2⟩:=mapD e
 cases e2
 have e1:M.cmpD st op a b=some k:=e1
 unfold M.cmpD at e1
 split at e1
 ·cases e1
  exact op_lt pins s σ H x y v u Q I rx ry ⟨_,_,i1.int,i2.int,q.here R0 (mkBl _)⟩
 ·cases e1
  exact op_le pins s σ H x y v u Q I rx ry ⟨_,_,i1.int,i2.int,q.here R0 (mkBl _)⟩
 ·cases e1
  exact op_gt pins s σ H x y v u Q I rx ry ⟨_,_,i1.int,i2.int,q.here R0 (mkBl _)⟩
 ·cases e1
  exact op_ge pins s σ H x y v u Q I rx ry ⟨_,_,i1.int,i2.int,q.here R0 (mkBl _)⟩
 ·exact op_eqD hu pins s σ H x y v u Q I rx ry ⟨m,st,a,b,_,_,R0,i1,i2,by dsimp only; rw[e1]; rfl,q⟩
 ·exact op_neD hu pins s σ H x y v u Q I rx ry ⟨m,st,a,b,_,_,R0,i1,i2,by dsimp only; rw[e1]; rfl,q⟩
 ·cases e1
  refine op_isN pins s σ H x y v u Q I rx ry ⟨i2.non,?_⟩
  rw[qcf i1]
  exact q.here R0 (mkBl _)
 ·cases e1
  refine ql4 pins s σ H x y v u Q I rx ry ⟨i2.non,?_⟩
  rw[qcf i1]
  exact q.here R0 (mkBl _)
 ·exact op_inD hu pins s σ H x y v u Q I rx ry ⟨m,st,a,b,_,_,R0,i1,i2,by dsimp only; rw[e1]; rfl,q⟩
 ·exact qet hu pins s σ H x y v u Q I rx ry ⟨m,st,a,b,_,_,R0,i1,i2,by dsimp only; rw[e1]; rfl,q⟩
 ·cases e1
theorem qi6{K:Qqq}{m:List Addr}{st:Store}{H:Hp}{d:D}{x:V}{k:Bool}(R0:Rel K m st H)(h:IsD K m H d x)(e:M.truth st d=some k):TruV K x H k:=by
 cases d with
 |non=>rw[h.non]; simp only[M.truth]at e; exact(Option.some.inj e).symm
 |bl b=>rw[h.bl]; simp only[M.truth]at e; exact(Option.some.inj e).symm
 |int b=>rw[h.int]; simp only[M.truth]at e; exact(Option.some.inj e).symm
 |str b=>
  rw[h.str]
  simp only[M.truth]at e
  split at e
  ·cases e
  ·have l3:=qqq
   exact⟨by omega,(Option.some.inj e).symm⟩
 |tup ds=>
  obtain⟨a,xs,rfl,hq,ix⟩:=h.tup
  simp only[M.truth]at e
  refine .inr (.inl ⟨xs,hq,?_⟩)
  have:=ix.length
  cases e
  cases ds<;>cases xs<;>simp_all
 |loc l=>
  simp only[M.truth]at e
  obtain⟨ds,e1,e2⟩:=mapD e
  obtain⟨a,xs,_,rfl,hq,ix⟩:=R0.seq e1 h
  refine .inl ⟨xs,hq,?_⟩
  have:=ix.length
  subst e2
  cases ds<;>cases xs<;>simp_all
 |lst l=>
  simp only[M.truth]at e
  obtain⟨ds,e1,e2⟩:=mapD e
  obtain⟨a,xs,_,rfl,hq,ix⟩:=R0.seq e1 h
  refine .inl ⟨xs,hq,?_⟩
  have:=ix.length
  subst e2
  cases ds<;>cases xs<;>simp_all
theorem qi0{K:Qqq}{m:List Addr}{H:Hp}{ds:List D}{xs:List V}{i:Int}{d:D}(ix:IsDs K m H ds xs)(e:M.atI ds i=some d):∃ x,L2.atI xs i=some x∧IsD K m H d x:=by
 unfold M.atI at e
 obtain⟨j,e1,e2⟩:=qzf e
 obtain⟨x,e3,q⟩:=ix.get e2
 refine⟨x,?_,q⟩
 unfold L2.atI
 have e4:L2.ixN xs.length i=some j:=by rw[← ix.length]; exact e1
 rw[e4]
 exact e3
theorem ix_D:IxR X (rD X.K fun st a b=>(M.idxD st a b).map fun d=>(d,st)):=by
 intro value slice pins s σ H x y v u Q I rx ry h hs
 obtain⟨m,st,a,b,d,st',R0,i1,i2,e,q⟩:=h
 obtain⟨k,e1,e2⟩:=mapD e
 cases e2
 have e1:M.idxD st a b=some d:=e1
 unfold M.idxD at e1
 split at e1
 ·obtain⟨p,xs,rfl,hq,ix⟩:=i1.tup
  obtain⟨w,e3,iw⟩:=qi0 ix e1
  exact ix_tup value slice pins s σ H _ _ v u Q I rx ry ⟨p,xs,_,w,rfl,i2.int,hq,e3,q.here R0 iw⟩ hs
 ·split at e1
  ·cases e1
  ·obtain⟨c,e3,e4⟩:=mapD e1
   subst e4
   have l3:=qqq
   exact ix_str value slice pins s σ H _ _ v u Q I rx ry ⟨_,_,c,i1.str,i2.int,by omega,e3,q.here R0 (mkStr _)⟩ hs
 ·obtain⟨ds,e2,e1⟩:=qzf e1
  obtain⟨p,xs,_,rfl,hq,ix⟩:=R0.seq e2 i1
  obtain⟨w,e3,iw⟩:=qi0 ix e1
  exact qmb value slice pins s σ H _ _ v u Q I rx ry ⟨p,xs,_,w,rfl,i2.int,hq,e3,q.here R0 iw⟩ hs
 ·cases e1
theorem qdy:MtM X "list.append" (fun x xs H Q=>∃ m st a ds d st',Rel X.K m st H∧IsD X.K m H a x∧IsDs X.K m H ds xs∧M.mAppend st a ds=some (d,st')∧Post X.K m H d st' Q):=by
 intro pins s σ H x xs v us Q I rx rs h
 obtain⟨m,st,a,ds,d,st',R0,i1,i2,e,q⟩:=h
 unfold M.mAppend at e
 split at e
 ·obtain⟨ds0,e1,e⟩:=qzf e
  split at e
  ·rename_i hl
   cases e
   obtain⟨p,ys,hm,rfl,hp,ix,hs⟩:=R0.wlist e1 i1
   obtain⟨y,rfl,iy⟩:=i2.one
   have l1:=ix.length
   have l2:=qqq
   refine qfk pins s σ H _ _ v us Q I rx rs ⟨p,ys,y,rfl,rfl,hp,by omega,?_⟩
   exact q _ m _ (Sub.refl m) (Tr.put hp) (R0.put hs hm hp (ix.append (qzw iy qz7))) qyu
  ·cases e
 ·cases e
def rSlD(K:Qqq):V→Option Int→Option Int→Hp→VK→Prop:=fun x lo hi H Q=>∃ m st a d st',Rel K m st H∧IsD K m H a x∧M.sliD st a lo hi=some (d,st')∧Post K m H d st' Q
theorem _root_.MS.IsDs.take{K:Qqq}{m:List Addr}{H:Hp}:∀ {ds:List D}{xs:List V}(n:Nat),IsDs K m H ds xs→IsDs K m H (ds.take n) (xs.take n)
 |_,_,0,_=>by simp only[List.take_zero]; exact qz7
 |[],_,n+1,h=>by rw[h.nil]; simp only[List.take_nil]; exact qz7
 |d::ds,_,n+1,h=>by
  obtain⟨x,r,rfl,q,t⟩:=h.cons
  simp only[List.take_succ_cons]
  exact qzw q (IsDs.take n t)
theorem _root_.MS.IsDs.drop{K:Qqq}{m:List Addr}{H:Hp}:∀ {ds:List D}{xs:List V}(n:Nat),IsDs K m H ds xs→IsDs K m H (ds.drop n) (xs.drop n)
 |_,_,0,h=>by simp only[Qx8]; exact h
 |[],_,n+1,h=>by rw[h.nil]; simp only[List.drop_nil]; exact qz7
 |d::ds,_,n+1,h=>by
  obtain⟨x,r,rfl,q,t⟩:=h.cons
  simp only[List.drop_succ_cons]
  exact IsDs.drop n t
theorem qcr(n d:Nat)(o:Option Int):M.cutIx n d o=HT.sIx n d o:=by
 cases o<;>rfl
theorem qit{K:Qqq}{m:List Addr}{H:Hp}{ds:List D}{xs:List V}(h:IsDs K m H ds xs)(lo hi:Option Int):IsDs K m H (M.cut ds lo hi) (cutV xs lo hi):=by
 unfold M.cut cutV
 rw[qcr,qcr,h.length]
 exact(h.drop _).take _
theorem sl_D:SlR X (rSlD X.K):=by
 intro pins s σ H x v vl vu lo hi sl Q I rx hs pl pu h
 obtain⟨m,st,a,d,st',R0,i1,e,q⟩:=h
 unfold M.sliD at e
 split at e
 ·cases e
  obtain⟨p,xs,rfl,hx,ix⟩:=i1.tup
  have ic:=qit ix lo hi
  by_cases hw:HT.sIx xs.length 0 lo=0∧HT.sIx xs.length xs.length hi=xs.length
  ·cases rx
   obtain⟨its,r,ht,hz⟩:=I.tuple hx
   refine⟨"tuple",_,PyProof.Rows.slot_tuple_getitem.lookup,ht.typeIs,?_⟩
   have hlen:its.toArray.size=xs.length:=by rw[Qqa]; exact r.length.symm
   refine qjw ht hs pl pu (by rw[hlen]; exact hw) ?_
   refine⟨.ref p,H,I,rfl,q.here R0 (qxw hx ?_)⟩
   have e1:cutV xs lo hi=xs:=by
    unfold cutV
    rw[hw.1,hw.2]
    simp
   rw[e1]at ic
   exact ic
  ·refine sl_tup pins s σ H _ v vl vu lo hi sl Q I rx hs pl pu ⟨p,xs,rfl,hx,hw,fun p' hp=>?_⟩
   have sm:=qzo (o:=.tup (cutV xs lo hi)) hp
   exact q _ m _ (Sub.refl m) (Tr.of_same sm) (R0.same sm) (qxw (SqT.of qzn) (qza (Sub.refl m) (Tr.of_same sm) _ _ ic))
 ·split at e
  ·cases e
  ·rename_i hz
   cases e
   have l2:=qqq
   exact qlw pins s σ H _ v vl vu lo hi sl Q I rx hs pl pu ⟨_,i1.str,by omega,q.here R0 (mkStr _)⟩
 ·obtain⟨ds,e1,e2⟩:=mapD e
  cases e2
  obtain⟨p,xs,_,rfl,hq,ix⟩:=R0.seq e1 i1
  refine qly pins s σ H _ v vl vu lo hi sl Q I rx hs pl pu ⟨p,xs,rfl,hq,fun l hl=>?_⟩
  exact q _ (m++[l]) _ (Sub.app m [l]) (Tr.of_same (qzo hl)) (R0.new hl (qit ix lo hi)) R0.newLoc
theorem qgx:CallR X (.builtin "len") (rC X.K M.bLen):=by
 intro pins s σ H xs us Q I r h
 refine h.el fun m st ds d st' R0 ix e q=>?_
 unfold M.bLen at e
 split at e
 ·cases e
  obtain⟨x,rfl,i⟩:=ix.one
  obtain⟨p,ys,rfl,hq,iy⟩:=i.tup
  refine qki pins s σ H _ us Q I r ⟨p,ys,rfl,.inr hq,?_⟩
  rw[← iy.length]
  exact q.here R0 (mkInt _)
 ·split at e
  ·cases e
  ·cases e
   obtain⟨x,rfl,i⟩:=ix.one
   have l3:=qqq
   cases i.str
   exact qae pins s σ H _ us Q I r ⟨_,rfl,by omega,q.here R0 (mkInt _)⟩
 ·obtain⟨ds',e1,e2⟩:=mapD e
  cases e2
  obtain⟨x,rfl,i⟩:=ix.one
  obtain⟨p,ys,_,rfl,hq,iy⟩:=R0.seq e1 i
  refine qki pins s σ H _ us Q I r ⟨p,ys,rfl,.inl hq,?_⟩
  rw[← iy.length]
  exact q.here R0 (mkInt _)
 ·cases e
theorem qgz(hc:X.calm=true):CallR X (.builtin "min") (rC X.K M.bMin):=by
 intro pins s σ H xs us Q I r h
 refine h.el fun m st ds d st' R0 ix e q=>?_
 unfold M.bMin at e
 split at e
 ·cases e
  obtain⟨x,y,rfl,i,j⟩:=ix.two
  cases i.int; cases j.int
  exact qgq hc pins s σ H _ us Q I r ⟨_,_,rfl,q.here R0 (mkInt _)⟩
 ·cases e
theorem qvo:CallR X (.type "tuple") (rC X.K M.bTuple):=by
 intro pins s σ H xs us Q I r h
 refine h.el fun m st ds d st' R0 ix e q=>?_
 unfold M.bTuple at e
 split at e
 ·cases e
  obtain⟨x,rfl,i⟩:=ix.one
  obtain⟨p,ys,rfl,hq,iy⟩:=i.tup
  exact qj1 pins s σ H _ us Q I r ⟨p,ys,rfl,.inr ⟨hq,q.here R0 (qxw hq iy)⟩⟩
 ·obtain⟨ds',e1,e2⟩:=mapD e
  cases e2
  obtain⟨x,rfl,i⟩:=ix.one
  obtain⟨p,ys,_,rfl,hq,iy⟩:=R0.seq e1 i
  refine qj1 pins s σ H _ us Q I r ⟨p,ys,rfl,.inl ⟨hq,fun l hl=>?_⟩⟩
  have sm:=qzo (o:=.tup ys) hl
  exact q _ m _ (Sub.refl m) (Tr.of_same sm) (R0.same sm) (qxw (SqT.of qzn) (qza (Sub.refl m) (Tr.of_same sm) _ _ iy))
 ·cases e
theorem qyz{K:Qqq}{m:List Addr}{H:Hp}:∀ {ds:List D}{xs:List V}{its:List Value}{bs:List Bool},M.asBools ds=some bs→IsDs K m H ds xs→Vals xs its→LSm.BoolsAre its bs
 |[],_,_,_,e,ix,r=>by
  rw[ix.nil]at r
  cases r
  cases e
  exact .nil
 |d::ds,_,_,_,e,ix,r=>by
  obtain⟨x,xr,rfl,q,t⟩:=ix.cons
  cases d with
  |bl b=>
   simp only[M.asBools]at e
   obtain⟨bs',e1,e2⟩:=mapD e
   subst e2
   cases q.bl
   cases r with
   |cons r1 r2=>
    cases r1
    exact .cons b (qyz e1 t r2)
  |_=>simp[M.asBools]at e
theorem ints_of{K:Qqq}{m:List Addr}{H:Hp}:∀ {ds:List D}{xs:List V}{ns:List Int},M.asInts ds=some ns→IsDs K m H ds xs→xs=ns.map V.int∧ds=ns.map D.int
 |[],_,_,e,ix=>by
  cases e
  exact⟨ix.nil,rfl⟩
 |d::ds,_,_,e,ix=>by
  obtain⟨x,xr,rfl,q,t⟩:=ix.cons
  cases d with
  |int b=>
   simp only[M.asInts]at e
   obtain⟨bs',e1,e2⟩:=mapD e
   subst e2
   cases q.int
   obtain⟨h1,h2⟩:=ints_of e1 t
   rw[h1,h2]
   exact⟨rfl,rfl⟩
  |_=>simp[M.asInts]at e
theorem qgy(hc:X.calm=true):CallR X (.builtin "all") (rC X.K M.bAll):=by
 intro pins s σ H xs us Q I r h
 refine h.el fun m st ds d st' R0 ix e q=>?_
 unfold M.bAll at e
 split at e
 ·obtain⟨ds',e1,e⟩:=qzf e
  obtain⟨bs,e2,e3⟩:=mapD e
  cases e3
  obtain⟨x,rfl,i⟩:=ix.one
  obtain⟨p,ys,_,rfl,hq,iy⟩:=R0.seq e1 i
  obtain⟨u,rfl,ru⟩:=vals1 r
  cases ru
  obtain⟨its,rv,pl,_⟩:=I.list hq
  have hb:=qyz e2 iy rv
  have hl:=pl.isList
  have hlt:p<s.heap.objs.size:=by obtain⟨_,e,_⟩:=id hl; exact Qqf e
  refine call_all_walk (wpAny_pyIter_list hl ?_)
  refine⟨s.heap.objs.size,[s.heap.objs.size,p],[s.heap.objs.size],its.toArray.size,_,_,fun i=>(bs[i]?).getD true,rfl,Walks.list (A:=X.A.in1) (I.ok.hd hc) _ p (Qq4 hlt) its.toArray,
   ⟨⟨_,Qqr _ rfl,rfl,rfl⟩,hl.push _⟩,fun i v s' Q' E' hP hQ=>?_,fun h' tk hk=>?_⟩
  ·obtain⟨b,e,rfl⟩:=hb.get i v (by simpa using hP)
   simp only[e,Option.getD_some]at hQ
   exact wpAny_truthy_bool hQ
  ·have e:((List.range its.toArray.size).all fun i=>(bs[i]?).getD true)=bs.all id:=by
    rw[Qqa,hb.length]; exact LSm.range_all bs
   rw[e]
   exact⟨.bl _,H,I.kept (LSm.kept_iter hk),rfl,q.here R0 (mkBl _)⟩
 ·cases e
theorem range_any(bs:List Bool):((List.range bs.length).any fun i=>(bs[i]?).getD false)=bs.any id:=by
 rw[Qq1,Qzs,Qzs]
 constructor
 ·rintro⟨i,hi,h⟩
  have hi:=Qzn.mp hi
  rw[Qqi hi]at h
  exact⟨bs[i],Qz3 hi,h⟩
 ·rintro⟨b,hb,h⟩
  obtain⟨i,hi,rfl⟩:=List.getElem_of_mem hb
  exact⟨i,Qzn.mpr hi,by rw[Qqi hi]; exact h⟩
theorem qgw(hc:X.calm=true):CallR X (.builtin "any") (rC X.K M.bAny):=by
 intro pins s σ H xs us Q I r h
 refine h.el fun m st ds d st' R0 ix e q=>?_
 unfold M.bAny at e
 split at e
 ·obtain⟨ds',e1,e⟩:=qzf e
  obtain⟨bs,e2,e3⟩:=mapD e
  cases e3
  obtain⟨x,rfl,i⟩:=ix.one
  obtain⟨p,ys,_,rfl,hq,iy⟩:=R0.seq e1 i
  obtain⟨u,rfl,ru⟩:=vals1 r
  cases ru
  obtain⟨its,rv,pl,_⟩:=I.list hq
  have hb:=qyz e2 iy rv
  have hl:=pl.isList
  have hlt:p<s.heap.objs.size:=by obtain⟨_,e,_⟩:=id hl; exact Qqf e
  refine call_any_walk (wpAny_pyIter_list hl ?_)
  refine⟨s.heap.objs.size,[s.heap.objs.size,p],[s.heap.objs.size],its.toArray.size,_,_,fun i=>(bs[i]?).getD false,rfl,Walks.list (A:=X.A.in1) (I.ok.hd hc) _ p (Qq4 hlt) its.toArray,
   ⟨⟨_,Qqr _ rfl,rfl,rfl⟩,hl.push _⟩,fun i v s' Q' E' hP hQ=>?_,fun h' tk hk=>?_⟩
  ·obtain⟨b,e,rfl⟩:=hb.get i v (by simpa using hP)
   simp only[e,Option.getD_some]at hQ
   exact wpAny_truthy_bool hQ
  ·have e:((List.range its.toArray.size).any fun i=>(bs[i]?).getD false)=bs.any id:=by
    rw[Qqa,hb.length]; exact range_any bs
   rw[e]
   exact⟨.bl _,H,I.kept (LSm.kept_iter hk),rfl,q.here R0 (mkBl _)⟩
 ·cases e
theorem qjv(x:Int):∀ l:List Int,(M.insInt x l).Perm (x::l)
 |[]=>.refl _
 |y::r=>by
  unfold M.insInt
  split
  ·exact .refl _
  ·exact((qjv x r).cons y).trans (.swap x y r)
theorem qxv:∀ l:List Int,(M.sortInt l).Perm l
 |[]=>.refl _
 |x::r=>by
  unfold M.sortInt
  exact(qjv x _).trans ((qxv r).cons x)
theorem qjr(x:Int):∀ l:List Int,l.Pairwise (· ≤ ·)→(M.insInt x l).Pairwise (· ≤ ·)
 |[],_=>by unfold M.insInt; simp
 |y::r,h=>by
  unfold M.insInt
  split
  ·rename_i hx
   refine List.Pairwise.cons (fun z hz=>?_) h
   rcases Qqw.mp hz with e|e
   ·rw[e]; exact hx
   ·exact Int.le_trans hx ((List.pairwise_cons.mp h).1 z e)
  ·rename_i hx
   have h':=List.pairwise_cons.mp h
   refine List.Pairwise.cons (fun z hz=>?_) (qjr x r h'.2)
   rcases Qqw.mp ((qjv x r).mem_iff.mp hz) with e|e
   ·rw[e]; omega
   ·exact h'.1 z e
theorem qx6:∀ l:List Int,(M.sortInt l).Pairwise (· ≤ ·)
 |[]=>by unfold M.sortInt; simp
 |x::r=>by
  unfold M.sortInt
  exact qjr x _ (qx6 r)
theorem qvw{K:Qqq}{m:List Addr}{H:Hp}:∀ (ns:List Int),IsDs K m H (ns.map D.int) (ns.map V.int)
 |[]=>qz7
 |n::r=>qzw (mkInt n) (qvw r)
theorem qad:CallR X (.builtin "sorted") (rC X.K M.bSorted):=by
 intro pins s σ H xs us Q I r h
 refine h.el fun m st ds d st' R0 ix e q=>?_
 unfold M.bSorted at e
 split at e
 ·obtain⟨ds',e1,e⟩:=qzf e
  obtain⟨ns,e2,e3⟩:=mapD e
  cases e3
  split at e2
  ·cases e2
  ·rename_i h64
   obtain⟨x,rfl,i⟩:=ix.one
   obtain⟨p,ys,_,rfl,hq,iy⟩:=R0.seq e1 i
   obtain⟨u,rfl,ru⟩:=vals1 r
   cases ru
   obtain⟨its,rv,pl,_⟩:=I.list hq
   obtain⟨e4,e5⟩:=ints_of e2 iy
   have l1:=iy.length
   have l2:=rv.length
   subst e4
   have hI:IntsAre its ns:=intsAre_of rv
   refine sorted_ints pl.isList hI (by omega) fun out ns' a1 a2 a3=>?_
   have e6:ns'=M.sortInt ns:=PySem.W.ksm_same (a2.trans (qxv ns).symm) a3 (qx6 ns)
   subst e6
   obtain⟨ep,he⟩:=sortedAll_at s.heap its out
   have fr:H (s.heap.objs.size+1)=none:=I.hok.fresh (Qx5 _)
   have l3:=(qxv ns).length_eq
   have l4:=qqq
   rw[Qqj]at l1
   refine⟨.ref (s.heap.objs.size+1),upd H (s.heap.objs.size+1) (.lst ((M.sortInt ns).map V.int)),I.laid (t':=s.toks) (fun b o e=>sortedAll_old e) (Qx5 _) ?_,rfl,?_⟩
   ·refine⟨?_,out.toList,ep,qk3 a1,?_⟩
    ·rw[Qqj,l3,l4]
     unfold M.lim
     omega
    ·rw[he]
   ·exact q _ (m++[_]) _ (Sub.app m _) (Tr.of_same (qzo fr)) (R0.new fr (qvw _)) R0.newLoc
 ·cases e
theorem qfa(K:Qqq)(n t:M.Ty)(ht:t≠.non):PySem.W.kitOne K (.type n.name) (.type t.name)=some (M.tyIs t n):=by
 cases n<;>cases t<;>first
  |exact absurd rfl ht
  |rfl
  |decide +kernel
theorem qfb(K:Qqq)(n:M.Ty):∀ ts:List M.Ty,(∀ t∈ts,t≠.non)→PySem.W.kitAny K (.type n.name) (ts.map fun t=>Value.type t.name)=some (ts.any fun t=>M.tyIs t n)
 |[],_=>rfl
 |t::ts,h=>by
  rw[Qqt,Qq2]
  unfold PySem.W.kitAny
  rw[qfa K n t (h t Qqe)]
  cases M.tyIs t n with
  |true=>rfl
  |false=>exact qfb K n ts fun t' ht=>h t' (Qqy _ ht)
theorem qig{pins:List (Addr×Obj)}{σ:L2.St}{H:Hp}{s:Shared}{m:List Addr}{st:Store}{d:D}{x:V}{u:Value}{n:M.Ty}(I:Inv X pins σ H s)(R0:Rel X.K m st H)(h:IsD X.K m H d x)(r:RelV x u)(e:M.tyName st d=some n):
  ∃ Hf:Heap→Prop,PySem.W.KitX X.K u (.type n.name) Hf∧Hf s.heap∧u≠.builtin "__main__.__loader__#opaque":=by
 cases d with
 |non=>cases h.non; cases r; cases e; exact⟨_,PySem.W.kitx_none,True.intro,fun z=>nomatch z⟩
 |bl b=>cases h.bl; cases r; cases e; exact⟨_,PySem.W.kitx_bool,True.intro,fun z=>nomatch z⟩
 |int b=>cases h.int; obtain⟨t,rfl⟩:=r; cases e; exact⟨_,PySem.W.kitx_int,True.intro,fun z=>nomatch z⟩
 |str b=>cases h.str; obtain⟨t,rfl⟩:=r; cases e; exact⟨_,PySem.W.kitx_str,True.intro,fun z=>nomatch z⟩
 |tup ds=>
  obtain⟨a,xs,its,rfl,hq,ix,r1,p1⟩:=qzh I h
  cases r
  cases e
  obtain⟨o,h1,h2,_⟩:=p1
  exact⟨_,PySem.W.kitx_tuple,⟨o,h1,h2⟩,fun z=>nomatch z⟩
 |loc l=>
  simp only[M.tyName]at e
  obtain⟨ds,e1,e2⟩:=mapD e
  subst e2
  obtain⟨a,xs,_,rfl,hq,ix⟩:=R0.seq e1 h
  cases r
  obtain⟨its,rv,pl,_⟩:=I.list hq
  obtain⟨o,h1,h2,_⟩:=pl.isList
  exact⟨_,PySem.W.kitx_list,⟨o,h1,h2⟩,fun z=>nomatch z⟩
 |lst l=>
  simp only[M.tyName]at e
  obtain⟨ds,e1,e2⟩:=mapD e
  subst e2
  obtain⟨a,xs,_,rfl,hq,ix⟩:=R0.seq e1 h
  cases r
  obtain⟨its,rv,pl,_⟩:=I.list hq
  obtain⟨o,h1,h2,_⟩:=pl.isList
  exact⟨_,PySem.W.kitx_list,⟨o,h1,h2⟩,fun z=>nomatch z⟩
def rIsi1(K:Qqq)(t:M.Ty):List V→Hp→VK→Prop:=fun xs H Q=>∃ m st d n x,xs=[x,.ty t.name]∧Rel K m st H∧IsD K m H d x∧M.tyName st d=some n∧Q (.bl (M.tyIs t n)) H
theorem qgk(t:M.Ty)(ht:t≠.non):CallR X (.builtin "isinstance") (rIsi1 X.K t):=by
 intro pins s σ H xs us Q I r h
 obtain⟨m,st,d,n,x,rfl,R0,i,e,q⟩:=h
 obtain⟨u,w,rfl,ru,rw'⟩:=vals2 r
 cases rw'
 obtain⟨Hf,Z,p,hx⟩:=qig I R0 i ru e
 exact PySem.W.kia_one Z I.kIn p (qfa X.K n t ht) hx fun tk=>⟨.bl _,H,I.tok tk,rfl,q⟩
def rIsiN(K:Qqq)(ts:List M.Ty):List V→Hp→VK→Prop:=fun xs H Q=>∃ m st d n x p,xs=[x,.ref p]∧H p=some (.tup (ts.map fun t=>V.ty t.name))∧Rel K m st H∧IsD K m H d x∧M.tyName st d=some n∧Q (.bl (ts.any fun t=>M.tyIs t n)) H
theorem qb1:∀ {ts:List M.Ty}{us:List Value},Vals (ts.map fun t=>V.ty t.name) us→us=ts.map fun t=>Value.type t.name
 |[],_,.nil=>rfl
 |t::ts,_,.cons r q=>by
  cases r
  rw[qb1 q]
  rfl
theorem qgj(ts:List M.Ty)(ht:∀ t∈ts,t≠.non):CallR X (.builtin "isinstance") (rIsiN X.K ts):=by
 intro pins s σ H xs us Q I r h
 obtain⟨m,st,d,n,x,p,rfl,hp,R0,i,e,q⟩:=h
 obtain⟨u,w,rfl,ru,rw'⟩:=vals2 r
 cases rw'
 obtain⟨Hf,Z,pz,hx⟩:=qig I R0 i ru e
 obtain⟨_,its,rv,⟨cls,dd,data,sl⟩,h1,h2,nn,h3⟩:=I.hok p _ hp
 have e1:=qb1 rv
 subst e1
 simp only at h2 h3
 subst h2 h3
 exact PySem.W.kia_tup Z I.kIn pz h1 (qfb X.K n ts ht) hx fun tk=>⟨.bl _,H,I.tok tk,rfl,q⟩
end
end MS
end
section
namespace MS
open PySem PySem.Spec PyProof.Rows L2
noncomputable def qx4(cells:List (Str×Addr)):List (Str×NameKind)→List (Str×Addr)→List (Str×Addr)
 |[],acc=>acc
 |(n,k)::r,acc=>qx4 cells r (if k==.free then(match cells.lookup n with|some a=>(n,a)::acc|none=>acc) else acc)
theorem qf4{env:Env}:∀ (names:List (Str×NameKind)) (acc:List (Str×Addr)),(∀ x∈names,x.2=.free→∃ c,env.cells.lookup x.1=some c)→
  (forIn names acc fun x r=>match x,r with
   |(name,kind),cs=>if (kind==.free)=true then do let a ← cellOf env name; pure (ForInStep.yield ((name,a)::cs)) else pure (ForInStep.yield cs):Sem (List (Str×Addr)))=pure (qx4 env.cells names acc):=by
 intro names
 induction names with
 |nil=>intro acc _; rfl
 |cons x r ih=>
  intro acc h
  obtain⟨n,k⟩:=x
  rw[List.forIn_cons]
  have hr:=fun acc=>ih acc fun y hy=>h y (Qqy _ hy)
  by_cases hk:k=.free
  ·subst hk
   obtain⟨c,hc⟩:=h (n,.free) Qqe rfl
   simp only[beq_self_eq_true,if_true,cellOf,hc]
   show(do let r_1 ← (do let a ← (pure c:Sem Addr); pure (ForInStep.yield ((n,a)::acc))); match r_1 with|.done b=>pure b|.yield b=>_)=_
   simp only[pure_bind]
   refine(hr ((n,c)::acc)).trans ?_
   have hc':env.cells.lookup n=some c:=hc
   simp[qx4,hc']
  ·have hb:(k==NameKind.free)=false:=by simpa using hk
   simp only[hb,Qq0,if_false,pure_bind]
   refine(hr acc).trans ?_
   simp[qx4,hb]
theorem qw5{scope:Scope}{env:Env}(h:∀ x∈scope.names,x.2=.free→∃ c,env.cells.lookup x.1=some c):closureFor scope env=pure (qx4 env.cells scope.names []):=by
 unfold closureFor
 have:=qf4 (env:=env) scope.names [] h
 simp only[this]
 rfl
theorem qw6{cells:List (Str×Addr)}{x:Str}{c:Addr}(hc:cells.lookup x=some c):∀ (names:List (Str×NameKind)) (acc:List (Str×Addr)),((x,NameKind.free)∈names∨acc.lookup x=some c)→(qx4 cells names acc).lookup x=some c
 |[],acc,h=>by
  rcases h with h|h
  ·cases h
  ·exact h
 |(n,k)::r,acc,h=>by
  unfold qx4
  refine qw6 hc r _ ?_
  by_cases hk:k=.free
  ·subst hk
   simp only[beq_self_eq_true,if_true]
   by_cases hn:n=x
   ·subst hn
    rw[hc]
    exact .inr (by simp)
   ·rcases h with h|h
    ·rcases Qqw.mp h with e|e
     ·cases e; exact absurd rfl hn
     ·exact .inl e
    ·refine .inr ?_
     split
     ·have:(x==n)=false:=by simpa using Ne.symm hn
      rw[Qzj,this]; exact h
     ·exact h
  ·have hb:(k==NameKind.free)=false:=by simpa using hk
   rw[hb,if_neg Qqg]
   rcases h with h|h
   ·rcases Qqw.mp h with e|e
    ·cases e; exact absurd rfl hk
    ·exact .inl e
   ·exact .inr h
theorem qqb{cells:List (Str×Addr)}:∀ (names:List (Str×NameKind)) (acc:List (Str×Addr)),(∀ x c,acc.lookup x=some c→cells.lookup x=some c)→∀ x c,(qx4 cells names acc).lookup x=some c→cells.lookup x=some c
 |[],acc,h,x,c,e=>h x c e
 |(n,k)::r,acc,h,x,c,e=>by
  unfold qx4 at e
  refine qqb r _ ?_ x c e
  intro y d q
  by_cases hk:(k==NameKind.free)=true
  ·rw[if_pos hk]at q
   split at q
   ·rename_i a ha
    by_cases hy:(y==n)=true
    ·rw[Qzj,hy]at q
     rw[eq_of_beq hy,ha]; exact q
    ·have:(y==n)=false:=by simpa using hy
     rw[Qzj,this]at q
     exact h y d q
   ·exact h y d q
  ·rw[if_neg hk]at q
   exact h y d q
theorem qqm(env:Env):∀ (names:List (Str×NameKind)) (x:Str),(names.map fun(n,k)=>if (k==NameKind.free&&env.scope.kind==.function&&env.kindOf n==some .cell) then(n,NameKind.cell) else(n,k)).lookup x =
  (names.lookup x).map fun k=>if (k==NameKind.free&&env.scope.kind==.function&&env.kindOf x==some .cell) then NameKind.cell else k
 |[],x=>rfl
 |(n,k)::r,x=>by
  have ih:=qqm env r x
  rw[Qqt]
  by_cases hx:(x==n)=true
  ·have e:=eq_of_beq hx
   subst e
   dsimp only
   split
   ·rename_i hc
    rw[Qzj,hx,Qzj,hx]
    dsimp only[oMs]
    rw[if_pos hc]
   ·rename_i hc
    rw[Qzj,hx,Qzj,hx]
    dsimp only[oMs]
    rw[if_neg hc]
  ·have hx':(x==n)=false:=by simpa using hx
   dsimp only
   split
   ·rw[Qzj,hx',Qzj,hx']; exact ih
   ·rw[Qzj,hx',Qzj,hx']; exact ih
section
variable {prog:Program}{w:World}{A:Around}{R:Result→Shared→Prop}{s:Shared}
abbrev NoX:Value→Shared→Prop:=fun _ _=>False
theorem qav{elt target iter:Expr}{ifs:List Expr}{scope:Scope}{pos:Pos}{it acc:Value}{env:Env}{Ex:Value→Shared→Prop}(hEx:∀ e s',Ex e s'→notedBy (model prog w) A env (fun e s'=>R (.error e) s') e s')(I:Nat→Shared→Prop)
  (turn:∀ n s,I n s→wpAny (model prog w) A (pyNext it) (fun r s₁=>match r with
   |none=>R (.ok .next) s₁
   |some v=>wpAny (model prog w) A (letOwnedTupleGo target it v) (fun _ s₀=>wpAny (model prog w) A (assign target env v) (fun _ s₂=>
     wpAny (model prog w) A (forIn ifs true fun c r=>if r=true then do let ok ← isTrue c env (eval c env); pure (ForInStep.yield ok) else pure (ForInStep.yield r)) (fun ok s₃=>
      if ok=true then wpAny (model prog w) A (eval elt env) (fun x s₄=>wpAny (model prog w) A (call (.builtin "list.append") [acc,x]) (fun _ s₅=>∃ m,m<n∧I m s₅) Ex s₄) Ex s₃
      else ∃ m,m<n∧I m s₃) Ex s₂) Ex s₀) Ex s₁) Ex s)
  (n:Nat) (h:I n s):codeAny (model prog w) A (.compLoop (.ListComp elt [⟨target,iter,ifs,0⟩] scope pos) 0 it acc env) R s:=by
 refine codeAny_loop rfl I (fun n s hI=>?_) n h
 show wpAny _ A ((compTurn (.ListComp elt [⟨target,iter,ifs,0⟩] scope pos) 0 it acc env).onRaise (fun x=>do noteFrame x env; theTreesLotGoes x)) _ _ s
 refine wpAny_noted (wpAny_mono ?_ (fun _ _ q=>q) hEx)
 rw[compTurn_list]
 refine wpAny_bind (wpAny_standAt (wpAny_bind (wpAny_mono (turn n s hI) (fun r s₁ h₁=>?_) fun _ _ z=>z)))
 cases r with
 |none=>exact wpAny_pure h₁
 |some v=>
  refine wpAny_bind (wpAny_mono h₁ (fun _ s₀ h₀=>?_) fun _ _ z=>z)
  refine wpAny_bind (wpAny_mono h₀ (fun _ s₂ h₂=>wpAny_bind (wpAny_mono h₂ (fun ok s₃ h₃=>?_) fun _ _ z=>z)) fun _ _ z=>z)
  cases ok with
  |false=>exact wpAny_pure ⟨rfl,h₃⟩
  |true=>
   exact wpAny_bind (wpAny_bind (wpAny_mono h₃ (fun x s₄ h₄=>wpAny_bind (wpAny_mono h₄ (fun _ s₅ h₅=>wpAny_pure (wpAny_pure ⟨rfl,h₅⟩)) fun _ _ z=>z)) fun _ _ z=>z))
end
theorem HOk.track{P:Program}{w:World}{H:Hp}{h:Heap}{a:Addr}{o:HO}(x:HOk P w H h)(hn:H a=none)(new:ObjOk P w (upd H a o) h a o):HOk P w (upd H a o) h:=fun b u e=>by
 by_cases hb:b=a
 ·subst hb; rw[qzn]at e; cases e; exact new
 ·rw[qzy hb]at e
  exact(x b u e).stay (fun c v _ q=>q) (fun c q=>by rw[qzy (qzi q hn)]; exact q) fun c xs q=>by rw[qzy (qzi q hn)]; exact q
theorem Inv.track{X:Cx}{pins:List (Addr×Obj)}{σ:L2.St}{H:Hp}{s:Shared}{a:Addr}{o:HO}(I:Inv X pins σ H s)(hf:FpOk X pins H a)(new:ObjOk X.prog X.w (upd H a o) s.heap a o):Inv X pins σ (upd H a o) s:=by
 obtain⟨f0,f1,f2,f3,f4,f5⟩:=hf
 refine I.step (h':=s.heap) (g':=s.gens) (t':=s.toks) (d':=s.drawn) (ch:=[a]) (fun b hb=>?_) (fun b o _ _ _ e _=>e) (fun b o _ _ _ e _=>⟨o.slots,e⟩) (fun b o hb e n=>?_) (fun b o _ e=>⟨o,e⟩)
  (fun b xs e=>by rw[qzy (qzi e f0)]; exact e) (fun b o u e=>by rw[qzy (qzi e f0)]; exact e) (fun b ps e=>⟨#[],by rw[qzy (qzi e f0),e]; simp⟩) (fun m h=>h) (HOk.track I.hok f0 new) I.bare
 ·have e:b=a:=by simpa using hb
  subst e
  exact⟨f3,f1,f4,f5⟩
 ·rw[qzy (by simpa using hb)]; exact n
noncomputable def qzd(X:Cx)(N:List Str)(scope:Scope)(C:Addr)(fp:List Addr)(s:Shared)(H:Hp):Cx:=
 { X with N:=N,s₀:=s,H₀:=H,env:=compEnvC scope (qx4 X.env.cells scope.names []) C X.env,outer:=X.stack,ex:=fp,fn:=fun _=>false,pn:=[],xe:=fun _ _=>False }
noncomputable def qx8(src:List (Option Nat))(σ:L2.St):L2.St:=src.map fun o=>o.bind fun i=>(σ[i]?).bind id
structure CompScope (X:Cx) (N:List Str) (src:List (Option Nat)) (scope:Scope):Prop where
 kind:scope.kind=.function
 cell:∀ y∈scope.names,y.2≠.cell
 free:∀ y∈scope.names,y.2=.free→X.env.kindOf y.1=some .cell∨X.env.kindOf y.1=some .free
 loc:∀ y∈scope.names,y.2=.local→scope.names.lookup y.1=some .local
 len:src.length=N.length
 src:∀ (j i:Nat),src[j]?=some (some i)→∃ x,N[j]?=some x∧X.N[i]?=some x∧scope.names.lookup x=some .free
section
variable {X:Cx}{pins:List (Addr×Obj)}{σ:L2.St}{H:Hp}{s:Shared}
theorem mem_lookup{names:List (Str×NameKind)}{x:Str}{k:NameKind}(h:names.lookup x=some k):(x,k)∈names:=PySem.mem_of_lookup h
theorem qvl{N:List Str}{src:List (Option Nat)}{scope:Scope}(S:CompScope X N src scope)(I:Inv X pins σ H s):closureFor scope X.env=pure (qx4 X.env.cells scope.names []):=
 qw5 fun x hx hk=>I.ok.has x.1 (S.free x hx hk)
theorem qmm{N:List Str}{src:List (Option Nat)}{scope:Scope}{C:Addr}{fp:List Addr}(S:CompScope X N src scope)(I:Inv X pins σ H s)(hC:s.heap.objs.size≤C)(hfp:∀ b∈fp,FpOk X pins H b)(hlt:∀ b∈fp,b<s.heap.objs.size):(qzd X N scope C fp s H).Ok where
 mod:=I.ok.mod
 kind:=S.kind
 glob:=I.ok.glob
 blt:=I.ok.blt
 above:=hC
 inj:=fun x y c h1 h2=>I.ok.inj x y c (qqb _ [] (fun _ _ z=>nomatch z) x c h1) (qqb _ [] (fun _ _ z=>nomatch z) y c h2)
 has:=fun x h=>by
  have e:(qzd X N scope C fp s H).env.kindOf x=(scope.names.lookup x).map fun k=>if (k==NameKind.free&&X.env.scope.kind==.function&&X.env.kindOf x==some .cell) then NameKind.cell else k:=qqm X.env scope.names x
  rw[e]at h
  cases q:scope.names.lookup x with
  |none=>rw[q]at h; rcases h with h|h<;>cases h
  |some k=>
   have hk:k=.free:=by
    rw[q]at h
    simp only[oMs,Option.some.injEq]at h
    by_cases hc:(k==NameKind.free&&X.env.scope.kind==.function&&X.env.kindOf x==some .cell)=true
    ·simp only[Qqk]at hc
     exact eq_of_beq hc.1.1
    ·rw[if_neg hc]at h
     rcases h with h|h
     ·subst h; exact absurd rfl (S.cell _ (mem_lookup q))
     ·exact h
   subst hk
   have hm:=mem_lookup q
   obtain⟨c,hc⟩:=I.ok.has x (S.free _ hm rfl)
   exact⟨c,qw6 hc _ _ (.inl hm)⟩
 cab:=fun x c h=>by cases h
 hd:=I.ok.hd
 frames:=I.ok.frames
 stk:=.inl rfl
 exf:=fun b hb=>⟨Qq4 (Qql (hlt b hb) hC),fun x c e=>(hfp b hb).2.2.2.2.1 x c (qqb _ [] (fun _ _ z=>nomatch z) x c e)⟩
 bs:=I.bs
 bsz:=Qq9 I.ok.bsz I.sz
 noex:=fun b o e hb=>by
  rcases (hfp b hb).2.2.2.1 with z|z
  ·exact I.ok.noex b o e z
  ·exact absurd (Qql (Qqf e) (Qq9 I.ok.bsz z)) (Qzd _)
 exfs:=fun b hb hf=>by
  have f:=hfp b hb
  rcases Qqw.mp (I.stkSub b hf) with z|z
  ·exact f.2.1 z
  ·exact f.2.2.1 z
 funs:=I.stack
 frf:=I.stkFree
theorem qdf{N:List Str}{src:List (Option Nat)}{scope:Scope}{C:Addr}{fp:List Addr}{h':Heap}{tk:Nat}{m':Str→Option Value}(S:CompScope X N src scope)(I:Inv X pins σ H s)(hC:s.heap.objs.size≤C)(hfp:∀ b∈fp,FpOk X pins H b)(hlt:∀ b∈fp,b<s.heap.objs.size)
  (kp:∀ b o,s.heap.get? b=some o→h'.get? b=some o) (ns:h'.Ns C m'):Inv (qzd X N scope C fp s H) [] (qx8 src σ) H { s with heap:=h',toks:=tk }:=by
 have O:=qmm S I hC hfp hlt
 refine⟨O,rfl,I.bare,Un.kept kp,⟨m',ns,fun j x v hN hσ hv=>?_⟩,fun x c e=>?_,I.hok.fresh hC,fun x c e=>?_,fun p hp=>absurd (show p∈([]:List (Addr×Obj)) from hp) (by simp),I.hok.kept kp,?_⟩
 ·unfold qx8 at hσ
  rw[Qqn]at hσ
  cases q:src[j]? with
  |none=>rw[q]at hσ; cases hσ
  |some o=>
   rw[q]at hσ
   cases o with
   |none=>cases hσ
   |some i=>
    obtain⟨x',e1,e2,e3⟩:=S.src j i q
    have hN:N[j]?=some x:=hN
    rw[hN]at e1
    cases e1
    have hi:σ[i]?=some (some v):=by
     cases z:σ[i]? with
     |none=>simp[z]at hσ
     |some w=>
      cases w with
      |none=>simp[z]at hσ
      |some w=>simpa[z] using hσ
    obtain⟨m0,hn0,hl0⟩:=I.loc
    have hk:=S.free _ (mem_lookup e3) rfl
    have vis:Vis X.env.scope x:=by
     rcases hk with z|z
     ·exact .inr (.inl z)
     ·exact .inr (.inr z)
    obtain⟨u,ru,lk⟩:=hl0 i x v e2 hi vis
    refine⟨u,ru,?_⟩
    rcases lk with⟨z,_⟩|⟨_,c,hc,hcell⟩
    ·rcases hk with y|y
     ·rw[y]at z; cases z
     ·rw[y]at z; cases z
    ·refine .inr ⟨?_,c,qw6 hc _ _ (.inl (mem_lookup e3)),?_⟩
     ·have e:(qzd X N scope C fp s H).env.kindOf x=(scope.names.lookup x).map fun k=>if (k==NameKind.free&&X.env.scope.kind==.function&&X.env.kindOf x==some .cell) then NameKind.cell else k:=qqm X.env scope.names x
      rw[e,e3]
      simp only[oMs,Option.some.injEq]
      by_cases hc:(NameKind.free==NameKind.free&&X.env.scope.kind==.function&&X.env.kindOf x==some .cell)=true
      ·rw[if_pos hc]; exact .inl rfl
      ·rw[if_neg hc]; exact .inr rfl
     ·obtain⟨o,ho,hd⟩:=hcell
      exact⟨o,kp c o ho,hd⟩
 ·have e':=qqb _ [] (fun _ _ z=>nomatch z) x c e
  obtain⟨v,o,ho,hd⟩:=I.cell x c e'
  exact⟨v,o,kp c o ho,hd⟩
 ·exact I.freeC x c (qqb _ [] (fun _ _ z=>nomatch z) x c e)
 ·unfold qx8
  rw[Qqj]
  exact S.len
end
def qdp(X:Cx)(ifs:List Expr)(tt:TT):Prop:=∀ (pins:List (Addr×Obj)) (s:Shared) (σ:L2.St) (H:Hp) (Q:Bool→Hp→Prop),Inv X pins σ H s→tt σ H Q→
 wpAny (model X.prog X.w) X.A (forIn ifs true fun c r=>if r=true then do let ok ← isTrue c X.env (eval c X.env); pure (ForInStep.yield ok) else pure (ForInStep.yield r)) (TP X pins σ Q) X.xe s
theorem qwg{X:Cx}:qdp X [] (fun _ H Q=>Q true H):=fun pins s σ H Q I h=>by
 show wpAny _ _ (pure true) _ _ _
 exact wpAny_pure ⟨H,I,h⟩
theorem qb3{X:Cx}{c:Expr}{tc:TT}(hc:PT X c tc):qdp X [c] tc:=fun pins s σ H Q I h=>by
 rw[List.forIn_cons]
 simp only[if_true]
 refine wpAny_bind (wpAny_bind (thn (hc pins s σ H Q I h) fun b s1 q=>wpAny_pure ?_))
 show wpAny _ _ (pure b) _ _ _
 exact wpAny_pure q
theorem qkb{X:Cx}{pins:List (Addr×Obj)}{σ:L2.St}{H:Hp}{s:Shared}{elt tg iter:Expr}{ifs:List Expr}{scope:Scope}{pos:Pos}{it:Addr}{fp:List Addr}{tn:Nat→Heap→Prop}{J:It}{N:List Str}{src:List (Option Nat)}
  {g:TG}{tt:TT}{te:TE}{E:Value→Shared→Prop}{Fin:List V→Hp→Prop}{RR:Value→Addr→Result→Shared→Prop}{Ex:Addr→Addr→Value→Shared→Prop}(hc:X.calm=true) (I:Inv X pins σ H s) (T:Turn X.prog X.w X.K tg J fp it tn) (st0:tn 0 s.heap) (hfp:∀ b∈fp,FpOk X pins H b) (S:CompScope X N src scope)
  (hg:∀ C,PG (qzd X N scope C fp s H) tg g) (ht:∀ C,qdp (qzd X N scope C fp s H) ifs tt) (he:∀ D C,PE ((qzd X N scope C fp s H).wish (Ex D C)) elt te)
  (hEx:∀ D C,s.heap.objs.size≤C→∀ e s',Ex D C e s'→notedBy (model X.prog X.w) X.A (compEnvC scope (qx4 X.env.cells scope.names []) C X.env) (fun e s'=>RR (.ref D) C (.error e) s') e s')
  (W:Nat→Nat→List V→L2.St→Hp→Prop) (w0:∃ k,W 0 k [] (qx8 src σ) H)
  (step:∀ i k acc σ H,W i k acc σ H→(J.stop i H∧acc.length≤sizeLine∧Fin acc H)∨(J.go i H∧acc.length<sizeLine∧∀ x H',J.yld i H x H'→g x σ H' fun σ2 H2=>tt σ2 H2 fun b H3=>
   if b=true then te σ2 H3 fun v H4=>∃ k',k'<k∧W (i+1) k' (acc++[v]) σ2 H4 else ∃ k',k'<k∧W (i+1) k' acc σ2 H3))
  (hRR:∀ D C s' H' acc,Fin acc H'→H' D=none→Inv X pins σ (upd H' D (.lst acc)) s'→FpOk X pins (upd H' D (.lst acc)) C→(∃ m,s'.heap.Ns C m)→RR (.ref D) C (.ok .next) s') :
  wpAny (model X.prog X.w) X.A (newList []) (fun acc s₃=>wpAny (model X.prog X.w) X.A (newFunctionEnv scope X.env.globals (qx4 X.env.cells scope.names []) [] X.env.qual none .none (some X.env)) (fun cenv s₄=>
   codeAny (model X.prog X.w) X.A (.compStart (.ListComp elt [⟨tg,iter,ifs,0⟩] scope pos) 0 (.ref it) acc { cenv with scope:=relabel scope X.env }) (RR acc cenv.locals) s₄) E s₃) E s:=by
 have hlt:∀ b∈fp,b<s.heap.objs.size:=fun b hb=>by obtain⟨o,e,_⟩:=T.obj 0 _ st0 b hb; exact Qqf e
 refine wpAny_newObj_type (wpAny_newFunctionEnv S.cell (by intro y hy; simp at hy) (fun h₁ hns₁ hsb₁=>?_) S.kind)
 dsimp only at hns₁ hsb₁ ⊢
 generalize hH2:s.heap.push { cls:=.type "list",dict:=none,data:=.seq ([]:List Value).toArray }=H2 at hns₁ hsb₁ ⊢
 have hC:H2.objs.size=s.heap.objs.size+1:=by rw[← hH2,Qx6]
 have hDC:s.heap.objs.size≠H2.objs.size:=by rw[hC]; exact Qq4 (Qzo _)
 have hCle:s.heap.objs.size≤H2.objs.size:=by rw[hC]; exact Qx5 _
 have old:∀ b o,s.heap.get? b=some o→h₁.get? b=some o:=fun b o e=>hsb₁.extBut b o (by rw[hC]; exact Qq4 (Nat.lt_succ_of_lt (Qqf e))) (Qqb _ (hH2▸Qqb _ e))
 have hacc:h₁.get? s.heap.objs.size=some { cls:=.type "list",data:=.seq ([]:List Value).toArray }:=hsb₁.extBut _ _ hDC (Qqb _ (hH2▸Qqr _ rfl))
 generalize hDd:s.heap.objs.size=Dd at hDC hCle hacc
 generalize hCc:H2.objs.size=Cc at hDC hCle hns₁ hsb₁ hC ⊢
 have hDs:s.heap.objs.size≤Dd:=Nat.le_of_eq hDd
 have hCs:s.heap.objs.size≤Cc:=by rw[hDd]; exact hCle
 have fD:H Dd=none:=I.hok.fresh hDs
 have I1:Inv (qzd X N scope Cc fp s H) [] (qx8 src σ) H { s with heap:=h₁,toks:=s.toks+([]:List (Str×Value)).length }:=qdf S I hCs hfp hlt old hns₁
 have nfp:∀ b∈fp,b≠Dd:=fun b hb=>by rw[← hDd]; exact Qq4 (hlt b hb)
 have cellD:∀ x c,(qzd X N scope Cc fp s H).env.cells.lookup x=some c→c≠Dd:=fun x c e z=>by
  have e':=qqb _ [] (fun _ _ z=>nomatch z) x c e
  obtain⟨v,o,ho,_⟩:=I.cell x c e'
  rw[z,← hDd]at ho
  exact Qzd _ (Qqf ho)
 have fsD:Dd ∉ (qzd X N scope Cc fp s H).fs:=fun z=>by
  obtain⟨_,o,ho,_⟩:=I1.ok.funs.mem z
  have ho:s.heap.get? Dd=some o:=ho
  rw[← hDd]at ho
  exact Qzd _ (Qqf ho)
 have stat:∀ {pl:List (Addr×Obj)}{H':Hp},(∀ p∈pl,p.1=Dd)→(∀ b∈fp,H' b=none)→∀ b∈fp,FpOk (qzd X N scope Cc fp s H) pl H' b:=fun {pl H'} hpl hn b hb=>
  ⟨hn b hb,(I1.ok.exf b hb).1,I1.ok.exfs b hb,.inl hb,(I1.ok.exf b hb).2,fun p hp=>by
   have hp':p∈pl:=hp
   rw[hpl p hp']; exact(nfp b hb).symm⟩
 obtain⟨k0,w0⟩:=w0
 have loop:∀ s₃:Shared,s₃={ s with heap:=h₁,toks:=s.toks+([]:List (Str×Value)).length }→
   codeAny (model X.prog X.w) X.A (.compLoop (.ListComp elt [⟨tg,iter,ifs,0⟩] scope pos) 0 (.ref it) (.ref Dd) (compEnvC scope (qx4 X.env.cells scope.names []) Cc X.env)) (RR (.ref Dd) Cc) s₃:=by
  rintro s₃ rfl
  refine qav (hEx Dd Cc hCs) (fun k s'=>∃ i acc its nn σ' H',Inv (qzd X N scope Cc fp s H) [] σ' H' s'∧tn i s'.heap∧(∀ b∈fp,H' b=none)∧W i k acc σ' H'∧Vals acc its∧s'.heap.get? Dd=some { cls:=.type "list",data:=.seq its.toArray nn }∧H' Dd=none) ?_ k0
   ⟨0,[],[],0,qx8 src σ,H,I1,T.keep _ _ _ st0 fun b _ o e=>old b o e,fun b hb=>(hfp b hb).1,w0,.nil,hacc,fD⟩
  rintro k s3 ⟨i,acc,its,nn,σ3,H3,I3,t3,fr3,w3,rv,ho3,nD3⟩
  have I3':Inv (qzd X N scope Cc fp s H) [(Dd,{ cls:=.type "list",data:=.seq its.toArray nn })] σ3 H3 s3:=I3.pins_of fun p hp=>by
   have e:p=(Dd,{ cls:=.type "list",data:=.seq its.toArray nn }):=by simpa using hp
   subst e
   exact⟨ho3,nD3,hDC,fsD,fun v z=>by
    have z':Data.seq its.toArray nn=Data.cell v:=z
    cases z'⟩
  rcases step i k acc σ3 H3 w3 with⟨stop,hz,fin⟩|⟨go,hz,next⟩
  ·refine thn (T.done (qzd X N scope Cc fp s H) rfl rfl rfl hc i _ s3 σ3 H3 (Ex Dd Cc) I3' (stat (fun p hp=>by rw[Qzk.mp hp]) fr3) t3 stop) fun r s4 ⟨hr,I4⟩=>?_
   subst hr
   have p4:=I4.pin (Dd,{ cls:=.type "list",data:=.seq its.toArray nn }) (Qqs _ (by simp))
   have I5:Inv X pins σ H3 s4:=I.call' I4.os I4.base I4.hok I4.bare fun b hb=>⟨(hfp b hb).2.2.2.1,(hfp b hb).2.1,(hfp b hb).2.2.2.2.1,(hfp b hb).2.2.2.2.2⟩
   have fpD:FpOk X pins H3 Dd:=I.fpOk hDs nD3
   refine hRR Dd Cc s4 H3 acc fin nD3 (Inv.track I5 fpD ⟨hz,its,nn,rv,p4.1⟩) (I.fpOk hCs (by rw[qzy (Ne.symm hDC)]; exact I4.free)) ?_
   obtain⟨m4,n4,_⟩:=I4.loc
   exact⟨m4,n4⟩
  ·refine thn (T.item (qzd X N scope Cc fp s H) rfl rfl rfl hc i _ s3 σ3 H3 (Ex Dd Cc) I3' (stat (fun p hp=>by rw[Qzk.mp hp]) fr3) t3 go) fun r s4 ⟨u,hr,h4⟩=>?_
   subst hr
   refine thn h4 fun _ s5 ⟨x,H5,I5,r5,y5,t5,fr5⟩=>?_
   have I5':=I5.pinned (stat (fun p hp=>by rw[Qzk.mp hp]) fr5) (T.obj _ _ t5)
   refine wpAny_mono (hg Cc _ s5 σ3 H5 x u _ I5' r5 (next x H5 y5)) (fun _ s6 ⟨σ6,H6,I6,q6⟩=>?_) fun _ _ z=>z.elim
   refine wpAny_mono (ht Cc _ s6 σ6 H6 _ I6 q6) (fun b s7 ⟨H7,I7,q7⟩=>?_) fun _ _ z=>z.elim
   have back:∀ {σ8:L2.St}{H8:Hp}{s8:Shared},Inv (qzd X N scope Cc fp s H) ([(Dd,{ cls:=.type "list",data:=.seq its.toArray nn })]++qyl fp s5.heap) σ8 H8 s8→
     tn (i+1) s8.heap∧(∀ b∈fp,H8 b=none)∧s8.heap.get? Dd=some { cls:=.type "list",data:=.seq its.toArray nn }∧H8 Dd=none:=fun {σ8 H8 s8} I8=>by
    refine⟨T.keep _ _ _ t5 fun b hb o e=>(I8.pin (b,o) (Qqs _ (Qqs _ (qxn hb e)))).1,fun b hb=>?_,?_,?_⟩
    ·obtain⟨o,e,d⟩:=T.obj _ _ t5 b hb
     exact(I8.pin (b,o) (Qqs _ (Qqs _ (qxn hb e)))).2.1
    ·exact(I8.pin (Dd,_) (Qqs _ (Qz2 _ (by simp)))).1
    ·exact(I8.pin (Dd,{ cls:=.type "list",data:=.seq its.toArray nn }) (Qqs _ (Qz2 _ (by simp)))).2.1
   cases b with
   |false=>
    simp only[Qq0,if_false]at q7 ⊢
    obtain⟨k',hk,w7⟩:=q7
    obtain⟨b1,b2,b3,b4⟩:=back I7
    exact⟨k',hk,i+1,acc,its,nn,σ6,H7,I7.pins_of fun p hp=>absurd hp (by simp),b1,b2,w7,rv,b3,b4⟩
   |true=>
    simp only[if_true]at q7 ⊢
    refine thn (he Dd Cc _ s7 σ6 H7 _ (I7.wish _) q7) fun y s8 ⟨v8,H8,I8,r8,k',hk,w8⟩=>?_
    have I8:=I8.unwish
    obtain⟨b1,b2,b3,b4⟩:=back I8
    have l1:=rv.length
    refine call_meets F.slot_list_append ⟨_,b3,rfl⟩ F.entry_list_append (F.args_list_append_2 _ _) (PySem.list_append Dd its.toArray nn y (by rw[Qqa]; omega)) ⟨b3,?_⟩
    have q:=PySem.IsL.update b3 (fun a=>a.push y)
    have hpush:its.toArray.push y=(its++[y]).toArray:=by simp
    rw[hpush]at q
    have I9:Inv (qzd X N scope Cc fp s H) [] σ6 H8 s8:=I8.pins_of fun p hp=>absurd hp (by simp)
    have I10:Inv (qzd X N scope Cc fp s H) [] σ6 H8 { s8 with heap:=s8.heap.update Dd (Obj.mapSeq (·.push y)) }:=
     I9.turned (it:=Dd) (t':=s8.toks) (fun b o hb e=>(Qzg s8.heap _ (Ne.symm hb)).trans e) b4 hDC (.inr hDs) cellD fun p hp=>absurd (show p∈([]:List (Addr×Obj)) from hp) (by simp)
    exact⟨k',hk,i+1,acc++[v8],its++[y],_,σ6,H8,I10,T.keep _ _ _ b1 fun b hb o e=>(Qzg s8.heap _ (Ne.symm (nfp b hb))).trans e,b2,w8,rv.append (.cons r8 .nil),q,b4⟩
 exact codeAny_compStart_list (loop _ rfl) (T.self _ 0 _ _ _ (T.keep _ _ _ st0 fun b _ o e=>old b o e) (loop _ rfl))
noncomputable def qgl(src:List (Option Nat))(wi:TI)(g:TG)(tt:TT)(te:TE):TE:=fun σ H Q=>wi σ H fun J H1=>∃ W:Nat→Nat→List V→L2.St→Hp→Prop,(∃ k,W 0 k [] (qx8 src σ) H1)∧
 ∀ i k acc σ' H',W i k acc σ' H'→(J.stop i H'∧acc.length≤sizeLine∧∀ p,H' p=none→Q (.ref p) (upd H' p (.lst acc)))∨(J.go i H'∧acc.length<sizeLine∧∀ x H2,J.yld i H' x H2→g x σ' H2 fun σ2 H3=>tt σ2 H3 fun b H4=>
  if b=true then te σ2 H4 fun v H5=>∃ k',k'<k∧W (i+1) k' (acc++[v]) σ2 H5 else ∃ k',k'<k∧W (i+1) k' acc σ2 H4)
theorem qen{X:Cx}{elt tg iter:Expr}{ifs:List Expr}{scope:Scope}{pos:Pos}{N:List Str}{src:List (Option Nat)}{wi:TI}{g:TG}{tt:TT}{te:TE}(hc:X.calm=true)(S:CompScope X N src scope)(hi:PI X tg iter wi)
  (hg:∀ C fp s H,PG (qzd X N scope C fp s H) tg g) (ht:∀ C fp s H,qdp (qzd X N scope C fp s H) ifs tt) (he:∀ C fp s H,PE (qzd X N scope C fp s H) elt te)
  (hs:∀ x,foldedSetIterable iter X.env x=pure x):PE X (.ListComp elt [⟨tg,iter,ifs,0⟩] scope pos) (qgl src wi g tt te):=by
 intro pins s σ H Q I h
 rw[eval_ListComp]
 refine wpAny_comprehension_free (use:=none) rfl hs (qvl S I) S.kind S.loc (thn (hi pins s σ H _ I h) fun v s1 h1=>thn h1 fun itv s2 h2=>?_)
 obtain⟨it,fp,tn,J,H2,e,I2,T,st2,f2,W,w0,turn⟩:=h2
 subst e
 refine qkb (Ex:=fun _ _=>NoX) hc I2 T st2 f2 S (fun C=>hg C fp s2 H2) (fun C=>ht C fp s2 H2) (fun _ C=>he C fp s2 H2) (fun _ _ _ _ _ z=>z.elim) W w0 turn ?_
 intro D C s' H' acc fin nD I' fC hm
 obtain⟨m',hn⟩:=hm
 refine⟨m',hn,fun h' sb=>⟨.ref D,upd H' D (.lst acc),?_,rfl,fin D nD⟩⟩
 obtain⟨c0,c1,c2,c3,c4,c5⟩:=fC
 exact I'.turned (t':=s'.toks) (fun b o hb e=>(sb.2 b hb).trans e) c0 c1 c3 c4 c5
end MS
end
section
namespace MS
open PySem PySem.Spec PyProof.Rows L2
inductive RK where
 |lst|tup
noncomputable def RK.It:RK→Heap→Addr→Addr→Nat→Prop
 |.lst,h,it,a,i=>h.IsListIter it a i
 |.tup,h,it,a,i=>h.IsTupleIter it a i
noncomputable def RK.Sq:RK→Heap→Addr→Array Value→Prop
 |.lst,h,a,xs=>h.IsList a xs
 |.tup,h,a,xs=>h.IsTuple a xs
theorem RK.It.on{k:RK}{h h':Heap}{it a:Addr}{i:Nat}(x:k.It h it a i)(e:∀ o,h.get? it=some o→h'.get? it=some o):k.It h' it a i:=by
 cases k with
 |lst=>exact Heap.IsListIter.at x e
 |tup=>obtain⟨o,ho,r⟩:=x; exact⟨o,e o ho,r⟩
theorem RK.Sq.on{k:RK}{h h':Heap}{a:Addr}{xs:Array Value}(x:k.Sq h a xs)(e:∀ o,h.get? a=some o→h'.get? a=some o):k.Sq h' a xs:=by
 cases k with
 |lst=>exact Heap.IsList.at x e
 |tup=>obtain⟨o,ho,r⟩:=x; exact⟨o,e o ho,r⟩
theorem RK.It.obj{k:RK}{h:Heap}{it a:Addr}{i:Nat}(x:k.It h it a i):∃ o,h.get? it=some o∧∀ v,o.data≠.cell v:=by
 cases k with
 |lst=>obtain⟨o,ho,_,d⟩:=x; exact⟨o,ho,fun v z=>by rw[d]at z; cases z⟩
 |tup=>obtain⟨o,ho,_,d⟩:=x; exact⟨o,ho,fun v z=>by rw[d]at z; cases z⟩
section
variable {prog:Program}{w:World}{A:Around}{E:Value→Shared→Prop}{s:Shared}
end
section
variable {prog:Program}{w:World}{A:Around}{E:Value→Shared→Prop}{s:Shared}
end
noncomputable def RK.itO(k:RK)(a:Addr):Obj:=match k with
 |.lst=>{ cls:=.type "list_iterator",data:=.fields #[.ref a,.int 0 0] }
 |.tup=>{ cls:=.type "tuple_iterator",data:=.fields #[.ref a,.int 0 0] }
def RK.sq(k:RK)(K:Qqq)(H:Hp)(a:Addr)(xs:List V):Prop:=match k with
 |.lst=>SqL K H a xs
 |.tup=>SqT K H a xs
section
variable {X:Cx}{pins:List (Addr×Obj)}{σ:L2.St}{H:Hp}{s:Shared}
end
end MS
end
section
namespace MS
open PySem PySem.Spec PyProof.Rows L2
section
variable {X:Cx}
theorem qha:MtM X "str.find" (fun x xs H Q=>∃ m st a ds d st',Rel X.K m st H∧MS.IsD X.K m H a x∧IsDs X.K m H ds xs∧M.mFind st a ds=some (d,st')∧Post X.K m H d st' Q):=by
 intro pins s σ H x xs v us Q I rx rs h
 obtain⟨m,st,a,ds,d,st',R0,i1,i2,e,q⟩:=h
 unfold M.mFind at e
 split at e
 ·rename_i z y
  obtain⟨c,e1,e2⟩:=mapD e
  cases e2
  have hy:=qku e1
  subst hy
  have hx:=i1.str
  subst hx
  obtain⟨y',rfl,iy⟩:=i2.one
  have hy':=iy.str
  subst hy'
  obtain⟨t,rfl⟩:=rx
  cases rs with
  |cons r rr=>
   cases rr
   obtain⟨u,rfl⟩:=r
   refine SC.find ⟨.int _,H,I.tok _,⟨_,rfl⟩,?_⟩
   rw[qhi]
   exact q.here R0 (mkInt _)
 ·cases e
theorem qd7{K:Qqq}{m:List Addr}{H:Hp}:∀ {ds:List M.D}{xs:List V}{us:List Value}{ts:List Str},M.asStrs ds=some ts→IsDs K m H ds xs→Vals xs us→∃ l:List (Str×Tok),us=strValues l∧l.map (·.1)=ts
 |[],xs,us,ts,e,ix,r=>by
  cases e
  rw[ix.nil]at r
  cases r
  exact⟨[],rfl,rfl⟩
 |.str z::ds,xs,us,ts,e,ix,r=>by
  have e:(M.asStrs ds).map (z::·)=some ts:=e
  obtain⟨ts',e1,e2⟩:=mapD e
  subst e2
  obtain⟨x,xr,rfl,i1,i2⟩:=ix.cons
  have hx:=i1.str
  subst hx
  cases r with
  |cons r1 r2=>
   obtain⟨t,rfl⟩:=r1
   obtain⟨l,rfl,rfl⟩:=qd7 e1 i2 r2
   exact⟨(z,t)::l,rfl,rfl⟩
 |.non::ds,xs,us,ts,e,ix,r=>by cases e
 |.bl b::ds,xs,us,ts,e,ix,r=>by cases e
 |.int b::ds,xs,us,ts,e,ix,r=>by cases e
 |.tup b::ds,xs,us,ts,e,ix,r=>by cases e
 |.loc b::ds,xs,us,ts,e,ix,r=>by cases e
 |.lst b::ds,xs,us,ts,e,ix,r=>by cases e
theorem qhy:MtM X "str.join" (fun x xs H Q=>∃ m st a ds d st',Rel X.K m st H∧MS.IsD X.K m H a x∧IsDs X.K m H ds xs∧M.mJoin st a ds=some (d,st')∧Post X.K m H d st' Q):=by
 intro pins s σ H x xs v us Q I rx rs h
 obtain⟨m,st,a,ds,d,st',R0,i1,i2,e,q⟩:=h
 unfold M.mJoin at e
 split at e
 ·rename_i z l
  obtain⟨es,e1,e⟩:=qzf e
  obtain⟨ts,e2,e⟩:=qzf e
  split at e
  ·rename_i hl
   cases e
   have hx:=i1.str
   subst hx
   obtain⟨y,rfl,iy⟩:=i2.one
   obtain⟨p,ys,_,rfl,hq,ix⟩:=R0.seq e1 iy
   obtain⟨t,rfl⟩:=rx
   cases rs with
   |cons r rr=>
    cases rr
    cases r
    obtain⟨its,rv,pl,hz⟩:=I.list hq
    obtain⟨w,rfl,rfl⟩:=qd7 e2 ix rv
    have hok:JoinOk z (w.map (·.1))=true:=by
     unfold JoinOk
     rw[PySem.StrLaws.joinTotal,Qzc]
     unfold Builtin.Str.tooLong
     rw[decide_eq_false_iff_not]
     have l2:=qqq
     omega
    refine SC.join pl.isList rfl hok fun t' k=>⟨.str _,H,I.tok k,⟨t',rfl⟩,?_⟩
    have ej:Txt.join z (w.map (·.1))=Str.join z (w.map (·.1)):=PySem.StrLaws.glued_eq_join _ _
    rw[ej]
    exact q.here R0 (mkStr _)
  ·cases e
 ·cases e
theorem qgv:CallR X (.type "int") (rC X.K M.bInt):=by
 intro pins s σ H xs us Q I r h
 refine h.el fun m st ds d st' R0 ix e q=>?_
 unfold M.bInt at e
 split at e
 ·rename_i z
  split at e
  ·rename_i hz
   cases e
   obtain⟨x,rfl,i⟩:=ix.one
   have hx:=i.str
   subst hx
   cases r with
   |cons r rr=>
    cases rr
    obtain⟨t,rfl⟩:=r
    simp only[Qqk,decide_eq_true_eq]at hz
    obtain⟨⟨h1,h2⟩,h3⟩:=hz
    have hd:NumText.AllDigits z.cps.toList:=fun c hc=>by
     have:=Qq3.mp h2 c hc
     unfold M.isFig at this
     simpa using this
    have hne:z.cps.toList≠[]:=fun e=>by rw[e]at h1; cases h1
    exact PySem.W.KIN.call_text (PySem.intText_digits hd hne (by omega)) h3 ⟨.int _,H,I.tok _,⟨_,rfl⟩,q.here R0 (mkInt _)⟩
  ·cases e
 ·rename_i i
  cases e
  obtain⟨x,rfl,j⟩:=ix.one
  exact qaf pins s σ H _ us Q I r (.inl ⟨i,by rw[j.int],q.here R0 (mkInt _)⟩)
 ·rename_i k
  cases e
  obtain⟨x,rfl,j⟩:=ix.one
  exact qaf pins s σ H _ us Q I r (.inr ⟨k,by rw[j.bl],q.here R0 (mkInt _)⟩)
 ·cases e
theorem qf9:CallR X (.type "str") (rC X.K M.bStr):=by
 intro pins s σ H xs us Q I r h
 refine h.el fun m st ds d st' R0 ix e q=>?_
 unfold M.bStr at e
 split at e
 ·rename_i i
  split at e
  ·rename_i hi
   cases e
   obtain⟨x,rfl,j⟩:=ix.one
   exact qac pins s σ H _ us Q I r ⟨i,by rw[j.int],hi,q.here R0 (mkStr _)⟩
  ·cases e
 ·rename_i z
  cases e
  obtain⟨x,rfl,j⟩:=ix.one
  have hx:=j.str
  subst hx
  cases r with
  |cons r1 r2=>
   cases r2
   obtain⟨t,rfl⟩:=r1
   exact P.str_of_str ⟨.str z,H,I,⟨t,rfl⟩,q.here R0 (mkStr _)⟩
 ·cases e
end
end MS
end
section
namespace MS
open PySem PySem.Spec PyProof.Rows L2
inductive EntOk (prm:Params):List DictEntry→List Str→List Value→Prop
 |nil:EntOk prm [] [] []
 |cons {k:Str}{t:Tok}{u:Value}{es:List DictEntry}{ks:List Str}{us:List Value}(h:EntOk prm es ks us):EntOk prm (⟨PyData.keyHash prm k,.str k t,u⟩::es) (k::ks) (u::us)
structure FDict (prm:Params) (K:Qqq) (a:Addr) (ks:List Str) (ds:List M.D):Prop where
 ex:∃ (us:List Value) (vs:List V) (es:Array DictEntry) (ep:Nat),K.lookup a=some { cls:=.type "dict",data:=.dict es ep }∧EntOk prm es.toList ks us∧Vals vs us∧∀ m H,IsDs K m H ds vs
 nd:ks.Nodup
 ne:(a==sysModules)=false
noncomputable def kzip{α:Type}(ks:List Str)(us:List α):List (Key×α):=(ks.map fun k=>(Sum.inr k:Key)).zip us
theorem qcp{P:Program}{w:World}:∀ {es:List DictEntry}{ks:List Str}{us:List Value},EntOk w.params es ks us→(∀ e∈es,∃ k,(mixKind P w).is k e.key=true∧e.hash=(mixKind P w).hash k)∧PySem.Pairs (mixKind P w) es (kzip ks us)∧(kzip ks us).map (·.1)=ks.map fun k=>(Sum.inr k:Key)
 |_,_,_,.nil=>⟨(fun e h=>nomatch h),.nil,rfl⟩
 |_,_,_,.cons (k:=k) (t:=t) (u:=u) h=>by
  obtain⟨h1,h2,h3⟩:=qcp (P:=P) h
  refine⟨fun e he=>?_,?_,?_⟩
  ·rcases Qqw.mp he with q|q
   ·subst q
    exact⟨.inr k,qjx P w k t,rfl⟩
   ·exact h1 e q
  ·exact .cons (qjx P w k t) rfl h2
  ·exact congrArg (List.cons (Sum.inr k:Key)) h3
theorem qfs{X:Cx}{pins:List (Addr×Obj)}{σ:L2.St}{H:Hp}{s:Shared}{a:Addr}{ks:List Str}{ds:List M.D}(I:Inv X pins σ H s)(h:FDict X.w.params X.K a ks ds):
  ∃ (us:List Value) (vs:List V),s.heap.DictOf (mixKind X.prog X.w) a (kzip ks us)∧Vals vs us∧(∀ m H,IsDs X.K m H ds vs)∧ks.length=us.length:=by
 obtain⟨us,vs,es,ep,e1,e2,e3,e4⟩:=h.ex
 obtain⟨h1,h2,h3⟩:=qcp (P:=X.prog) (w:=X.w) e2
 refine⟨us,vs,⟨_,es,ep,I.kIn a _ e1,⟨rfl,rfl,rfl⟩,rfl,fun e he=>h1 e (by simpa using he),h2,?_⟩,e3,e4,?_⟩
 ·rw[h3]
  exact(List.pairwise_map.mpr (h.nd.imp fun hne hq=>hne (Sum.inr.inj hq)))
 ·have:∀ {es:List DictEntry}{ks:List Str}{us:List Value},EntOk X.w.params es ks us→ks.length=us.length:=by
   intro es ks us q
   induction q with
   |nil=>rfl
   |cons _ ih=>rw[Qqv,Qqv,ih]
  exact this e2
theorem qmy{α:Type}(z:Str):∀ (ks:List Str) (us:List α),((kzip ks us).find? fun p=>decide (p.1=Sum.inr z)).map (·.2)=((ks.zip us).find? fun q=>q.1==z).map (·.2)
 |[],us=>rfl
 |k::ks,[]=>rfl
 |k::ks,u::us=>by
  have ih:=qmy z ks us
  show((((Sum.inr k:Key),u)::kzip ks us).find? fun p=>decide (p.1=Sum.inr z)).map (·.2)=(((k,u)::ks.zip us).find? fun q=>q.1==z).map (·.2)
  rw[Qzq,Qzq]
  by_cases h:k=z
  ·have h1:decide ((Sum.inr k:Key)=Sum.inr z)=true:=by rw[h]; simp
   have h2:(k==z)=true:=by rw[h]; simp
   simp only[h1,h2]
   rfl
  ·have h1:decide ((Sum.inr k:Key)=Sum.inr z)=false:=decide_eq_false fun q=>h (Sum.inr.inj q)
   have h2:(k==z)=false:=by simpa using h
   simp only[h1,h2]
   exact ih
theorem qfm{K:Qqq}(z:Str):∀ {ks:List Str}{ds:List M.D}{vs:List V}{us:List Value},(∀ m H,IsDs K m H ds vs)→Vals vs us→ks.length=us.length→
  (((ks.zip ds).find? fun q=>q.1==z)=none∧((ks.zip us).find? fun q=>q.1==z)=none∧ks.contains z=false)∨∃ k d v u,((ks.zip ds).find? fun q=>q.1==z)=some (k,d)∧((ks.zip us).find? fun q=>q.1==z)=some (k,u)∧(∀ m H,MS.IsD K m H d v)∧RelV v u∧ks.contains z=true
 |[],ds,vs,us,i,r,h=>.inl ⟨rfl,rfl,rfl⟩
 |k::ks,[],vs,us,i,r,h=>by
  rw[(i [] fun _=>none).nil]at r
  cases r
  cases h
 |k::ks,d::ds,vs,us,i,r,h=>by
  obtain⟨v,vr,e,_,_⟩:=(i [] fun _=>none).cons
  subst e
  have i1:∀ m H,MS.IsD K m H d v:=fun m H=>by
   obtain⟨v',vr',e,q,_⟩:=(i m H).cons
   cases e
   exact q
  have i2:∀ m H,IsDs K m H ds vr:=fun m H=>by
   obtain⟨v',vr',e,_,q⟩:=(i m H).cons
   cases e
   exact q
  cases r with
  |cons r1 r2=>
   rename_i u us
   by_cases hk:k=z
   ·subst hk
    refine .inr ⟨k,d,v,u,by simp,by simp,i1,r1,by simp⟩
   ·have h2:(k==z)=false:=by simpa using hk
    have h3:(z==k)=false:=by simpa using Ne.symm hk
    have ih:=qfm z (ks:=ks) i2 r2 (by simpa using h)
    rw[List.zip_cons_cons,List.zip_cons_cons,Qzq,Qzq,List.contains_cons]
    simp only[h2,h3,Qxg]
    exact ih
section
variable {X:Cx}{b:Expr}{tb:TE}{pos p0:Pos}{x:Str}
theorem qlt{a:Addr}{ks:List Str}{ds:List M.D}(hg:Gl X x)(hm:X.mg x=some (.ref a))(hF:FDict X.w.params X.K a ks ds)(hd:(x==("__debug__" : Str))=false)(hb:PE X b tb)(hs:NoSl b):
  PE X (.Subscript (.Name x p0) b pos) (fun σ H Q=>tb σ H fun y H2=>∃ z d,y=.str z∧(∃ k,((ks.zip ds).find? fun q=>q.1==z)=some (k,d))∧∀ v,(∀ m,MS.IsD X.K m H2 d v)→Q v H2):=by
 intro pins s σ H Q I h
 refine qlq PySem.F.slot_dict_getitem.lookup hs (thn (qbj hg hm (show RelV (.ref a) (.ref a) from rfl) hd pins s σ H (fun x H1=>x=.ref a∧tb σ H1 _) I ⟨rfl,h⟩) fun u s1 ⟨x',H1,I1,rx,ex,q1⟩=>?_)
 subst ex
 cases rx
 refine thn (hb pins s1 σ H1 _ I1 q1) fun iv s2 ⟨y,H2,I2,ry,z,d,ey,⟨k,ek⟩,q2⟩=>?_
 subst ey
 obtain⟨us,vs,dd,rv,hI,hl⟩:=qfs I2 hF
 refine⟨dd.typeIs,?_⟩
 rcases qfm z hI rv hl with⟨n1,_,_⟩|⟨k',d',v',u',f1,f2,f3,f4,_⟩
 ·rw[n1]at ek; cases ek
 ·rw[f1]at ek
  cases ek
  have hw:valueAt (kzip ks us) (Sum.inr z)=some u':=by
   unfold valueAt
   rw[qmy,f2]
   rfl
  exact wpAny_getItem_of (qw1 (k:=.inr z) ry) dd.mapOf hw ⟨v',H2,I2.tok _,f4,q2 v' fun m=>f3 m H2⟩
theorem gd_has{X:Cx}{pins:List (Addr×Obj)}{σ:L2.St}{H:Hp}{s:Shared}{a:Addr}{ks:List Str}{ds:List M.D}(I:Inv X pins σ H s)(hF:FDict X.w.params X.K a ks ds)(z:Str):
  ∃ us,s.heap.DictOf (mixKind X.prog X.w) a (kzip ks us)∧(valueAt (kzip ks us) (Sum.inr z)).isSome=ks.contains z:=by
 obtain⟨us,vs,dd,rv,hI,hl⟩:=qfs I hF
 refine⟨us,dd,?_⟩
 unfold valueAt
 rw[qmy]
 rcases qfm z hI rv hl with⟨_,n2,n3⟩|⟨k',d',v',u',f1,f2,f3,f4,f5⟩
 ·rw[n2,n3]; rfl
 ·rw[f2,f5]; rfl
theorem pc_gin{a:Addr}{ks:List Str}{ds:List M.D}(neg:Bool)(hg:Gl X x)(hm:X.mg x=some (.ref a))(hF:FDict X.w.params X.K a ks ds)(hd:(x==("__debug__" : Str))=false)(hb:PE X b tb):
  PC X (if neg then .NotIn else .In) b (.Name x p0) (fun σ H Q=>tb σ H fun y H2=>∃ z,y=.str z∧Q (.bl (ks.contains z != neg)) H2):=by
 intro pins s σ H Q I h
 refine thn (hb pins s σ H _ I h) fun iv s1 ⟨y,H1,I1,ry,z,ey,q1⟩=>?_
 subst ey
 refine thn (qbj hg hm (show RelV (.ref a) (.ref a) from rfl) hd pins s1 σ H1 (fun x H2=>x=.ref a∧Q (.bl (ks.contains z != neg)) H2) I1 ⟨rfl,q1⟩) fun u s2 ⟨x',H2,I2,rx,ex,q2⟩=>?_
 subst ex
 cases rx
 obtain⟨us,dd,hs⟩:=gd_has I2 hF z
 cases neg with
 |false=>
  refine wpAny_in_of (qw1 (k:=.inr z) ry) hF.ne dd.mapOf ?_
  rw[hs]
  refine⟨.bl _,H2,I2.tok _,rfl,?_⟩
  simpa using q2
 |true=>
  refine wpAny_notIn_of (qw1 (k:=.inr z) ry) hF.ne dd.mapOf ?_
  rw[hs]
  refine⟨.bl _,H2,I2.tok _,rfl,?_⟩
  simpa using q2
open M (D Cell Store Sl)
theorem qep{a:Addr}{ks:List Str}{ds:List D}{fb:Sl→Store→Option (D×Store)}(neg:Bool)(hg:Gl X x)(hm:X.mg x=some (.ref a))(hF:FDict X.w.params X.K a ks ds)(hd:(x==("__debug__" : Str))=false)(hb:PE X b (tD X.K fb)):
  PC X (if neg then .NotIn else .In) b (.Name x p0) (tD X.K fun τ st=>(fb τ st).bind fun p=>match p.1 with
   |.str z=>some (.bl (ks.contains z != neg),p.2)
   |_=>none):=by
 intro pins s σ H Q I h
 refine pc_gin neg hg hm hF hd hb pins s σ H Q I ?_
 refine h.el fun m st τ d st' R0 S0 e q=>?_
 obtain⟨d1,s1,e1,e⟩:=qzr e
 refine⟨m,st,τ,d1,s1,R0,S0,e1,fun y m1 H1 b1 t1 R1 i1=>?_⟩
 cases d1 with
 |str z=>
  cases e
  exact⟨z,i1.str,q _ m1 H1 b1 t1 R1 (mkBl _)⟩
 |_=>cases e
theorem qhq{a:Addr}{ks:List Str}{ds:List D}{fb:Sl→Store→Option (D×Store)}(hg:Gl X x)(hm:X.mg x=some (.ref a))(hF:FDict X.w.params X.K a ks ds)(hd:(x==("__debug__" : Str))=false)(hb:PE X b (tD X.K fb))(hs:NoSl b):
  PE X (.Subscript (.Name x p0) b pos) (tD X.K fun τ st=>(fb τ st).bind fun p=>match p.1 with
   |.str z=>((ks.zip ds).find? fun q=>q.1==z).map fun q=>(q.2,p.2)
   |_=>none):=by
 refine(qlt hg hm hF hd hb hs).imp fun σ H Q h=>?_
 refine h.el fun m st τ d st' R0 S0 e q=>?_
 obtain⟨d1,s1,e1,e⟩:=qzr e
 refine⟨m,st,τ,d1,s1,R0,S0,e1,fun y m1 H1 b1 t1 R1 i1=>?_⟩
 cases d1 with
 |str z=>
  obtain⟨w,e2,e3⟩:=mapD e
  cases e3
  exact⟨z,w.2,i1.str,⟨w.1,e2⟩,fun v hv=>q _ m1 H1 b1 t1 R1 (hv m1)⟩
 |_=>cases e
theorem qf1{K:Qqq}{m:List Addr}{H:Hp}{kvs:List (D×D)}{xs:List (Key×V)}{kd:D}{y:V}{a:Addr}(hk:M.isKey kd=true)(hkv:IsKV K m H kvs xs)(hH:H a=some (.dK xs))(iy:MS.IsD K m H kd y):
  ∃ o,DGet H a y o∧((M.dget kvs kd=none∧o=none)∨∃ d v,M.dget kvs kd=some d∧o=some v∧MS.IsD K m H d v):=by
 obtain⟨k,hk1⟩:=qjm hk
 have hy:=qma hk1 iy
 subst hy
 refine⟨valV xs k,DGet.k hH,?_⟩
 rcases hkv.get hk1 with⟨h1,h2⟩|⟨d,v,h1,h2,h3⟩
 ·exact .inl ⟨h1,h2⟩
 ·exact .inr ⟨d,v,h1,h2,h3⟩
theorem pc_dinD{a:Expr}{fa fb:Sl→Store→Option (D×Store)}(hu:X.A.units+1<cLine)(neg:Bool)(ha:PE X a (tD X.K fa))(hb:PE X b (tD X.K fb)):
  PC X (if neg then .NotIn else .In) a b (tD X.K fun τ st=>(fa τ st).bind fun p=>(fb τ p.2).bind fun q=>match q.1 with
   |.loc l=>(M.dicAt q.2 l).bind fun kvs=>if M.isKey p.1 then some (.bl ((M.dget kvs p.1).isSome != neg),q.2) else none
   |_=>none):=by
 have key:∀ {σ:L2.St}{H:Hp}{Q:VK},tD X.K (fun τ st=>(fa τ st).bind fun p=>(fb τ p.2).bind fun q=>match q.1 with
   |.loc l=>(M.dicAt q.2 l).bind fun kvs=>if M.isKey p.1 then some (.bl ((M.dget kvs p.1).isSome != neg),q.2) else none
   |_=>none) σ H Q→tD X.K fa σ H fun y H1=>tD X.K fb σ H1 fun x H2=>∃ a o,x=.ref a∧DGet H2 a y o∧Q (.bl (o.isSome != neg)) H2:=by
  intro σ H Q h
  refine h.el fun m st τ d st' R0 S0 e q=>?_
  obtain⟨d1,s1,e1,e⟩:=qzr e
  obtain⟨d2,s2,e2,e⟩:=qzr e
  refine⟨m,st,τ,d1,s1,R0,S0,e1,fun y m1 H1 b1 t1 R1 i1=>⟨m1,s1,τ,d2,s2,R1,S0.mono b1 t1,e2,fun z m2 H2 b2 t2 R2 i2=>?_⟩⟩
  cases d2 with
  |loc l=>
   obtain⟨kvs,e3,e⟩:=qzf e
   split at e
   ·rename_i hk
    cases e
    obtain⟨a',xs,_,rfl,hH,hkv,_⟩:=R2.dict e3 i2
    obtain⟨o,g,hg⟩:=qf1 hk hkv hH (qze b2 t2 _ _ i1)
    refine⟨a',o,rfl,g,?_⟩
    have e4:o.isSome=(M.dget kvs d1).isSome:=by
     rcases hg with⟨h1,h2⟩|⟨d,v,h1,h2,_⟩
     ·rw[h1,h2]; rfl
     ·rw[h1,h2]; rfl
    rw[e4]
    exact q _ m2 H2 (b1.trans b2) (t1.trans t2) R2 (mkBl _)
   ·cases e
  |_=>cases e
 cases neg with
 |false=>
  intro pins s σ H Q I h
  refine pc_din hu ha hb pins s σ H Q I ?_
  have:=key h
  simpa only[tDIn,Bool.bne_false] using this
 |true=>
  intro pins s σ H Q I h
  refine qer hu ha hb pins s σ H Q I ?_
  have:=key h
  simpa only[qd5,Bool.bne_true] using this
theorem ql0{a:Expr}{apos cpos:Pos}{fa fb:Sl→Store→Option (D×Store)}(hu:X.A.units+1<cLine)(ha:PE X a (tD X.K fa))(hb:PE X b (tD X.K fb))(hm:M1 X a "get" apos b cpos):
  PE X (.Call (.Attribute a "get" apos) [b] [] cpos) (tD X.K fun τ st=>(fa τ st).bind fun p=>match p.1 with
   |.loc l=>(M.dicAt p.2 l).bind fun _=>(fb τ p.2).bind fun q=>(M.dicAt q.2 l).bind fun kvs=>if M.isKey q.1 then some ((M.dget kvs q.1).getD .non,q.2) else none
   |_=>none):=by
 refine(qhx hu ha hb hm).imp fun σ H Q h=>?_
 refine h.el fun m st τ d st' R0 S0 e q=>?_
 obtain⟨d1,s1,e1,e⟩:=qzr e
 refine⟨m,st,τ,d1,s1,R0,S0,e1,fun y m1 H1 b1 t1 R1 i1=>?_⟩
 cases d1 with
 |loc l=>
  obtain⟨kv0,e0,e⟩:=qzf e
  obtain⟨d2,s2,e2,e⟩:=qzr e
  obtain⟨kvs,e3,e⟩:=qzf e
  split at e
  ·rename_i hk
   cases e
   obtain⟨a0,xs0,ha0,rfl,hH0,_,_⟩:=R1.dict e0 i1
   refine⟨a0,rfl,.inl ⟨_,.inl hH0⟩,m1,s1,τ,d2,s2,R1,S0.mono b1 t1,e2,fun z m2 H2 b2 t2 R2 i2=>?_⟩
   obtain⟨a',xs,_,ea,hH,hkv,_⟩:=R2.dict e3 (qze b2 t2 _ _ i1)
   cases ea
   obtain⟨o,g,hg⟩:=qf1 hk hkv hH i2
   refine⟨o,g,?_⟩
   rcases hg with⟨h1,h2⟩|⟨d,v,h1,h2,h3⟩
   ·rw[h1]at q
    subst h2
    exact q _ m2 H2 (b1.trans b2) (t1.trans t2) R2 qyu
   ·rw[h1]at q
    subst h2
    exact q _ m2 H2 (b1.trans b2) (t1.trans t2) R2 h3
  ·cases e
 |_=>cases e
end
end MS
end
section
namespace MS
open PySem PySem.Spec PyProof.Rows L2
noncomputable def qj9(c:Nat):List (List Nat)→List Nat
 |[]=>[]
 |[p]=>p
 |p::q::r=>p++c::qj9 c (q::r)
theorem qcd(c:Nat):∀ ts:List Str,(Str.join ⟨#[c]⟩ ts).cps.toList=qj9 c (ts.map (·.cps.toList))
 |[]=>rfl
 |[t]=>rfl
 |t::u::r=>by
  have ih:=qcd c (u::r)
  show(t++⟨#[c]⟩++Str.join ⟨#[c]⟩ (u::r)).cps.toList=_
  show((t.cps++#[c])++(Str.join ⟨#[c]⟩ (u::r)).cps).toList=t.cps.toList++c::qj9 c ((u::r).map (·.cps.toList))
  rw[Array.toList_append,Array.toList_append,ih]
  simp
theorem qy9{c:Nat}:∀ {p q a b:List Nat},c ∉ p→c ∉ q→p++c::a=q++c::b→p=q∧a=b
 |[],[],a,b,_,_,e=>by simpa using e
 |[],y::q,a,b,_,hq,e=>by
  have:c=y:=by simpa using congrArg List.head? e
  exact absurd (by rw[this]; exact Qqe) hq
 |x::p,[],a,b,hp,_,e=>by
  have:x=c:=by simpa using congrArg List.head? e
  exact absurd (by rw[this]; exact Qqe) hp
 |x::p,y::q,a,b,hp,hq,e=>by
  rw[Qxv,Qxv]at e
  injection e with e1 e2
  obtain⟨h1,h2⟩:=qy9 (fun z=>hp (Qqy _ z)) (fun z=>hq (Qqy _ z)) e2
  exact⟨by rw[e1,h1],h2⟩
theorem uniq{c:Nat}:∀ {ps qs:List (List Nat)},ps≠[]→qs≠[]→(∀ p∈ps,c ∉ p)→(∀ q∈qs,c ∉ q)→qj9 c ps=qj9 c qs→ps=qs
 |[],qs,h,_,_,_,_=>absurd rfl h
 |ps,[],_,h,_,_,_=>absurd rfl h
 |[p],[q],_,_,_,_,e=>by rw[show p=q from e]
 |[p],q::q2::qr,_,_,hp,_,e=>by
  have e:p=q++c::qj9 c (q2::qr):=e
  exact absurd (by rw[e]; simp) (hp p Qqe)
 |p::p2::pr,[q],_,_,_,hq,e=>by
  have e:p++c::qj9 c (p2::pr)=q:=e
  exact absurd (by rw[← e]; simp) (hq q Qqe)
 |p::p2::pr,q::q2::qr,_,_,hp,hq,e=>by
  have e:p++c::qj9 c (p2::pr)=q++c::qj9 c (q2::qr):=e
  obtain⟨h1,h2⟩:=qy9 (hp p Qqe) (hq q Qqe) e
  rw[h1,uniq (List.cons_ne_nil _ _) (List.cons_ne_nil _ _) (fun z hz=>hp z (Qqy _ hz)) (fun z hz=>hq z (Qqy _ hz)) h2]
theorem qjq(c:Nat):∀ cs:List Nat,M.splitC c cs≠[]∧(∀ p∈M.splitC c cs,c ∉ p)∧qj9 c (M.splitC c cs)=cs∧(M.splitC c cs).length≤cs.length+1
 |[]=>⟨by simp[M.splitC],by simp[M.splitC],rfl,by simp[M.splitC]⟩
 |x::r=>by
  obtain⟨h1,h2,h3,h4⟩:=qjq c r
  unfold M.splitC
  by_cases hx:x=c
  ·rw[if_pos hx]
   refine⟨by simp,?_,?_,by simp only[Qqv]; omega⟩
   ·intro p hp
    rcases Qqw.mp hp with q|q
    ·rw[q]; simp
    ·exact h2 p q
   ·cases hs:M.splitC c r with
    |nil=>exact absurd hs h1
    |cons p ps=>
     rw[hs]at h3
     show []++c::qj9 c (p::ps)=_
     rw[h3,hx]
     rfl
  ·rw[if_neg hx]
   cases hs:M.splitC c r with
   |nil=>exact absurd hs h1
   |cons p ps=>
    rw[hs]at h2 h3 h4
    refine⟨by simp,?_,?_,by simp only[Qqv]at h4 ⊢; omega⟩
    ·intro q hq
     rcases Qqw.mp hq with z|z
     ·rw[z]
      intro hm
      rcases Qqw.mp hm with y|y
      ·exact hx y.symm
      ·exact h2 p Qqe y
     ·exact h2 q (Qqy _ z)
    ·cases ps with
     |nil=>show x::p=x::r; rw[show p=r from h3]
     |cons p2 pr=>
      have h3:p++c::qj9 c (p2::pr)=r:=h3
      show(x::p)++c::qj9 c (p2::pr)=x::r
      rw[Qxv,h3]
theorem qgo(z y:Str):Txt.split z y≠[]:=by
 unfold Txt.split
 split
 ·simp
 ·split
  ·simp
  ·intro h
   unfold Builtin.Str.partsBetween at h
   simp at h
theorem qgp(z:Str)(c:Nat):Txt.split z ⟨#[c]⟩=(M.splitC c z.cps.toList).map fun p=>(⟨p.toArray⟩:Str):=by
 obtain⟨h1,h2,h3,_⟩:=qjq c z.cps.toList
 have e1:=congrArg (fun t:Str=>t.cps.toList) (PySem.StrLaws.join_split z ⟨#[c]⟩)
 rw[qcd]at e1
 have e2:(Txt.split z ⟨#[c]⟩).map (·.cps.toList)=M.splitC c z.cps.toList:=by
  refine uniq (by simpa using qgo z ⟨#[c]⟩) h1 (fun p hp=>?_) h2 (e1.trans h3.symm)
  obtain⟨t,ht,rfl⟩:=Qq5.mp hp
  exact PySem.StrLaws.split_free z c t ht
 rw[← e2,Qq6]
 have:((fun p:List Nat=>(⟨p.toArray⟩:Str))∘fun t:Str=>t.cps.toList)=id:=funext fun t=>by
  obtain⟨a⟩:=t
  simp
 rw[this,List.map_id]
section
variable {prog:Program}{w:World}{A:Around}{E:Value→Shared→Prop}{s:Shared}{x:Str}{t:Tok}{Q:Value→Shared→Prop}
theorem qeq{y:Str}{u:Tok}(hy:(y.length==0)=false)(hz:x.length≤sizeLine)(hz2:(Builtin.Str.partsBetween x (Builtin.Str.occurrences x y 0 x.length (x.length+1)) y.length).length≤sizeLine)
  (hq:∀ (l:List (Str×Tok)) (k:Nat),l.map (·.1)=Txt.split x y→Q (.ref s.heap.objs.size) { s with heap:=s.heap.push { cls:=.type "list",data:=.seq (strValues l).toArray },toks:=k }) :
  wpAny (model prog w) A (call (.builtin "str.split") [.str x t,.str y u]) Q E s:=by
 cases h1:(decide (x.length<y.length)||decide (Builtin.Str.strKind x<Builtin.Str.strKind y)) with
 |true=>exact call_meets PySem.F.slot_str_split (typeIs_str _ _ _) PySem.F.entry_str_split (PySem.F.args_str_split_2 _ _) (meets_str_split_cannot_occur x y t u h1) (hq [(x,t)] s.toks (if_pos h1).symm)
 |false=>
  have n1:¬ (decide (x.length<y.length)||decide (Builtin.Str.strKind x<Builtin.Str.strKind y))=true:=by rw[h1]; nofun
  cases h2:(Builtin.Str.occurrences x y 0 x.length (x.length+1)).isEmpty with
  |true=>exact call_meets PySem.F.slot_str_split (typeIs_str _ _ _) PySem.F.entry_str_split (PySem.F.args_str_split_2 _ _) (meets_str_split_not_found x y t u h1 hy h2) (hq [(x,t)] s.toks ((if_neg n1).trans (if_pos h2)).symm)
  |false=>
   have n2:¬ (Builtin.Str.occurrences x y 0 x.length (x.length+1)).isEmpty=true:=by rw[h2]; nofun
   refine call_meets PySem.F.slot_str_split (typeIs_str _ _ _) PySem.F.entry_str_split (PySem.F.args_str_split_2 _ _) (meets_str_split_sep x y t u h1 hy h2 hz hz2) ?_
   show wants Q E _ { s with toks:=_,heap:=s.heap.push { cls:=.type "list",data:=.seq (strsFrom s.toks (Builtin.Str.partsBetween x (Builtin.Str.occurrences x y 0 x.length (x.length+1)) y.length)).toArray } }
   rw[strsFrom_eq]
   exact hq (numbered s.toks _) _ ((numbered_texts _ _).trans ((if_neg n1).trans (if_neg n2)).symm)
end
theorem qyx:∀ l:List (Str×Tok),Vals (l.map fun p=>V.str p.1) (strValues l)
 |[]=>.nil
 |p::r=>.cons ⟨p.2,rfl⟩ (qyx r)
theorem qy5{K:Qqq}{m:List Addr}{H:Hp}:∀ ts:List Str,IsDs K m H (ts.map M.D.str) (ts.map V.str)
 |[]=>qz7
 |t::r=>qzw (mkStr t) (qy5 r)
section
variable {X:Cx}
theorem qfj:MtM X "str.split" (fun x xs H Q=>∃ m st a ds d st',Rel X.K m st H∧MS.IsD X.K m H a x∧IsDs X.K m H ds xs∧M.mSplit st a ds=some (d,st')∧Post X.K m H d st' Q):=by
 intro pins s σ H x xs v us Q I rx rs h
 obtain⟨m,st,a,ds,d,st',R0,i1,i2,e,q⟩:=h
 unfold M.mSplit at e
 split at e
 ·rename_i z y
  obtain⟨c,e1,e⟩:=qzf e
  split at e
  ·rename_i hl
   cases e
   have hy:=qku e1
   subst hy
   have hx:=i1.str
   subst hx
   obtain⟨y',rfl,iy⟩:=i2.one
   have hy':=iy.str
   subst hy'
   obtain⟨t,rfl⟩:=rx
   cases rs with
   |cons r rr=>
    cases rr
    obtain⟨u,rfl⟩:=r
    have hsp:=qgp z c
    obtain⟨_,_,_,h4⟩:=qjq c z.cps.toList
    have hll:z.cps.toList.length=z.length:=by simp[Str.length]
    have l2:=qqq
    have hlim:M.lim=16777216:=rfl
    have hparts:(Builtin.Str.partsBetween z (Builtin.Str.occurrences z ⟨#[c]⟩ 0 z.length (z.length+1)) (⟨#[c]⟩:Str).length).length≤sizeLine:=by
     have:=PySem.StrLaws.occ_length_le z ⟨#[c]⟩ 0 z.length (z.length+1)
     unfold Builtin.Str.partsBetween
     simp
     omega
    refine qeq rfl (by omega) hparts fun l k hk=>?_
    have hp:=I.hok.fresh (Qqc s.heap.objs.size)
    have hts:l.map (·.1)=(M.splitC c z.cps.toList).map fun p=>(⟨p.toArray⟩:Str):=hk.trans hsp
    have hlen:l.length=(M.splitC c z.cps.toList).length:=by simpa using congrArg List.length hts
    refine⟨.ref s.heap.objs.size,_,I.laid (a:=s.heap.objs.size) (o:=.lst (l.map fun p=>V.str p.1)) (fun _ _ w=>Qqb _ w) (Qqc _) ⟨?_,strValues l,0,qyx l,Qqr _ rfl⟩,rfl,?_⟩
    ·rw[Qqj]; omega
    ·have ed:(M.splitC c z.cps.toList).map (fun p=>M.D.str ⟨p.toArray⟩)=(l.map (·.1)).map M.D.str:=by rw[hts,Qq6]; rfl
     have ev:(l.map fun p=>V.str p.1)=(l.map (·.1)).map V.str:=by rw[Qq6]; rfl
     have key:IsDs X.K m H ((M.splitC c z.cps.toList).map fun p=>M.D.str ⟨p.toArray⟩) (l.map fun p=>V.str p.1):=by
      rw[ed,ev]; exact qy5 _
     exact q _ (m++[s.heap.objs.size]) _ (Sub.app _ _) (Tr.of_same (qzo hp)) (R0.new hp key) R0.newLoc
  ·cases e
 ·cases e
inductive PEs (X:Cx):List Expr→List TE→Prop
 |nil:PEs X [] []
 |cons {p:Expr}{ps:List Expr}{t:TE}{ts:List TE}(h:PE X p t) (r:PEs X ps ts):PEs X (p::ps) (t::ts)
open M (D Cell Store Sl)
end
end MS
end
section
namespace MS
open PySem PySem.Spec PyProof.Rows L2
open M (D Cell Store Sl)
section
variable {K:Qqq}{m m1:List Addr}{H H1:Hp}
mutual
theorem qfg:∀ (d:D) (v:V),M.noLoc d=true→MS.IsD K m1 H1 d v→MS.IsD K m H1 d v
 |.non,_,_,h=>by rw[h.non]; exact qyu
 |.bl _,_,_,h=>by rw[h.bl]; exact mkBl _
 |.int _,_,_,h=>by rw[h.int]; exact mkInt _
 |.str _,_,_,h=>by rw[h.str]; exact mkStr _
 |.tup ds,_,n,h=>by
  obtain⟨a,xs,rfl,q,r⟩:=h.tup
  unfold M.noLoc at n
  exact qxw q (qvv ds xs n r)
 |.lst ds,_,n,h=>by
  obtain⟨a,xs,rfl,q,r⟩:=h.lst
  unfold M.noLoc at n
  exact qfv q (qvv ds xs n r)
 |.loc l,_,n,h=>by unfold M.noLoc at n; cases n
theorem qvv:∀ (ds:List D) (xs:List V),M.noLocs ds=true→IsDs K m1 H1 ds xs→IsDs K m H1 ds xs
 |[],_,_,h=>by rw[h.nil]; exact qz7
 |d::ds,_,n,h=>by
  obtain⟨x,r,rfl,q,t⟩:=h.cons
  unfold M.noLocs at n
  rw[Qqk]at n
  exact qzw (qfg d x n.1 q) (qvv ds r n.2 t)
end
mutual
theorem qw3(s:Sub m m1):∀ (d:D) (v v1:V),MS.IsD K m H d v→MS.IsD K m1 H1 d v1→MS.IsD K m H1 d v1
 |.non,_,_,_,h=>by rw[h.non]; exact qyu
 |.bl _,_,_,_,h=>by rw[h.bl]; exact mkBl _
 |.int _,_,_,_,h=>by rw[h.int]; exact mkInt _
 |.str _,_,_,_,h=>by rw[h.str]; exact mkStr _
 |.tup ds,_,_,h0,h=>by
  obtain⟨a,xs,rfl,q,r⟩:=h.tup
  obtain⟨a0,xs0,_,_,r0⟩:=h0.tup
  exact qxw q (qxy s ds xs0 xs r0 r)
 |.lst ds,_,_,h0,h=>by
  obtain⟨a,xs,rfl,q,r⟩:=h.lst
  obtain⟨a0,xs0,_,_,r0⟩:=h0.lst
  exact qfv q (qxy s ds xs0 xs r0 r)
 |.loc l,_,_,h0,h=>by
  obtain⟨a0,e0,_⟩:=h0.loc
  obtain⟨a,e,rfl⟩:=h.loc
  have:=s l a0 e0
  rw[e]at this
  cases this
  exact qmq e0
theorem qxy(s:Sub m m1):∀ (ds:List D) (xs xs1:List V),IsDs K m H ds xs→IsDs K m1 H1 ds xs1→IsDs K m H1 ds xs1
 |[],_,_,_,h=>by rw[h.nil]; exact qz7
 |d::ds,_,_,h0,h=>by
  obtain⟨x,r,rfl,q,t⟩:=h.cons
  obtain⟨x0,r0,rfl,q0,t0⟩:=h0.cons
  exact qzw (qw3 s d x0 x q0 q) (qxy s ds r0 r t0 t)
end
theorem qy4(s:Sub m m1):∀ (kvs:List (D×D)) (xs xs1:List (Key×V)),IsKV K m H kvs xs→IsKV K m1 H1 kvs xs1→IsKV K m H1 kvs xs1
 |[],_,_,_,h=>h
 |p::r,_,_,⟨k0,v0,xr0,e0,hk0,hv0,hr0⟩,⟨k,v,xr,e,hk,hv,hr⟩=>⟨k,v,xr,e,hk,qw3 s _ _ _ hv0 hv,qy4 s r _ _ hr0 hr⟩
theorem qhe(s:Sub m m1){c:Cell}{a:Addr}(h0:IsC K m H c a)(h:IsC K m1 H1 c a):IsC K m H1 c a:=by
 cases c with
 |lst w ds=>
  cases w with
  |true=>
   obtain⟨xs,e,q⟩:=h
   obtain⟨xs0,_,q0⟩:=h0
   exact⟨xs,e,qxy s _ _ _ q0 q⟩
  |false=>
   obtain⟨xs,e,q⟩:=h
   obtain⟨xs0,_,q0⟩:=h0
   exact⟨xs,e,qxy s _ _ _ q0 q⟩
 |dic kvs=>
  obtain⟨xs,e,q⟩:=h
  obtain⟨xs0,_,q0⟩:=h0
  exact⟨xs,e,qy4 s _ _ _ q0 q⟩
theorem qeg{st st0:Store}(h:st0.take st.length=st){l:Nat}{c:Cell}(e:st[l]?=some c):st0[l]?=some c:=by
 have hl:=(Qqd.mp e).1
 rw[← h,List.getElem?_take,if_pos hl]at e
 exact e
theorem Rel.cutBack{st st0:Store}(R0:Rel K m st H)(R1:Rel K m1 st0 H1)(s:Sub m m1)(h:st0.take st.length=st){H2:Hp}(t:Tr H1 H2)(hw:∀ (l:Nat) (c:Cell) (a:Addr),st[l]?=some c→m[l]?=some a→Wr c=true→H2 a=H1 a):Rel K m st H2:=
 ⟨R0.len,R0.nd,fun l c a e ea=>qk0 (Sub.refl m) t (qhe s (R0.cell l c a e ea) (R1.cell l c a (qeg h e) (s l a ea))) fun w=>hw l c a e ea w⟩
end
section
variable {X:Cx}
theorem qwj{pins:List (Addr×Obj)}{s:Shared}{σ:L2.St}{H:Hp}{a:Addr}{xs:List V}(I:Inv X pins σ H s)(h:H a=some (.lst xs)):∃ o,Inv X pins σ (upd H a (.frz o (.lst xs))) s:=by
 obtain⟨z,its,n,r,e⟩:=id (I.hok a _ h)
 refine⟨{ cls:=.type "list",data:=.seq its.toArray n },I.un (t':=s.toks) (h':=s.heap) ⟨fun b o q _ _ _=>q,fun b o q _ _ _=>⟨o.slots,q⟩,fun b o q hn _=>?_,fun b o q _=>⟨o,q⟩,fun b ys q=>?_,fun b o u q=>?_,fun b ps q=>⟨#[],?_⟩⟩ ?_⟩
 ·rw[qzy (fun z=>by subst z; rw[h]at hn; cases hn)]
  exact hn
 ·rw[qzy (qjh q h (by intro z; cases z))]; exact q
 ·rw[qzy (qjh q h (by intro z; cases z))]; exact q
 ·rw[qzy (qjh q h (by intro z; cases z)),q]; simp
 ·intro b u q
  by_cases hb:b=a
  ·subst hb
   rw[qzn]at q
   cases q
   exact⟨e,z,its,n,r,e⟩
  ·rw[qzy hb]at q
   refine(I.hok b u q).stay (fun c v _ w=>w) (fun c w=>?_) fun c ys w=>?_
   ·rw[qzy (qjh w h (by intro z; cases z))]; exact w
   ·rw[qzy (qjh w h (by intro z; cases z))]; exact w
theorem pe_gc{p:Expr}{f:Sl→Store→Option (D×Store)}(he:PE X p (tD X.K f)):PE X p (tD X.K fun τ st=>(f τ st).map fun q=>M.gcD st q):=by
 intro pins s σ H Q I h
 refine h.el fun m st τ d st' R0 S0 e q=>?_
 obtain⟨⟨d0,st0⟩,e1,e2⟩:=mapD e
 refine thn (he pins s σ H (fun v H1=>∃ m1,Sub m m1∧Tr H H1∧Rel X.K m1 st0 H1∧MS.IsD X.K m1 H1 d0 v) I ⟨m,st,τ,d0,st0,R0,S0,e1,fun v m1 H1 b1 t1 R1 i1=>⟨m1,b1,t1,R1,i1⟩⟩) fun v s1 ⟨x,H1,I1,r1,m1,b1,t1,R1,i1⟩=>?_
 have plain:(d0,st0)=(d,st')→EP X pins σ Q v s1:=fun z=>by
  cases z
  exact⟨x,H1,I1,r1,q x m1 H1 b1 t1 R1 i1⟩
 unfold M.gcD at e2
 split at e2
 ·rename_i hp
  split at e2
  ·rename_i hn
   cases e2
   refine⟨x,H1,I1,r1,q x m H1 (Sub.refl m) t1 (R0.cutBack R1 b1 hp (Tr.refl H1) fun _ _ _ _ _ _=>rfl) (qfg _ _ hn i1)⟩
  ·split at e2
   ·rename_i l hd
    simp only at hd
    split at e2
    ·rename_i hl
     split at e2
     ·rename_i ds hc
      split at e2
      ·rename_i hn
       cases e2
       subst hd
       obtain⟨a,ha,rfl⟩:=i1.loc
       obtain⟨xs,hx,ix⟩:=R1.cell l _ a hc ha
       obtain⟨o,I2⟩:=qwj I1 hx
       have t2:Tr H1 (upd H1 a (.frz o (.lst xs))):=⟨fun b zs e=>by rw[qzy (qjh e hx (by intro z; cases z))]; exact e,fun b o u e=>by rw[qzy (qjh e hx (by intro z; cases z))]; exact e⟩
       refine⟨.ref a,_,I2,r1,q _ m _ (Sub.refl m) (t1.trans t2) (R0.cutBack R1 b1 hp t2 fun l' c a' e ea w=>?_) ?_⟩
       ·refine qzy fun z=>?_
        subst z
        have hlt:=(Qqd.mp e).1
        have:=R1.nd l' l a' c _ (b1 l' a' ea) ha (qeg hp e) hc w rfl
        omega
       ·exact qfv (.inl ⟨o,qzn⟩) (qvv _ _ hn (qza (Sub.refl m1) t2 _ _ ix))
      ·exact plain e2
     ·exact plain e2
    ·exact plain e2
   ·exact plain e2
 ·exact plain e2
end
end MS
end
section
namespace MS
open PySem PySem.Spec PyProof.Rows L2
open M (D Cell Store Sl)
section
variable {X:Cx}
end
end MS
end
section
namespace MS
open PySem PySem.Spec PyProof.Rows L2
open M (D Cell Store Sl E S T Src Fn Out R)
theorem qv6{X:Cx}{elt tg iter:Expr}{ifs:List Expr}{scope:Scope}{pos pos' cpos:Pos}{N:List Str}{src:List (Option Nat)}{wi:TI}{g:TG}{tt:TT}{te:TE}{i:Nat}{x:Str}(hc:X.calm=true)(S:CompScope X N src scope)(hi:PI X tg iter wi)
  (hg:∀ C fp s H,PG (qzd X N scope C fp s H) tg g) (ht:∀ C fp s H,qdp (qzd X N scope C fp s H) ifs tt) (he:∀ C fp s H,PE (qzd X N scope C fp s H) elt te)
  (hs:∀ x,foldedSetIterable iter X.env x=pure x) (hN:X.N.Nodup) (hx:X.N[i]?=some x) (hl:Loc X.env.scope x) (hf:X.fn x=true∨X.env.scope.names.lookup x=some .local)
  (hsw:swapsWith (.ListComp elt [⟨tg,iter,ifs,0⟩] scope cpos) (some (.Name x pos')) pos.line X.env=pure true) :
  PS X (.Assign [.Name x pos'] (.ListComp elt [⟨tg,iter,ifs,0⟩] scope cpos) pos) (tAsg (qgl src wi g tt te) (qba i)):=by
 intro pins s σ H D I h
 rw[exec_Assign_Name_used _ _ _ _ hsw]
 refine wpAny_bind (wpAny_standAt (wpAny_bind ?_))
 show wpAny _ X.A (do let _ ← comprehension (.ListComp elt [⟨tg,iter,ifs,0⟩] scope cpos) scope X.env _ (newList []) false (eval iter X.env) (some (assign (.Name x pos') X.env))) _ _ s
 refine wpAny_bind (wpAny_mono (wpAny_comprehension_free (use:=some (assign (.Name x pos') X.env)) (Q:=fun _ s'=>SP X pins D .next s') rfl hs (qvl S I) S.kind S.loc (thn (hi pins s σ H _ I h) fun v s1 h1=>thn h1 fun itv s2 h2=>?_)) (fun _ s' hq=>wpAny_pure (wpAny_pure hq)) fun _ _ e=>e)
 obtain⟨it,fp,tn,J,H2,e,I2,T,st2,f2,W,w0,turn⟩:=h2
 subst e
 refine qkb (Ex:=fun _ _=>NoX) hc I2 T st2 f2 S (fun C=>hg C fp s2 H2) (fun C=>ht C fp s2 H2) (fun _ C=>he C fp s2 H2) (fun _ _ _ _ _ z=>z.elim) W w0 turn ?_
 intro Dd C s' H' acc fin nD I' fC hm
 obtain⟨m',hn⟩:=hm
 obtain⟨c0,c1,c2,c3,c4,c5⟩:=fC
 show wpAny _ X.A (assign (.Name x pos') X.env (.ref Dd)) _ _ _
 refine wpAny_assign_Name (qyk I' hN hx hl (show RelV (.ref Dd) (.ref Dd) from rfl) (fun s'' I'' hsb=>?_) hf)
 obtain⟨a,sb,ha⟩:=hsb
 have hCa:C≠a:=by
  rcases ha with z|z
  ·rw[z]; exact c1
  ·exact fun q=>c4 x a z q.symm
 refine⟨m',hn.sameBut sb hCa,fun h' sb'=>?_⟩
 exact⟨_,_,I''.turned (t':=s''.toks) (fun b o hb e=>(sb'.2 b hb).trans e) c0 c1 c3 c4 c5,fin Dd nD⟩
noncomputable def iSeq(K:Qqq)(tl:TE):TI:=fun σ H R=>tl σ H fun x H1=>(∃ a,x=.ref a∧(((∃ xs,SqL K H1 a xs)∧R (Itl K a) H1)∨((∃ xs,SqT K H1 a xs)∧R (Itt K a) H1)))∨∃ z,x=.str z∧z.cps.all (· < 128)=true∧R (Its z) H1
theorem pi_seq{X:Cx}{tg l:Expr}{tl:TE}(hl:PE X l tl):PI X tg l (iSeq X.K tl):=by
 intro pins s σ H R I h
 refine thn (hl pins s σ H _ I h) fun v s1 ⟨x,H1,I1,r1,q1⟩=>?_
 rcases q1 with⟨a,e,q⟩|⟨z,e,ha,q⟩
 ·subst e
  cases r1
  rcases q with⟨⟨xs,hq⟩,q⟩|⟨⟨xs,hq⟩,q⟩
  ·obtain⟨its,rv,p,hz⟩:=I1.list hq
   refine wpAny_pyIter_list p.isList ?_
   refine⟨s1.heap.objs.size,[s1.heap.objs.size],_,_,H1,rfl,I1.kept (t':=s1.toks) fun b o e=>Qqb _ e,qd2 a _,⟨_,Qqr _ rfl,rfl,rfl⟩,fun b hb=>?_,q⟩
   have e:b=s1.heap.objs.size:=by simpa using hb
   subst e
   exact I1.fpOk (Qqc _) (I1.hok.fresh (Qqc _))
  ·obtain⟨its,rv,p,hz⟩:=I1.tuple hq
   refine wpAny_pyIter_tuple (show s1.heap.IsTuple a its.toArray from p) ?_
   refine⟨s1.heap.objs.size,[s1.heap.objs.size],_,_,H1,rfl,I1.kept (t':=s1.toks) fun b o e=>Qqb _ e,qc5 a _,⟨_,Qqr _ rfl,rfl,rfl⟩,fun b hb=>?_,q⟩
   have e:b=s1.heap.objs.size:=by simpa using hb
   subst e
   exact I1.fpOk (Qqc _) (I1.hok.fresh (Qqc _))
 ·subst e
  obtain⟨t,rfl⟩:=r1
  refine wpAny_pyIter_ascii ha ?_
  refine⟨s1.heap.objs.size,[s1.heap.objs.size],_,_,H1,rfl,I1.kept (t':=s1.toks) fun b o e=>Qqb _ e,qd1 z t _,⟨_,Qqr _ rfl,rfl,rfl⟩,fun b hb=>?_,q⟩
  have e:b=s1.heap.objs.size:=by simpa using hb
  subst e
  exact I1.fpOk (Qqc _) (I1.hok.fresh (Qqc _))
structure Glo where
 cs:List (Str×D)
 ds:List (Str×List Str×List D)
structure Ctx where
 N:List Str
 sc:Scope
 fns:List Str
 glo:Glo
noncomputable def qh8:M.B→String
 |.len=>"len"
 |.min=>"min"
 |.max=>"max"
 |.tuple=>"tuple"
 |.list=>"list"
 |.all=>"all"
 |.sorted=>"sorted"
 |.int=>"int"
 |.str=>"str"
 |.any=>"any"
noncomputable def bOk:M.B→Bool
 |.len=>true
 |.min=>true
 |.max=>false
 |.tuple=>true
 |.list=>false
 |.all=>true
 |.sorted=>true
 |.int=>true
 |.str=>true
 |.any=>true
noncomputable def qq0(scope sc:Scope):Scope:={ scope with names:=scope.names.map fun(n,k)=>if (k==NameKind.free&&sc.kind==.function&&sc.names.lookup n==some .cell) then(n,NameKind.cell) else(n,k) }
noncomputable def tlOk(N:List Str)(sc:Scope)(t:T):Bool:=t.slots.all fun i=>match N[i]? with
 |some x=>sc.names.lookup x==some .local
 |none=>false
theorem qk4{N:List Str}{sc:Scope}{t:T}(h:tlOk N sc t=true):∀ i∈t.slots,∀ x,N[i]?=some x→sc.names.lookup x=some .local:=by
 intro i hi x hx
 unfold tlOk at h
 have:=Qq3.mp h i hi
 rw[hx]at this
 simpa using this
def Star(p:Expr):Prop:=∀ es env,starEach (p::es) env=(false,eval p env)::starEach es env
inductive CkTys (c:Ctx):List M.Ty→List Expr→Prop
 |nil:CkTys c [] []
 |cons {t ts ps pos} (ht:t≠.non) (hg:c.sc.names.lookup (Str.ofString t.name)=some .globalImplicit) (h:CkTys c ts ps):CkTys c (t::ts) (.Name (Str.ofString t.name) pos::ps)
inductive CkTs (c:Ctx):List Nat→List Expr→Prop
 |nil:CkTs c [] []
 |cons {i x pos is es} (hN:c.N[i]?=some x) (hl:c.sc.names.lookup x=some .local∨c.sc.names.lookup x=some .cell) (h:CkTs c is es):CkTs c (i::is) (.Name x pos::es)
inductive CkT (c:Ctx):T→Expr→Prop
 |tup {is es k pos} (h:CkTs c is es):CkT c (.tup is) (.Tuple es k pos)
 |var {i x pos} (hN:c.N[i]?=some x) (hl:c.sc.names.lookup x=some .local∨c.sc.names.lookup x=some .cell):CkT c (.var i) (.Name x pos)
noncomputable def gcOk:Expr→Bool
 |.Call _ _ _ _=>true
 |.ListComp _ _ _ _=>true
 |.List _ _=>true
 |.BinOp _ _ _ _=>true
 |.Subscript _ _ _=>true
 |_=>false
inductive CkL (R:E→Expr→Prop):List E→List Expr→Prop
 |nil:CkL R [] []
 |cons {e es p ps} (h:R e p) (t:CkL R es ps):CkL R (e::es) (p::ps)
inductive CkP (R:E→Expr→Prop):List E→List (Option Expr)→List Expr→Prop
 |nil:CkP R [] [] []
 |cons {k v es pk pv ks vs} (hk:R k pk) (hv:R v pv) (t:CkP R es ks vs):CkP R (k::v::es) (some pk::ks) (pv::vs)
inductive CkO (R:E→Expr→Prop):Option E→Option Expr→Prop
 |none:CkO R none none
 |some {e p} (h:R e p):CkO R (some e) (some p)
inductive CkI (R:E→Expr→Prop):Ctx→Expr→E→Expr→Prop
 |rng1 {c tg a pa p0 pos} (hg:c.sc.names.lookup ("range" : Str)=some .globalImplicit) (ha:R a pa):CkI R c tg (.rng1 a) (.Call (.Name "range" p0) [pa] [] pos)
 |zip {c es k tp a b pa pb p0 pos} (no:False):CkI R c (.Tuple es k tp) (.zip a b) (.Call (.Name "zip" p0) [pa,pb] [] pos)
 |seq {c tg e p} (h:R e p):CkI R c tg e p
inductive CkF (R:Ctx→E→Expr→Prop):Ctx→E→Expr→Prop
 |var {c i x pos} (hN:c.N[i]?=some x) (hv:Vis c.sc x) (hd:(x==("__debug__" : Str))=false) (hcd:(x==("__classdict__" : Str))=false):CkF R c (.var i) (.Name x pos)
 |int {c i j pos}:CkF R c (.lit (.int i)) (.Constant (.int i) j pos)
 |bl {c i j pos}:CkF R c (.lit (.bl i)) (.Constant (.bool i) j pos)
 |non {c j pos}:CkF R c (.lit .non) (.Constant .none j pos)
 |str {c i j pos}:CkF R c (.lit (.str i)) (.Constant (.str i) j pos)
 |glo {c x d pos} (hg:c.sc.names.lookup x=some .globalImplicit) (hm:(x,d)∈c.glo.cs) (hd:(x==("__debug__" : Str))=false):CkF R c (.glo x d) (.Name x pos)
 |bin {c op a b pa pb pos} (ha:R c a pa) (hb:R c b pb):CkF R c (.bin op a b) (.BinOp pa op pb pos)
 |not {c a pa pos} (ha:R c a pa):CkF R c (.not a) (.UnaryOp .Not pa pos)
 |cmp {c op a b pa pb pos} (ha:R c a pa) (hb:R c b pb) (hm:behindInMarks op pb=false):CkF R c (.cmp op a b) (.Compare pa [op] [pb] pos)
 |and2 {c a b pa pb pos} (ha:R c a pa) (hb:R c b pb):CkF R c (.and a b) (.BoolOp .And [pa,pb] pos)
 |andN {c a b pa pb pd r pos} (ha:R c a pa) (hb:R c b (.BoolOp .And (pb::pd::r) pos)):CkF R c (.and a b) (.BoolOp .And (pa::pb::pd::r) pos)
 |or2 {c a b pa pb pos} (ha:R c a pa) (hb:R c b pb):CkF R c (.or a b) (.BoolOp .Or [pa,pb] pos)
 |orN {c a b pa pb pd r pos} (ha:R c a pa) (hb:R c b (.BoolOp .Or (pb::pd::r) pos)):CkF R c (.or a b) (.BoolOp .Or (pa::pb::pd::r) pos)
 |ite {c q a b pq pa pb pos} (hq:R c q pq) (ha:R c a pa) (hb:R c b pb):CkF R c (.ite q a b) (.IfExp pq pa pb pos)
 |tup {c es ps k pos} (h:CkL (R c) es ps):CkF R c (.tup es) (.Tuple ps k pos)
 |lst {c es ps pos} (h:CkL (R c) es ps):CkF R c (.lst es) (.List ps pos)
 |idx {c a b pa pb pos} (ha:R c a pa) (hb:R c b pb) (hs:qbt pb):CkF R c (.idx a b) (.Subscript pa pb pos)
 |call {c f x es p ps p0 pos} (hg:c.sc.names.lookup x=some .globalImplicit) (hf:c.fns[f]?=some x) (hd:(x==("__debug__" : Str))=false) (h:CkL (R c) es (p::ps)):CkF R c (.call f es) (.Call (.Name x p0) (p::ps) [] pos)
 |bcall {c b es p ps p0 pos} (hg:c.sc.names.lookup (Str.ofString (qh8 b))=some .globalImplicit) (hb:bOk b=true) (h:CkL (R c) es (p::ps)):CkF R c (.bcall b es) (.Call (.Name (Str.ofString (qh8 b)) p0) (p::ps) [] pos)
 |isi1 {c t a pa p0 p1 pos} (hg:c.sc.names.lookup ("isinstance" : Str)=some .globalImplicit) (ht:t≠.non) (hgt:c.sc.names.lookup (Str.ofString t.name)=some .globalImplicit) (ha:R c a pa):CkF R c (.isi a [t] false) (.Call (.Name "isinstance" p0) [pa,.Name (Str.ofString t.name) p1] [] pos)
 |isiN {c ts a pa p0 ps k p1 pos} (hl:ts.length≤1000) (hg:c.sc.names.lookup ("isinstance" : Str)=some .globalImplicit) (ht:CkTys c ts ps) (ha:R c a pa):CkF R c (.isi a ts true) (.Call (.Name "isinstance" p0) [pa,.Tuple ps k p1] [] pos)
 |append {c a e x xp pe apos cpos} (ha:R c a (.Name x xp)) (he:R c e pe) (hl:(apos.endLine==cpos.line)=true):CkF R c (.meth a .append [e]) (.Call (.Attribute (.Name x xp) "append" apos) [pe] [] cpos)
 |find {c a e pa pe apos cpos} (ha:R c a pa) (he:R c e pe) (hb:∀ env,attributeBase pa "find" env (eval pa env)=eval pa env) (hl:(apos.endLine==cpos.line)=true):CkF R c (.meth a .find [e]) (.Call (.Attribute pa "find" apos) [pe] [] cpos)
 |join {c a e pa pe apos cpos} (ha:R c a pa) (he:R c e pe) (hb:∀ env,attributeBase pa "join" env (eval pa env)=eval pa env) (hl:(apos.endLine==cpos.line)=true):CkF R c (.meth a .join [e]) (.Call (.Attribute pa "join" apos) [pe] [] cpos)
 |split {c a e pa pe apos cpos} (ha:R c a pa) (he:R c e pe) (hb:∀ env,attributeBase pa "split" env (eval pa env)=eval pa env) (hl:(apos.endLine==cpos.line)=true):CkF R c (.meth a .split [e]) (.Call (.Attribute pa "split" apos) [pe] [] cpos)
 |gc {c a p} (hp:gcOk p=true) (hg:∀ b,a≠.gc b) (ha:R c a p):CkF R c (.gc a) p
 |comp {c t it elt sr tg iter pelt scope pos N} (hk:scope.kind=.function) (hcell:∀ y∈scope.names,y.2≠.cell) (hfree:∀ y∈scope.names,y.2=.free→c.sc.names.lookup y.1=some .cell∨c.sc.names.lookup y.1=some .free) (hloc:∀ y∈scope.names,y.2=.local→scope.names.lookup y.1=some .local) (hlen:sr.length=N.length) (hsrc:∀ (j i:Nat),sr[j]?=some (some i)→∃ x,N[j]?=some x∧c.N[i]?=some x∧scope.names.lookup x=some .free) (hnd:N.Nodup) (hs:∀ env x,foldedSetIterable iter env x=pure x) (hi:CkI (R c) c tg it iter) (ht:CkT ⟨N,qq0 scope c.sc,c.fns,c.glo⟩ t tg) (htl:tlOk N (qq0 scope c.sc) t=true) (he:R ⟨N,qq0 scope c.sc,c.fns,c.glo⟩ elt pelt):CkF R c (.comp t it none elt sr) (.ListComp pelt [⟨tg,iter,[],0⟩] scope pos)
 |compIf {c t it q elt sr tg iter pq pelt scope pos N} (hk:scope.kind=.function) (hcell:∀ y∈scope.names,y.2≠.cell) (hfree:∀ y∈scope.names,y.2=.free→c.sc.names.lookup y.1=some .cell∨c.sc.names.lookup y.1=some .free) (hloc:∀ y∈scope.names,y.2=.local→scope.names.lookup y.1=some .local) (hlen:sr.length=N.length) (hsrc:∀ (j i:Nat),sr[j]?=some (some i)→∃ x,N[j]?=some x∧c.N[i]?=some x∧scope.names.lookup x=some .free) (hnd:N.Nodup) (hs:∀ env x,foldedSetIterable iter env x=pure x) (hi:CkI (R c) c tg it iter) (ht:CkT ⟨N,qq0 scope c.sc,c.fns,c.glo⟩ t tg) (htl:tlOk N (qq0 scope c.sc) t=true) (hq:R ⟨N,qq0 scope c.sc,c.fns,c.glo⟩ q pq) (he:R ⟨N,qq0 scope c.sc,c.fns,c.glo⟩ elt pelt):CkF R c (.comp t it (some q) elt sr) (.ListComp pelt [⟨tg,iter,[pq],0⟩] scope pos)
 |dic {c es k v ks vs pos} (h:CkP (R c) es (k::ks) (v::vs)) (h15:(k::ks).length≤15):CkF R c (.dic es) (.Dict (k::ks) (v::vs) pos)
 |dgt {c a b pa pb apos cpos} (ha:R c a pa) (hb:R c b pb) (hbs:∀ env,attributeBase pa "get" env (eval pa env)=eval pa env) (hl:(apos.endLine==cpos.line)=true) (htr:∀ env,backTo cpos (starEach [pb] env)=[(false,eval pb env)]):CkF R c (.dgt a b) (.Call (.Attribute pa "get" apos) [pb] [] cpos)
 |gidx {c x ks ds b pb p0 pos} (hg:c.sc.names.lookup x=some .globalImplicit) (hm:(x,ks,ds)∈c.glo.ds) (hd:(x==("__debug__" : Str))=false) (hb:R c b pb) (hs:NoSl pb):CkF R c (.gidx x ks ds b) (.Subscript (.Name x p0) pb pos)
 |gnin {c x ks ds b pb p0 pos} (hg:c.sc.names.lookup x=some .globalImplicit) (hm:(x,ks,ds)∈c.glo.ds) (hd:(x==("__debug__" : Str))=false) (hb:R c b pb):CkF R c (.gin true x ks b) (.Compare pb [.NotIn] [.Name x p0] pos)
 |sli {c a lo hi pa pl ph p2 pos} (ha:R c a pa) (hl:CkO (R c) lo pl) (hh:CkO (R c) hi ph):CkF R c (.sli a lo hi) (.Subscript pa (.Slice pl ph none p2) pos)
section
variable {R R':E→Expr→Prop}(k:∀ {e p},R e p→R' e p)
include k
theorem CkL.mono:∀ {es:List E}{ps:List Expr},CkL R es ps→CkL R' es ps
 |_,_,.nil=>.nil
 |_,_,.cons h t=>.cons (k h) (mono t)
theorem CkP.mono:∀ {es:List E}{ks:List (Option Expr)}{ps:List Expr},CkP R es ks ps→CkP R' es ks ps
 |_,_,_,.nil=>.nil
 |_,_,_,.cons h h' t=>.cons (k h) (k h') (mono t)
theorem CkO.mono{o:Option E}{p:Option Expr}(h:CkO R o p):CkO R' o p:=by
 cases h with
 |none=>exact .none
 |some h=>exact .some (k h)
theorem CkI.mono{c:Ctx}{tg:Expr}{e:E}{p:Expr}(h:CkI R c tg e p):CkI R' c tg e p:=by
 cases h with
 |rng1 hg ha=>exact .rng1 hg (k ha)
 |zip no=>exact no.elim
 |seq h=>exact .seq (k h)
end
theorem CkF.mono{R R':Ctx→E→Expr→Prop}(k:∀ {c e p},R c e p→R' c e p){c:Ctx}{e:E}{p:Expr}(h:CkF R c e p):CkF R' c e p:=by
 cases h with
 |var hN hv hd hcd=>exact .var hN hv hd hcd
 |int=>exact .int
 |bl=>exact .bl
 |non=>exact .non
 |str=>exact .str
 |glo hg hm hd=>exact .glo hg hm hd
 |bin ha hb=>exact .bin (k ha) (k hb)
 |not ha=>exact .not (k ha)
 |cmp ha hb hm=>exact .cmp (k ha) (k hb) hm
 |and2 ha hb=>exact .and2 (k ha) (k hb)
 |andN ha hb=>exact .andN (k ha) (k hb)
 |or2 ha hb=>exact .or2 (k ha) (k hb)
 |orN ha hb=>exact .orN (k ha) (k hb)
 |ite hq ha hb=>exact .ite (k hq) (k ha) (k hb)
 |tup h=>exact .tup (CkL.mono k h)
 |lst h=>exact .lst (CkL.mono k h)
 |idx ha hb hs=>exact .idx (k ha) (k hb) hs
 |call hg hf hd h=>exact .call hg hf hd (CkL.mono k h)
 |bcall hg hb h=>exact .bcall hg hb (CkL.mono k h)
 |isi1 hg ht hgt ha=>exact .isi1 hg ht hgt (k ha)
 |isiN hl hg ht ha=>exact .isiN hl hg ht (k ha)
 |append ha he hl=>exact .append (k ha) (k he) hl
 |find ha he hb hl=>exact .find (k ha) (k he) hb hl
 |join ha he hb hl=>exact .join (k ha) (k he) hb hl
 |split ha he hb hl=>exact .split (k ha) (k he) hb hl
 |gc hp hg ha=>exact .gc hp hg (k ha)
 |comp hk hcell hfree hloc hlen hsrc hnd hs hi ht htl he=>exact .comp hk hcell hfree hloc hlen hsrc hnd hs (CkI.mono k hi) ht htl (k he)
 |compIf hk hcell hfree hloc hlen hsrc hnd hs hi ht htl hq he=>exact .compIf hk hcell hfree hloc hlen hsrc hnd hs (CkI.mono k hi) ht htl (k hq) (k he)
 |dic h h15=>exact .dic (CkP.mono k h) h15
 |dgt ha hb hbs hl htr=>exact .dgt (k ha) (k hb) hbs hl htr
 |gidx hg hm hd hb hs=>exact .gidx hg hm hd (k hb) hs
 |gnin hg hm hd hb=>exact .gnin hg hm hd (k hb)
 |sli ha hl hh=>exact .sli (k ha) (CkO.mono k hl) (CkO.mono k hh)
def CkE(c:Ctx)(e:E)(p:Expr):Prop:=∀ R:Ctx→E→Expr→Prop,(∀ c e p,CkF R c e p→R c e p)→R c e p
theorem CkE.mk{c:Ctx}{e:E}{p:Expr}(h:CkF CkE c e p):CkE c e p:=fun R k=>k c e p (h.mono fun q=>q R k)
theorem CkE.out{c:Ctx}{e:E}{p:Expr}(h:CkE c e p):CkF CkE c e p:=h (CkF CkE) fun _ _ _ q=>q.mono CkE.mk
noncomputable abbrev CkEs(c:Ctx):=CkL (CkE c)
theorem CkE.v{c i x pos}(hN:c.N[i]?=some x:=by rfl)(hv:Vis c.sc x:=by exact .inl rfl)(hd:(x==("__debug__" : Str))=false:=by rfl)(hcd:(x==("__classdict__" : Str))=false:=by rfl):CkE c (.var i) (.Name x pos):=.mk (.var hN hv hd hcd)
theorem CkE.var{c i x pos}(hN:c.N[i]?=some x)(hv:Vis c.sc x)(hd:(x==("__debug__" : Str))=false)(hcd:(x==("__classdict__" : Str))=false):CkE c (.var i) (.Name x pos):=.mk (.var hN hv hd hcd)
theorem CkE.int{c i j pos}:CkE c (.lit (.int i)) (.Constant (.int i) j pos):=.mk (.int)
theorem CkE.bl{c i j pos}:CkE c (.lit (.bl i)) (.Constant (.bool i) j pos):=.mk (.bl)
theorem CkE.non{c j pos}:CkE c (.lit .non) (.Constant .none j pos):=.mk (.non)
theorem CkE.str{c i j pos}:CkE c (.lit (.str i)) (.Constant (.str i) j pos):=.mk (.str)
theorem CkE.glo{c x d pos}(hg:c.sc.names.lookup x=some .globalImplicit)(hm:(x,d)∈c.glo.cs)(hd:(x==("__debug__" : Str))=false):CkE c (.glo x d) (.Name x pos):=.mk (.glo hg hm hd)
theorem CkE.bin{c op a b pa pb pos}(ha:CkE c a pa)(hb:CkE c b pb):CkE c (.bin op a b) (.BinOp pa op pb pos):=.mk (.bin ha hb)
theorem CkE.not{c a pa pos}(ha:CkE c a pa):CkE c (.not a) (.UnaryOp .Not pa pos):=.mk (.not ha)
theorem CkE.cmp{c op a b pa pb pos}(ha:CkE c a pa)(hb:CkE c b pb)(hm:behindInMarks op pb=false:=by rfl):CkE c (.cmp op a b) (.Compare pa [op] [pb] pos):=.mk (.cmp ha hb hm)
theorem CkE.and2{c a b pa pb pos}(ha:CkE c a pa)(hb:CkE c b pb):CkE c (.and a b) (.BoolOp .And [pa,pb] pos):=.mk (.and2 ha hb)
theorem CkE.andN{c a b pa pb pd r pos}(ha:CkE c a pa)(hb:CkE c b (.BoolOp .And (pb::pd::r) pos)):CkE c (.and a b) (.BoolOp .And (pa::pb::pd::r) pos):=.mk (.andN ha hb)
theorem CkE.or2{c a b pa pb pos}(ha:CkE c a pa)(hb:CkE c b pb):CkE c (.or a b) (.BoolOp .Or [pa,pb] pos):=.mk (.or2 ha hb)
theorem CkE.orN{c a b pa pb pd r pos}(ha:CkE c a pa)(hb:CkE c b (.BoolOp .Or (pb::pd::r) pos)):CkE c (.or a b) (.BoolOp .Or (pa::pb::pd::r) pos):=.mk (.orN ha hb)
theorem CkE.ite{c q a b pq pa pb pos}(hq:CkE c q pq)(ha:CkE c a pa)(hb:CkE c b pb):CkE c (.ite q a b) (.IfExp pq pa pb pos):=.mk (.ite hq ha hb)
theorem CkE.tup{c es ps k pos}(h:CkL (CkE c) es ps):CkE c (.tup es) (.Tuple ps k pos):=.mk (.tup h)
theorem CkE.lst{c es ps pos}(h:CkL (CkE c) es ps):CkE c (.lst es) (.List ps pos):=.mk (.lst h)
theorem CkE.idx{c a b pa pb pos}(ha:CkE c a pa)(hb:CkE c b pb)(hs:qbt pb:=by exact fun _ _=>rfl):CkE c (.idx a b) (.Subscript pa pb pos):=.mk (.idx ha hb hs)
theorem CkE.call{c f x es p ps p0 pos}(h:CkL (CkE c) es (p::ps))(hg:c.sc.names.lookup x=some .globalImplicit:=by rfl)(hf:c.fns[f]?=some x:=by rfl)(hd:(x==("__debug__" : Str))=false:=by rfl):CkE c (.call f es) (.Call (.Name x p0) (p::ps) [] pos):=.mk (.call hg hf hd h)
theorem CkE.bcall{c b es p ps p0 pos}(h:CkL (CkE c) es (p::ps))(hg:c.sc.names.lookup (Str.ofString (qh8 b))=some .globalImplicit:=by rfl)(hb:bOk b=true:=by rfl):CkE c (.bcall b es) (.Call (.Name (Str.ofString (qh8 b)) p0) (p::ps) [] pos):=.mk (.bcall hg hb h)
theorem CkE.isi1{c t a pa p0 p1 pos}(ha:CkE c a pa)(hg:c.sc.names.lookup ("isinstance" : Str)=some .globalImplicit:=by rfl)(ht:t≠.non:=by decide)(hgt:c.sc.names.lookup (Str.ofString t.name)=some .globalImplicit:=by rfl):CkE c (.isi a [t] false) (.Call (.Name "isinstance" p0) [pa,.Name (Str.ofString t.name) p1] [] pos):=.mk (.isi1 hg ht hgt ha)
theorem CkE.isiN{c ts a pa p0 ps k p1 pos}(hl:ts.length≤1000)(hg:c.sc.names.lookup ("isinstance" : Str)=some .globalImplicit)(ht:CkTys c ts ps)(ha:CkE c a pa):CkE c (.isi a ts true) (.Call (.Name "isinstance" p0) [pa,.Tuple ps k p1] [] pos):=.mk (.isiN hl hg ht ha)
theorem CkE.append{c a e x xp pe apos cpos}(ha:CkE c a (.Name x xp))(he:CkE c e pe)(hl:(apos.endLine==cpos.line)=true):CkE c (.meth a .append [e]) (.Call (.Attribute (.Name x xp) "append" apos) [pe] [] cpos):=.mk (.append ha he hl)
theorem CkE.find{c a e pa pe apos cpos}(ha:CkE c a pa)(he:CkE c e pe)(hb:∀ env,attributeBase pa "find" env (eval pa env)=eval pa env)(hl:(apos.endLine==cpos.line)=true):CkE c (.meth a .find [e]) (.Call (.Attribute pa "find" apos) [pe] [] cpos):=.mk (.find ha he hb hl)
theorem CkE.join{c a e pa pe apos cpos}(ha:CkE c a pa)(he:CkE c e pe)(hb:∀ env,attributeBase pa "join" env (eval pa env)=eval pa env)(hl:(apos.endLine==cpos.line)=true):CkE c (.meth a .join [e]) (.Call (.Attribute pa "join" apos) [pe] [] cpos):=.mk (.join ha he hb hl)
theorem CkE.split{c a e pa pe apos cpos}(ha:CkE c a pa)(he:CkE c e pe)(hb:∀ env,attributeBase pa "split" env (eval pa env)=eval pa env)(hl:(apos.endLine==cpos.line)=true):CkE c (.meth a .split [e]) (.Call (.Attribute pa "split" apos) [pe] [] cpos):=.mk (.split ha he hb hl)
theorem CkE.gc{c a p}(ha:CkE c a p)(hp:gcOk p=true:=by rfl)(hg:∀ b,a≠.gc b:=by exact fun _ z=>nomatch z):CkE c (.gc a) p:=.mk (.gc hp hg ha)
theorem CkE.comp{c t it elt sr tg iter pelt scope pos N}(hi:CkI (CkE c) c tg it iter)(ht:CkT ⟨N,qq0 scope c.sc,c.fns,c.glo⟩ t tg)(he:CkE ⟨N,qq0 scope c.sc,c.fns,c.glo⟩ elt pelt)(hk:scope.kind=.function:=by rfl)(hcell:∀ y∈scope.names,y.2≠.cell:=by decide +kernel)(hfree:∀ y∈scope.names,y.2=.free→c.sc.names.lookup y.1=some .cell∨c.sc.names.lookup y.1=some .free:=by decide +kernel)(hloc:∀ y∈scope.names,y.2=.local→scope.names.lookup y.1=some .local:=by decide +kernel)(hlen:sr.length=N.length:=by rfl)(hsrc:∀ (j i:Nat),sr[j]?=some (some i)→∃ x,N[j]?=some x∧c.N[i]?=some x∧scope.names.lookup x=some .free:=by exact qik (by decide +kernel))(hnd:N.Nodup:=by decide +kernel)(hs:∀ env x,foldedSetIterable iter env x=pure x:=by exact fun _ _=>rfl)(htl:tlOk N (qq0 scope c.sc) t=true:=by decide +kernel):CkE c (.comp t it none elt sr) (.ListComp pelt [⟨tg,iter,[],0⟩] scope pos):=.mk (.comp hk hcell hfree hloc hlen hsrc hnd hs hi ht htl he)
theorem CkE.compIf{c t it q elt sr tg iter pq pelt scope pos N}(hi:CkI (CkE c) c tg it iter)(ht:CkT ⟨N,qq0 scope c.sc,c.fns,c.glo⟩ t tg)(hq:CkE ⟨N,qq0 scope c.sc,c.fns,c.glo⟩ q pq)(he:CkE ⟨N,qq0 scope c.sc,c.fns,c.glo⟩ elt pelt)(hk:scope.kind=.function:=by rfl)(hcell:∀ y∈scope.names,y.2≠.cell:=by decide +kernel)(hfree:∀ y∈scope.names,y.2=.free→c.sc.names.lookup y.1=some .cell∨c.sc.names.lookup y.1=some .free:=by decide +kernel)(hloc:∀ y∈scope.names,y.2=.local→scope.names.lookup y.1=some .local:=by decide +kernel)(hlen:sr.length=N.length:=by rfl)(hsrc:∀ (j i:Nat),sr[j]?=some (some i)→∃ x,N[j]?=some x∧c.N[i]?=some x∧scope.names.lookup x=some .free:=by exact qik (by decide +kernel))(hnd:N.Nodup:=by decide +kernel)(hs:∀ env x,foldedSetIterable iter env x=pure x:=by exact fun _ _=>rfl)(htl:tlOk N (qq0 scope c.sc) t=true:=by decide +kernel):CkE c (.comp t it (some q) elt sr) (.ListComp pelt [⟨tg,iter,[pq],0⟩] scope pos):=.mk (.compIf hk hcell hfree hloc hlen hsrc hnd hs hi ht htl hq he)
theorem CkE.dic{c es k v ks vs pos}(h:CkP (CkE c) es (k::ks) (v::vs))(h15:(k::ks).length≤15):CkE c (.dic es) (.Dict (k::ks) (v::vs) pos):=.mk (.dic h h15)
theorem CkE.dgt{c a b pa pb apos cpos}(ha:CkE c a pa)(hb:CkE c b pb)(hbs:∀ env,attributeBase pa "get" env (eval pa env)=eval pa env)(hl:(apos.endLine==cpos.line)=true)(htr:∀ env,backTo cpos (starEach [pb] env)=[(false,eval pb env)]):CkE c (.dgt a b) (.Call (.Attribute pa "get" apos) [pb] [] cpos):=.mk (.dgt ha hb hbs hl htr)
theorem CkE.gidx{c x ks ds b pb p0 pos}(hg:c.sc.names.lookup x=some .globalImplicit)(hm:(x,ks,ds)∈c.glo.ds)(hd:(x==("__debug__" : Str))=false)(hb:CkE c b pb)(hs:NoSl pb):CkE c (.gidx x ks ds b) (.Subscript (.Name x p0) pb pos):=.mk (.gidx hg hm hd hb hs)
theorem CkE.gnin{c x ks ds b pb p0 pos}(hg:c.sc.names.lookup x=some .globalImplicit)(hm:(x,ks,ds)∈c.glo.ds)(hd:(x==("__debug__" : Str))=false)(hb:CkE c b pb):CkE c (.gin true x ks b) (.Compare pb [.NotIn] [.Name x p0] pos):=.mk (.gnin hg hm hd hb)
theorem CkE.sli{c a lo hi pa pl ph p2 pos}(ha:CkE c a pa)(hl:CkO (CkE c) lo pl)(hh:CkO (CkE c) hi ph):CkE c (.sli a lo hi) (.Subscript pa (.Slice pl ph none p2) pos):=.mk (.sli ha hl hh)
mutual
inductive CkS:Ctx→S→Stmt→Prop
 |set {c i e x p pos pos'} (hN:c.N[i]?=some x) (hl:c.sc.names.lookup x=some .local∨c.sc.names.lookup x=some .cell) (h:CkE c e p) (hs:∀ env,swapsWith p (some (.Name x pos')) pos.line env=pure false):CkS c (.set (.var i) e) (.Assign [.Name x pos'] p pos)
 |setC {c i e x p pos pos'} (hN:c.N[i]?=some x) (hl:c.sc.names.lookup x=some .local∨c.sc.names.lookup x=some .cell) (h:CkE c e p) (hc:∃ elt gs sc q,p=.ListComp elt gs sc q) (hs:∀ env:Env,env.scope=c.sc→(swapsWith p (some (.Name x pos')) pos.line env=pure false∨swapsWith p (some (.Name x pos')) pos.line env=pure true)):CkS c (.set (.var i) e) (.Assign [.Name x pos'] p pos)
 |dset {c a i e pa pi pe tpos pos} (ha:CkE c a pa) (hi:CkE c i pi) (he:CkE c e pe) (hs:∀ env,swapsWith pe (some (.Subscript pa pi tpos)) pos.line env=pure false):CkS c (.dset a i e) (.Assign [.Subscript pa pi tpos] pe pos)
 |rais {c msg j p1 np cpos pos} (hg:c.sc.names.lookup ("BadText" : Str)=some .globalImplicit):CkS c .rais (.Raise (some (.Call (.Name "BadText" np) [.Constant (.str msg) j p1] [] cpos)) none pos)
 |expr {c e p pos} (h:CkE c e p) (hs:∀ env,swapsWith p none pos.line env=pure false):CkS c (.expr e) (.Expr p pos)
 |ret {c e p pos} (h:CkE c e p):CkS c (.ret e) (.Return (some p) pos)
 |ite {c q a b pq pa pb pos} (hq:CkE c q pq) (ha:CkSs c a pa) (hb:CkSs c b pb):CkS c (.ite q a b) (.If pq pa pb pos)
 |forr {c t it body tg iter pb pos} (ht:CkT c t tg) (hi:CkI (CkE c) c tg it iter) (hs:∀ env x,foldedSetIterable iter env x=pure x) (hb:CkSs c body pb):CkS c (.forr t it body) (.For tg iter pb [] pos)
inductive CkSs:Ctx→List S→List Stmt→Prop
 |nil {c}:CkSs c [] []
 |cons {c s ss p ps} (h:CkS c s p) (t:CkSs c ss ps):CkSs c (s::ss) (p::ps)
 |doc {c ss x j pos pos' ps} (t:CkSs c ss ps):CkSs c ss (.Expr (.Constant (.str x) j pos) pos'::ps)
end
theorem CkS.st{c i e x p pos pos'}(h:CkE c e p)(hN:c.N[i]?=some x:=by rfl)(hl:c.sc.names.lookup x=some .local∨c.sc.names.lookup x=some .cell:=by exact .inl rfl)(hs:∀ env,swapsWith p (some (.Name x pos')) pos.line env=pure false:=by exact fun _=>rfl):CkS c (.set (.var i) e) (.Assign [.Name x pos'] p pos):=.set hN hl h hs
theorem CkE.star{c:Ctx}{e:E}{p:Expr}(h:CkE c e p):Star p:=by
 cases h.out with
 |gc hp hg ha=>
  cases p with
  |Call=>exact fun _ _=>rfl
  |ListComp=>exact fun _ _=>rfl
  |List=>exact fun _ _=>rfl
  |BinOp=>exact fun _ _=>rfl
  |Subscript=>exact fun _ _=>rfl
  |_=>cases hp
 |_=>exact fun _ _=>rfl
noncomputable def spN(K:Qqq)(fns:List Fn)(n f:Nat):Sp:=fun vs H Q _=>∃ m st ds d st',Rel K m st H∧IsDs K m H ds vs∧M.callD fns n f ds st=some (d,st')∧Post K m H d st' Q
def FTab(P:Program)(w:World)(K:Qqq)(mg:Str→Option Value)(base:Heap)(fns:List Fn)(names:List Str)(n:Nat):Prop:=∀ (f:Nat) (x:Str),names[f]?=some x→∃ (fa:Addr) (fd:FuncData) (ps:List Str),
 mg x=some (.ref fa)∧FnOk P w K mg base CX0 n fa fd ps (spN K fns n f)∧Qzw K (.ref fa)=true∧Binds K fd ps []
structure Mo (K:Qqq) (mg:Str→Option Value) (glo:Glo) (prm:Params):Prop where
 gds:∀ x ks ds,(x,ks,ds)∈glo.ds→∃ a,mg x=some (.ref a)∧FDict prm K a ks ds
 glo:∀ x d,(x,d)∈glo.cs→∃ u v,mg x=some u∧RelV v u∧∀ m H,IsD K m H d v
 len:mg "len" = none
 min:mg "min" = none
 max:mg "max" = none
 tuple:mg "tuple" = none
 list:mg "list" = none
 all:mg "all" = none
 sorted:mg "sorted" = none
 isinstance:mg "isinstance" = none
 range:mg "range" = none
 int:mg "int" = none
 bool:mg "bool" = none
 str:mg "str" = none
 zip:mg "zip" = none
 any:mg "any" = none
 enumerate:mg "enumerate" = none
 reversed:mg "reversed" = none
 sum:mg "sum" = none
 set:mg "set" = none
 dict:mg "dict" = none
structure Good (fns:List Fn) (dl:Nat) (c:Ctx) (X:Cx):Prop where
 room:Room dl X.A
 calm:X.calm=true
 N:X.N=c.N
 sc:X.env.scope=c.sc
 nd:c.N.Nodup
 kind:c.sc.kind=.function
 tab:FTab X.prog X.w X.K X.mg X.base fns c.fns dl
 mo:Mo X.K X.mg c.glo X.w.params
 xe:X.xe=fun _ _=>False
end MS
end
section
namespace MS
open PySem PySem.Spec PyProof.Rows L2
open M (D Cell Store Sl E S T Src Fn Out R)
theorem qwt{c:Ctx}:∀ {es:List E}{ps:List Expr},CkEs c es ps→∀ (pos:Pos) (env:Env),(backTo pos (starEach ps env)).any (·.1)=false
 |_,_,.nil,_,_=>rfl
 |_,_,.cons h t,pos,env=>by
  rw[h.star]
  show(false||(backTo pos (starEach _ env)).any (·.1))=false
  rw[qwt t pos env]
  rfl
theorem Good.gl{fns:List Fn}{dl:Nat}{c:Ctx}{X:Cx}(G:Good fns dl c X){x:Str}(h:c.sc.names.lookup x=some .globalImplicit):Gl X x:=by
 show X.env.scope.names.lookup x=_
 rw[G.sc]; exact h
theorem qdj{scope sc:Scope}{env:Env}(h:env.scope=sc):relabel scope env=qq0 scope sc:=by
 unfold relabel qq0 Env.kindOf
 rw[h]
theorem Good.inner{fns:List Fn}{dl:Nat}{c:Ctx}{X:Cx}(G:Good fns dl c X){N:List Str}{scope:Scope}{C:Addr}{fp:List Addr}{s:Shared}{H:Hp}(hk:scope.kind=.function)(hnd:N.Nodup):Good fns dl ⟨N,qq0 scope c.sc,c.fns,c.glo⟩ (qzd X N scope C fp s H):=
 ⟨G.room,G.calm,rfl,qdj G.sc,hnd,hk,G.tab,G.mo,rfl⟩
noncomputable def IsRow(K:Qqq)(m:List Addr)(H:Hp)(k:RK)(a:Addr):D→Prop
 |.tup ds=>k=.tup∧∃ xs,SqT K H a xs∧IsDs K m H ds xs
 |.loc l=>k=.lst∧m[l]?=some a
 |.lst ds=>k=.lst∧∃ xs,SqF K H a xs∧IsDs K m H ds xs
 |_=>False
theorem IsRow.mono{K:Qqq}{m m':List Addr}{H H':Hp}{k:RK}{a:Addr}{d:D}(h:IsRow K m H k a d)(b:Sub m m')(t:Tr H H'):IsRow K m' H' k a d:=by
 cases d with
 |tup ds=>obtain⟨e,xs,q,r⟩:=h; exact⟨e,xs,t.sqT q,qza b t ds xs r⟩
 |loc l=>exact⟨h.1,b l a h.2⟩
 |lst ds=>obtain⟨e,xs,q,r⟩:=h; exact⟨e,xs,t.sqF q,qza b t ds xs r⟩
 |_=>exact h.elim
theorem IsRow.sq{K:Qqq}{m:List Addr}{st:Store}{H:Hp}{k:RK}{a:Addr}{d:D}{ds:List D}(h:IsRow K m H k a d)(R0:Rel K m st H)(e:M.rowAt st d=some ds):∃ xs,k.sq K H a xs∧IsDs K m H ds xs:=by
 cases d with
 |tup es=>
  cases e
  obtain⟨rfl,xs,q,r⟩:=h
  exact⟨xs,q,r⟩
 |loc l=>
  obtain⟨rfl,ha⟩:=h
  obtain⟨a',xs,ha',z,q,r⟩:=R0.list e (qmq ha)
  cases z
  exact⟨xs,q,r⟩
 |lst es=>
  cases e
  obtain⟨rfl,xs,q,r⟩:=h
  exact⟨xs,q.sq,r⟩
 |_=>exact h.elim
theorem IsRow.sq'{K:Qqq}{m:List Addr}{st:Store}{H:Hp}{a:Addr}{d:D}{ds:List D}(h:IsRow K m H .lst a d)(R0:Rel K m st H)(e:M.seqAt st d=some ds):∃ xs,SqL K H a xs∧IsDs K m H ds xs:=by
 cases d with
 |loc l=>exact h.sq R0 e
 |lst l=>exact h.sq R0 e
 |_=>cases e
theorem qy3{K:Qqq}{m:List Addr}{st:Store}{H:Hp}{d:D}{v:V}{ds:List D}(iv:MS.IsD K m H d v)(R0:Rel K m st H)(e:M.seqAt st d=some ds):∃ a,v=.ref a∧IsRow K m H .lst a d∧∃ xs,SqL K H a xs:=by
 cases d with
 |loc l=>
  obtain⟨a,xs,ha,rfl,q,r⟩:=R0.list e iv
  exact⟨a,rfl,⟨rfl,ha⟩,xs,q⟩
 |lst l=>
  obtain⟨a,xs,rfl,q,r⟩:=iv.lst
  exact⟨a,rfl,⟨rfl,xs,q,r⟩,xs,q.sq⟩
 |_=>cases e
noncomputable def IsSrc(K:Qqq)(m:List Addr)(H:Hp):Src→It→Prop
 |.rng lo n,J=>J=Itr lo n
 |.tup ds,J=>∃ a xs,J=Itt K a∧SqT K H a xs∧IsDs K m H ds xs
 |.lst d,J=>∃ a,IsRow K m H .lst a d∧J=Itl K a
 |.str z,J=>J=Its z
 |.rgs lo c n,J=>False
 |.zip x y,J=>False
theorem IsSrc.mono{K:Qqq}{m m':List Addr}{H H':Hp}{s:Src}{J:It}(h:IsSrc K m H s J)(b:Sub m m')(t:Tr H H'):IsSrc K m' H' s J:=by
 cases s with
 |rng lo n=>exact h
 |tup ds=>obtain⟨a,xs,e,q,r⟩:=h; exact⟨a,xs,e,t.sqT q,qza b t ds xs r⟩
 |lst l=>obtain⟨a,e,q⟩:=h; exact⟨a,e.mono b t,q⟩
 |str z=>exact h
 |rgs lo c n=>exact h.elim
 |zip x y=>exact h.elim
theorem IsSrc.done{K:Qqq}{m:List Addr}{st:Store}{H:Hp}{s:Src}{J:It}{i:Nat}(h:IsSrc K m H s J)(R0:Rel K m st H)(e:s.at st i=some none):J.stop i H:=by
 cases s with
 |rng lo n=>
  cases h
  simp only[Src.at]at e
  split at e
  ·cases e
  ·rename_i q
   exact Nat.not_lt.mp q
 |rgs lo c n=>exact h.elim
 |tup ds=>
  obtain⟨a,xs,rfl,q,r⟩:=h
  simp only[Src.at,Option.some.injEq]at e
  exact⟨xs,q,by rw[← r.length]; exact Qxq.mp e⟩
 |lst l=>
  obtain⟨a,ha,rfl⟩:=h
  simp only[Src.at]at e
  obtain⟨ds,e1,e2⟩:=mapD e
  obtain⟨xs,q,r⟩:=ha.sq' R0 e1
  exact⟨xs,q,by rw[← r.length]; exact Qxq.mp e2⟩
 |str z=>
  cases h
  simp only[Src.at,Option.some.injEq]at e
  have:=Qxq.mp e
  rw[Qqj]at this
  exact this
 |zip x y=>exact h.elim
theorem IsSrc.next{K:Qqq}{m:List Addr}{st:Store}{H:Hp}{s:Src}{J:It}{i:Nat}{d:D}(h:IsSrc K m H s J)(R0:Rel K m st H)(e:s.at st i=some (some d)):J.go i H∧∀ x H',J.yld i H x H'→Same H H'∧MS.IsD K m H' d x:=by
 cases s with
 |rng lo n=>
  cases h
  simp only[Src.at,Option.some.injEq]at e
  split at e
  ·rename_i q
   cases e
   refine⟨q,?_⟩
   rintro x H' ⟨rfl,rfl⟩
   exact⟨fun _ _ z=>z,mkInt _⟩
  ·cases e
 |rgs lo c n=>exact h.elim
 |tup ds=>
  obtain⟨a,xs,rfl,q,r⟩:=h
  simp only[Src.at,Option.some.injEq]at e
  obtain⟨x,ex,ix⟩:=r.get e
  refine⟨⟨xs,x,q,ex⟩,?_⟩
  rintro y H' ⟨rfl,z⟩
  have:=z xs q
  rw[ex]at this
  cases this
  exact⟨fun _ _ z=>z,ix⟩
 |lst l=>
  obtain⟨a,ha,rfl⟩:=h
  simp only[Src.at]at e
  obtain⟨ds,e1,e2⟩:=mapD e
  obtain⟨xs,q,r⟩:=ha.sq' R0 e1
  obtain⟨x,ex,ix⟩:=r.get e2
  refine⟨⟨xs,x,q,ex⟩,?_⟩
  rintro y H' ⟨rfl,z⟩
  have:=z xs q
  rw[ex]at this
  cases this
  exact⟨fun _ _ z=>z,ix⟩
 |str z=>
  cases h
  simp only[Src.at,Option.some.injEq]at e
  rw[Qqn]at e
  cases hc:z.cps.toList[i]? with
  |none=>rw[hc]at e; cases e
  |some c=>
   rw[hc]at e
   cases e
   refine⟨(Qqd.mp hc).1,?_⟩
   rintro x H' ⟨rfl,c',hc',rfl⟩
   rw[hc]at hc'
   cases hc'
   exact⟨fun _ _ w=>w,mkStr _⟩
 |zip u v=>exact h.elim
noncomputable def tI(K:Qqq)(f:Sl→Store→Option (Src×Store)):TI:=fun σ H R=>∃ m st τ s st',Rel K m st H∧SlotOk K m H τ σ∧f τ st=some (s,st')∧∀ m' H' J,Sub m m'→Tr H H'→Rel K m' st' H'→IsSrc K m' H' s J→R J H'
theorem tI.el{K:Qqq}{f:Sl→Store→Option (Src×Store)}{σ:L2.St}{H:Hp}{Q:It→Hp→Prop}{P:Prop}(h:tI K f σ H Q)(k:∀ m st τ s st',Rel K m st H→SlotOk K m H τ σ→f τ st=some (s,st')→(∀ m' H' J,Sub m m'→Tr H H'→Rel K m' st' H'→IsSrc K m' H' s J→Q J H')→P):P:=by
 rcases h with⟨m,st,τ,d,st',a,b,c,e⟩
 exact k m st τ d st' a b c e
theorem _root_.L2.PI.imp{X:Cx}{tg e:Expr}{t t':TI}(h:PI X tg e t)(f:∀ σ H R,t' σ H R→t σ H R):PI X tg e t':=fun pins s σ H Q I q=>h pins s σ H Q I (f σ H Q q)
def PostO(K:Qqq)(m:List Addr)(H:Hp)(o:Out)(st':Store)(Dn:Ends):Prop:=∀ m' H',Sub m m'→Tr H H'→Rel K m' st' H'→match o with
 |.nx τ=>∀ σ',SlotOk K m' H' τ σ'→Dn.nx σ' H'
 |.rt d=>∀ v,IsD K m' H' d v→Dn.rt v H'
 |.bk τ=>∀ σ',SlotOk K m' H' τ σ'→Dn.bk σ' H'
 |.ct τ=>∀ σ',SlotOk K m' H' τ σ'→Dn.ct σ' H'
theorem PostO.mono{K:Qqq}{m m1:List Addr}{H H1:Hp}{o:Out}{st':Store}{Dn:Ends}(p:PostO K m H o st' Dn)(s:Sub m m1)(t:Tr H H1):PostO K m1 H1 o st' Dn:=fun m' H' s' t' r=>p m' H' (s.trans s') (t.trans t') r
noncomputable def tS(K:Qqq)(f:Sl→Store→Option (Out×Store)):TS:=fun Dn σ H=>∃ m st τ o st',Rel K m st H∧SlotOk K m H τ σ∧f τ st=some (o,st')∧PostO K m H o st' Dn
theorem tS.el{K:Qqq}{f:Sl→Store→Option (Out×Store)}{σ:L2.St}{H:Hp}{Dn:Ends}{P:Prop}(h:tS K f Dn σ H)(k:∀ m st τ o st',Rel K m st H→SlotOk K m H τ σ→f τ st=some (o,st')→PostO K m H o st' Dn→P):P:=by
 rcases h with⟨m,st,τ,d,st',a,b,c,e⟩
 exact k m st τ d st' a b c e
structure AllOk (fns:List Fn) (dl n:Nat):Prop where
 e:∀ c X,Good fns dl c X→∀ e p,CkE c e p→PE X p (tD X.K fun τ st=>(M.rn fns dl n).ev τ st e)
 t:∀ c X,Good fns dl c X→∀ e p,CkE c e p→PT X p (tTs X.K fun τ st=>(M.rn fns dl n).tst τ st e)
 w:∀ c X,Good fns dl c X→∀ e op ps pos,CkE c e (.BoolOp op ps pos)→PW X (.BoolOp op ps pos) (tTs X.K fun τ st=>(M.rn fns dl n).tst τ st e)
 s:∀ c X,Good fns dl c X→(∀ x,X.fn x=true)→∀ ss ps,CkSs c ss ps→PSs X ps (tS X.K fun τ st=>(M.rn fns dl n).ex τ st ss)
theorem qdn(fns:List Fn)(dl:Nat):AllOk fns dl 0 where
 e:=fun c X G e p h pins s σ H Q I q=>by obtain⟨m,st,τ,d,st',_,_,z,_⟩:=q; cases z
 t:=fun c X G e p h pins s σ H Q I q=>by obtain⟨m,st,τ,d,st',_,_,z,_⟩:=q; cases z
 w:=fun c X G e op ps pos h wh pins s σ H Q I q=>by obtain⟨m,st,τ,d,st',_,_,z,_⟩:=q; cases z
 s:=fun c X G hf ss ps h pins s σ H Q I q=>by obtain⟨m,st,τ,d,st',_,_,z,_⟩:=q; cases z
section
variable {fns:List Fn}{dl n:Nat}{c:Ctx}{X:Cx}
theorem qz9(A:AllOk fns dl n)(G:Good fns dl c X):∀ {es:List E}{ps:List Expr},CkEs c es ps→PA X ps (tL X.K fun τ st=>M.evs ((M.rn fns dl n).ev τ) es st)
 |_,_,.nil=>pa_nil.imp fun _ _ _ h=>tL_nil h
 |_,_,.cons (e:=e) (es:=es) h t=>(qqv (A.e c X G _ _ h) (qz9 A G t) (h.star _ _)).imp fun _ _ _ q=>
   qi9 (fa:=fun τ st=>(M.rn fns dl n).ev τ st e) (fr:=fun τ st=>M.evs ((M.rn fns dl n).ev τ) es st) q
noncomputable def qib:E→Bool
 |.rng1 _=>false
 |.rng2 _ _=>false
 |.rng3 _ _ _=>false
 |.zip _ _=>false
 |_=>true
theorem CkF.plain{R:Ctx→E→Expr→Prop}{c:Ctx}{e:E}{p:Expr}(h:CkF R c e p):qib e=true:=by cases h<;>rfl
theorem qd9{e:E}(h:qib e=true)(r:R)(τ:Sl)(st:Store):M.src r τ st e=(r.ev τ st e).bind fun p=>match p.1 with
   |.tup ds=>some (.tup ds,p.2)
   |.str z=>if z.cps.all (· < 128) then some (.str z,p.2) else none
   |d=>(M.seqAt p.2 d).map fun _=>(.lst d,p.2):=by
 cases e with
 |rng1 _=>cases h
 |rng2 _ _=>cases h
 |rng3 _ _ _=>cases h
 |zip _ _=>cases h
 |_=>rfl
theorem qkz(A:AllOk fns dl n)(G:Good fns dl c X){it:E}{tg iter:Expr}(h:CkI (CkE c) c tg it iter):PI X tg iter (tI X.K fun τ st=>M.src (M.rn fns dl n) τ st it):=by
 have seq:∀ {e p},CkE c e p→(∀ τ st,M.src (M.rn fns dl n) τ st e=((M.rn fns dl n).ev τ st e).bind fun p=>match p.1 with
   |.tup ds=>some (.tup ds,p.2)
   |.str z=>if z.cps.all (· < 128) then some (.str z,p.2) else none
   |d=>(M.seqAt p.2 d).map fun _=>(.lst d,p.2))→PI X tg p (tI X.K fun τ st=>M.src (M.rn fns dl n) τ st e):=by
  intro e p he hsrc
  refine(pi_seq (A.e c X G e p he)).imp fun σ H R q=>?_
  refine q.el fun m st τ s st' R0 S0 e1 q=>?_
  have e1:=(hsrc τ st).symm.trans e1
  obtain⟨d,s1,e2,e1⟩:=qzr e1
  refine⟨m,st,τ,d,s1,R0,S0,e2,fun x m1 H1 b1 t1 R1 i1=>?_⟩
  cases d with
  |tup ds=>
   cases e1
   obtain⟨a,xs,rfl,hq,ix⟩:=i1.tup
   exact .inl ⟨a,rfl,.inr ⟨⟨xs,hq⟩,q m1 H1 _ b1 t1 R1 ⟨a,xs,rfl,hq,ix⟩⟩⟩
  |loc l=>
   obtain⟨ds,e3,e4⟩:=mapD e1
   cases e4
   obtain⟨a,rfl,ha,xs,hq⟩:=qy3 i1 R1 e3
   exact .inl ⟨a,rfl,.inl ⟨⟨xs,hq⟩,q m1 H1 _ b1 t1 R1 ⟨a,ha,rfl⟩⟩⟩
  |lst l=>
   obtain⟨ds,e3,e4⟩:=mapD e1
   cases e4
   obtain⟨a,rfl,ha,xs,hq⟩:=qy3 i1 R1 e3
   exact .inl ⟨a,rfl,.inl ⟨⟨xs,hq⟩,q m1 H1 _ b1 t1 R1 ⟨a,ha,rfl⟩⟩⟩
  |str z=>
   dsimp only at e1
   split at e1
   ·rename_i hz
    cases e1
    exact .inr ⟨z,i1.str,hz,q m1 H1 _ b1 t1 R1 rfl⟩
   ·cases e1
  |_=>cases e1
 cases h with
 |@rng1 _ a pa p0 pos hg ha=>
  refine(qei (G.gl hg) G.mo.range (qz9 A G (.cons ha .nil)) (by rw[ha.star]; rfl)).imp fun σ H R q=>?_
  refine q.el fun m st τ s st' R0 S0 e1 q=>?_
  have e1:(((M.rn fns dl n).ev τ st a).bind fun p=>match p.1 with
   |.int n=>if M.big n then none else some (Src.rng 0 n.toNat,p.2)
   |_=>none)=some (s,st'):=e1
  obtain⟨d,s1,e2,e1⟩:=qzr e1
  cases d with
  |int k=>
   dsimp only at e1
   split at e1
   ·cases e1
   ·rename_i hb
    cases e1
    unfold M.big at hb
    simp only[Qx1,decide_eq_true_eq,not_or]at hb
    refine⟨m,st,τ,[.int k],st',R0,S0,?_,fun xs m1 H1 b1 t1 R1 i1=>?_⟩
    ·show(((M.rn fns dl n).ev τ st a).bind fun p=>(some (([]:List D),p.2)).bind fun q=>some (p.1::q.1,q.2))=_
     rw[e2]; rfl
    ·obtain⟨x,rfl,ix⟩:=i1.one
     cases ix.int
     exact⟨k,rfl,by omega,by omega,q m1 H1 _ b1 t1 R1 rfl⟩
  |_=>cases e1
 |@zip ts k tp a b pa pb p0 pos no=>exact no.elim
 |@seq _ e p he=>
  exact seq he (qd9 he.out.plain _)
theorem po_ok(A:AllOk fns dl n)(G:Good fns dl c X){o:Option E}{p:Option Expr}(h:CkO (CkE c) o p):PO X p (fun σ H Q=>∃ m st τ l st',Rel X.K m st H∧SlotOk X.K m H τ σ∧M.part (M.rn fns dl n) τ st o=some (l,st')∧∀ m' H',Sub m m'→Tr H H'→Rel X.K m' st' H'→Q l H'):=by
 cases h with
 |none=>
  intro pins s σ H Q I q
  obtain⟨m,st,τ,l,st',R0,S0,e,k⟩:=q
  cases e
  exact qlr pins s σ H Q I (k m H (Sub.refl m) (Tr.refl H) R0)
 |@some e p h=>
  intro pins s σ H Q I q
  obtain⟨m,st,τ,l,st',R0,S0,e0,k⟩:=q
  have e0:(((M.rn fns dl n).ev τ st e).bind fun p=>match p.1 with
   |.int i=>some (some i,p.2)
   |_=>none)=some (l,st'):=e0
  obtain⟨d,s1,e1,e2⟩:=qzr e0
  cases d with
  |int i=>
   cases e2
   exact qlp (A.e c X G e p h) pins s σ H Q I ⟨m,st,τ,.int i,s1,R0,S0,e1,fun v m' H' b t R1 iv=>⟨i,iv.int,k m' H' b t R1⟩⟩
  |_=>cases e2
noncomputable def gIs:List Nat→TGs
 |[]=>gNil
 |i::is=>gCons (qba i) (gIs is)
noncomputable def gT(K:Qqq):T→TG
 |.var i=>qba i
 |.tup is=>gTup K is.length (gIs is)
theorem qil{K:Qqq}{m:List Addr}{H:Hp}{Q:L2.St→Hp→Prop}:∀ {is:List Nat}{ds:List D}{xs:List V}{τ τ':Sl}{σ:L2.St},IsDs K m H ds xs→SlotOk K m H τ σ→M.setIs is ds τ=some τ'→(∀ σ',SlotOk K m H τ' σ'→Q σ' H)→gIs is xs σ H Q
 |[],[],xs,τ,τ',σ,ix,S0,e,k=>by
  cases e
  exact⟨ix.nil,k σ S0⟩
 |i::is,d::ds,xs,τ,τ',σ,ix,S0,e,k=>by
  obtain⟨x,r,rfl,q,t⟩:=ix.cons
  unfold M.setIs at e
  split at e
  ·exact⟨x,r,rfl,qil t (S0.put q) e k⟩
  ·cases e
 |[],_::_,_,_,_,_,_,_,e,_=>by cases e
 |_::_,[],_,_,_,_,_,_,e,_=>by cases e
theorem qyb:∀ {is:List Nat}{ds:List D}{τ τ':Sl},M.setIs is ds τ=some τ'→is.length=ds.length
 |[],[],_,_,_=>rfl
 |i::is,d::ds,τ,τ',e=>by
  unfold M.setIs at e
  split at e
  ·rw[Qqv,Qqv,qyb e]
  ·cases e
 |[],_::_,_,_,e=>by cases e
 |_::_,[],_,_,e=>by cases e
theorem qhh{K:Qqq}{m:List Addr}{H:Hp}{Q:L2.St→Hp→Prop}{t:T}{d:D}{v:V}{τ τ':Sl}{σ:L2.St}(iv:IsD K m H d v)(S0:SlotOk K m H τ σ)(e:M.setT t d τ=some τ')(k:∀ σ',SlotOk K m H τ' σ'→Q σ' H):gT K t v σ H Q:=by
 cases t with
 |var i=>
  have e:(if i<τ.length then some (τ.set i (some d)) else none)=some τ':=e
  split at e
  ·cases e
   exact k _ (S0.put iv)
  ·cases e
 |tup is=>
  cases d with
  |tup ds=>
   obtain⟨a,xs,rfl,hq,ix⟩:=iv.tup
   have e:M.setIs is ds τ=some τ':=e
   exact⟨a,xs,rfl,hq,by rw[← ix.length,qyb e],qil ix S0 e k⟩
  |_=>cases e
theorem qkf(G:Good fns dl c X){i:Nat}{x:Str}(h:c.N[i]?=some x):X.N[i]?=some x:=by rw[G.N]; exact h
theorem qgd:bootBuiltins ("any" : Str)=some (.builtin "any"):=by decide +kernel
theorem qge:bootBuiltins ("all" : Str)=some (.builtin "all"):=by decide +kernel
theorem qal:bootBuiltins ("int" : Str)=some (.type "int"):=by decide +kernel
theorem qdm:bootBuiltins ("bool" : Str)=some (.type "bool"):=by decide +kernel
theorem qag:bootBuiltins ("str" : Str)=some (.type "str"):=by decide +kernel
theorem qai:bootBuiltins ("isinstance" : Str)=some (.builtin "isinstance"):=by decide +kernel
theorem qah:bootBuiltins ("sorted" : Str)=some (.builtin "sorted"):=by decide +kernel
theorem qgc:bootBuiltins ("len" : Str)=some (.builtin "len"):=by decide +kernel
theorem qgb:bootBuiltins ("min" : Str)=some (.builtin "min"):=by decide +kernel
theorem qdl:bootBuiltins ("list" : Str)=some (.type "list"):=by decide +kernel
theorem qjb:bootBuiltins ("tuple" : Str)=some (.type "tuple"):=by decide +kernel
theorem ty_ok(G:Good fns dl c X){t:M.Ty}{pos:Pos}(ht:t≠.non)(hg:c.sc.names.lookup (Str.ofString t.name)=some .globalImplicit):PE X (.Name (Str.ofString t.name) pos) (tC (.ty t.name)):=by
 cases t with
 |non=>exact absurd rfl ht
 |bl=>exact qk8 (G.gl hg) G.mo.bool qdm rfl (by decide) (by decide)
 |int=>exact qk8 (G.gl hg) G.mo.int qal rfl (by decide) (by decide)
 |str=>exact qk8 (G.gl hg) G.mo.str qag rfl (by decide) (by decide)
 |tup=>exact qk8 (G.gl hg) G.mo.tuple qjb rfl (by decide) (by decide)
 |lst=>exact qk8 (G.gl hg) G.mo.list qdl rfl (by decide) (by decide)
noncomputable def tCs:List V→TA
 |[]=>tNil
 |v::vs=>qlz (tC v) (tCs vs)
theorem qd6:∀ (vs:List V) (σ:L2.St) (H:Hp) (Q:List V→Hp→Prop),Q vs H→tCs vs σ H Q
 |[],_,_,_,h=>h
 |v::vs,σ,H,Q,h=>qd6 vs σ H (fun xs H2=>Q (v::xs) H2) h
theorem qix(G:Good fns dl c X):∀ {ts:List M.Ty}{ps:List Expr},CkTys c ts ps→PA X ps (tCs (ts.map fun t=>V.ty t.name))∧∀ t∈ts,t≠.non
 |_,_,.nil=>⟨pa_nil,fun _ h=>nomatch h⟩
 |_,_,.cons ht hg h=>by
  obtain⟨h1,h2⟩:=qix G h
  refine⟨qqv (ty_ok G ht hg) h1 rfl,fun t hm=>?_⟩
  rcases Qqw.mp hm with z|z
  ·rw[z]; exact ht
  ·exact h2 t z
end
end MS
end
section
namespace MS
open PySem PySem.Spec PyProof.Rows L2
open M (D Cell Store Sl E S T Src Fn Out R)
section
variable {fns:List Fn}{dl n:Nat}{c:Ctx}{X:Cx}
theorem qqt(G:Good fns dl c X){N:List Str}{sr:List (Option Nat)}{scope:Scope}(hk:scope.kind=.function)(hcell:∀ y∈scope.names,y.2≠.cell)(hfree:∀ y∈scope.names,y.2=.free→c.sc.names.lookup y.1=some .cell∨c.sc.names.lookup y.1=some .free)
  (hloc:∀ y∈scope.names,y.2=.local→scope.names.lookup y.1=some .local) (hlen:sr.length=N.length) (hsrc:∀ (j i:Nat),sr[j]?=some (some i)→∃ x,N[j]?=some x∧c.N[i]?=some x∧scope.names.lookup x=some .free):CompScope X N sr scope:=
 ⟨hk,hcell,fun y hy hf=>by
  have:=hfree y hy hf
  show X.env.scope.names.lookup y.1=_∨X.env.scope.names.lookup y.1=_
  rw[G.sc]; exact this,hloc,hlen,fun j i h=>by
  obtain⟨x,a,b,d⟩:=hsrc j i h
  exact⟨x,a,qkf G b,d⟩⟩
theorem qcg{K:Qqq}{m:List Addr}{H:Hp}{τ:Sl}{σ:L2.St}(sr:List (Option Nat))(h:SlotOk K m H τ σ):SlotOk K m H (M.inner sr τ) (qx8 sr σ):=by
 refine⟨by unfold M.inner qx8; rw[Qqj,Qqj],fun j d e=>?_⟩
 unfold M.inner at e
 rw[Qqn]at e
 unfold qx8
 rw[Qqn]
 cases q:sr[j]? with
 |none=>rw[q]at e; cases e
 |some o=>
  rw[q]at e
  cases o with
  |none=>cases e
  |some i=>
   have hi:τ[i]?=some (some d):=by
    cases z:τ[i]? with
    |none=>simp[z]at e
    |some w=>
     cases w with
     |none=>simp[z]at e
     |some w=>simpa[z] using e
   obtain⟨v,a,b⟩:=h.at_ i d hi
   refine⟨v,?_,b⟩
   simp[a]
theorem qwh{K:Qqq}{r:R}{t:T}{it elt:E}{q:Option E}{sr:List (Option Nat)}{tt:TT}{σ:L2.St}{H:Hp}{Q:VK}
  (htt:∀ σ H (Q:Bool→Hp→Prop),(match q with
   |none=>Q true H
   |some c=>tTs K (fun τ st=>r.tst τ st c) σ H Q)→tt σ H Q)
  (h:tD K (fun τ st=>M.stepEv r τ st (.comp t it q elt sr)) σ H Q) :
  qgl sr (tI K fun τ st=>M.src r τ st it) (gT K t) tt (tD K fun τ st=>r.ev τ st elt) σ H Q:=by
 refine h.el fun m st τ d st' R0 S0 e post=>?_
 have e:((M.src r τ st it).bind fun p=>(M.loopC p.1 (M.turnC r t q elt) (p.1.size p.2+1) 0 [] (M.inner sr τ) p.2).map fun q=>M.alloc q.2 (.lst true q.1))=some (d,st'):=e
 obtain⟨p,e1,e⟩:=qzf e
 obtain⟨res,e2,e3⟩:=mapD e
 refine⟨m,st,τ,p.1,p.2,R0,S0,e1,fun m1 H1 J b1 t1 R1 hJ=>?_⟩
 refine⟨fun i' k acc σ' H'=>∃ m2 st2 τ2 accD,Sub m1 m2∧Tr H1 H'∧Rel K m2 st2 H'∧SlotOk K m2 H' τ2 σ'∧IsDs K m2 H' accD acc∧M.loopC p.1 (M.turnC r t q elt) k i' accD τ2 st2=some res,
  ⟨_,m1,p.2,M.inner sr τ,[],Sub.refl _,Tr.refl _,R1,qcg sr (S0.mono b1 t1),qz7,e2⟩,?_⟩
 rintro j k acc σ' H' ⟨m2,st2,τ2,accD,b2,t2,R2,S2,ia,e4⟩
 cases k with
 |zero=>cases e4
 |succ k=>
  have e4:(p.1.at st2 j).bind (fun o=>match o with
   |none=>if M.lim<accD.length then none else some (accD,st2)
   |some d=>if M.lim≤accD.length then none else(M.turnC r t q elt τ2 st2 d).bind fun z=>M.loopC p.1 (M.turnC r t q elt) k (j+1) (match z.1 with|some x=>accD++[x]|none=>accD) z.2.1 z.2.2)=some res:=e4
  obtain⟨o,e5,e4⟩:=qzf e4
  have l1:=ia.length
  have l2:=qqq
  cases o with
  |none=>
   dsimp only at e4
   split at e4
   ·cases e4
   ·rename_i hl
    cases e4
    refine .inl ⟨(hJ.mono b2 t2).done R2 e5,by omega,fun pp hp=>?_⟩
    cases e3
    exact post _ (m2++[pp]) _ (b1.trans (b2.trans (Sub.app _ _))) (t1.trans (t2.trans (Tr.of_same (qzo hp)))) (R2.new hp ia) R2.newLoc
  |some d'=>
   dsimp only at e4
   split at e4
   ·cases e4
   ·rename_i hl
    obtain⟨hgo,hy⟩:=(hJ.mono b2 t2).next R2 e5
    refine .inr ⟨hgo,by omega,fun x H2 hyl=>?_⟩
    obtain⟨sm,ix⟩:=hy x H2 hyl
    have t2:=t2.trans (Tr.of_same sm)
    have R2:=R2.same sm
    have S2:=S2.mono (Sub.refl _) (Tr.of_same sm)
    have ia:=qza (Sub.refl _) (Tr.of_same sm) _ _ ia
    obtain⟨z,e6,e4⟩:=qzf e4
    unfold M.turnC at e6
    obtain⟨τ3,e7,e6⟩:=qzf e6
    refine qhh ix S2 e7 fun σ3 S3=>?_
    ·refine htt _ _ _ ?_
     cases q with
     |none=>
      dsimp only at e6 ⊢
      obtain⟨y,e8,e9⟩:=mapD e6
      cases e9
      rw[if_pos rfl]
      refine⟨m2,st2,_,y.1,y.2,R2,S3,e8,fun v m3 H3 b3 t3 R3 i3=>⟨k,Qzo k,m3,y.2,_,accD++[y.1],b2.trans b3,t2.trans t3,R3,S3.mono b3 t3,(qza b3 t3 _ _ ia).append (qzw i3 qz7),e4⟩⟩
     |some cq=>
      dsimp only at e6 ⊢
      obtain⟨bb,e8,e6⟩:=qzf e6
      refine⟨m2,st2,_,bb.1,bb.2,R2,S3,e8,fun m3 H3 b3 t3 R3=>?_⟩
      cases hb:bb.1 with
      |true=>
       rw[hb,if_pos rfl]at e6
       rw[if_pos rfl]
       obtain⟨y,e9,e10⟩:=mapD e6
       cases e10
       refine⟨m3,bb.2,_,y.1,y.2,R3,S3.mono b3 t3,e9,fun v m4 H4 b4 t4 R4 i4=>⟨k,Qzo k,m4,y.2,_,accD++[y.1],b2.trans (b3.trans b4),t2.trans (t3.trans t4),R4,S3.mono (b3.trans b4) (t3.trans t4),(qza (b3.trans b4) (t3.trans t4) _ _ ia).append (qzw i4 qz7),e4⟩⟩
      |false=>
       rw[hb,if_neg Qqg]at e6
       cases e6
       rw[if_neg Qqg]
       exact⟨k,Qzo k,m3,bb.2,_,accD,b2.trans b3,t2.trans t3,R3,S3.mono b3 t3,qza b3 t3 _ _ ia,e4⟩
theorem qv4(G:Good fns dl c X):∀ {is:List Nat}{es:List Expr},CkTs c is es→(∀ i∈is,∀ x,c.N[i]?=some x→X.fn x=true∨c.sc.names.lookup x=some .local)→PGs X es (gIs is)∧(assignEach es X.env).length=is.length∧(assignEach es X.env).findIdx? (·.1)=none
 |_,_,.nil,_=>⟨qls,rfl,rfl⟩
 |_,_,.cons (i:=i) (x:=x) (pos:=pos) (is:=is) (es:=es) hN hl h,hf=>by
  obtain⟨h1,h2,h3⟩:=qv4 G h fun j hj=>hf j (Qqy _ hj)
  have hg:PG X (.Name x pos) (qba i):=qel (by rw[G.N]; exact G.nd) (qkf G hN) (by show X.env.scope.names.lookup x=_∨_=_; rw[G.sc]; exact hl) (by rw[G.sc]; exact hf i Qqe x hN)
  refine⟨qg8 hg h1 rfl,?_,?_⟩
  ·show(assignEach es X.env).length+1=is.length+1
   rw[h2]
  ·show List.findIdx? (·.1) ((false,assign (.Name x pos) X.env)::assignEach es X.env)=none
   rw[List.findIdx?_cons,h3]
   rfl
theorem qqn(G:Good fns dl c X){t:T}{tg:Expr}(h:CkT c t tg)(hf:∀ i∈t.slots,∀ x,c.N[i]?=some x→X.fn x=true∨c.sc.names.lookup x=some .local):PG X tg (gT X.K t):=by
 cases h with
 |@var i x pos hN hl=>exact qel (by rw[G.N]; exact G.nd) (qkf G hN) (by show X.env.scope.names.lookup x=_∨_=_; rw[G.sc]; exact hl) (by rw[G.sc]; exact hf i (by simp[T.slots]) x hN)
 |@tup is es k pos h=>
  obtain⟨h1,h2,h3⟩:=qv4 G h hf
  exact pg_tup G.calm h1 h2 h3
noncomputable def qi7(r:R)(K:Qqq):List E→List (TE×TE)
 |k::v::es=>(tD K fun τ st=>r.ev τ st k,tD K fun τ st=>r.ev τ st v)::qi7 r K es
 |_=>[]
noncomputable def twos:List V→List (V×V)
 |x::y::r=>(x,y)::twos r
 |_=>[]
theorem qyo(A:AllOk fns dl n)(G:Good fns dl c X){pos:Pos}:∀ {es:List E}{ks:List (Option Expr)}{vs:List Expr},CkP (CkE c) es ks vs→PPs X pos ks vs (qi7 (M.rn fns dl n) X.K es)∧ks.all (·.isSome)=true∧ks.length=vs.length
 |_,_,_,.nil=>⟨qlo,rfl,rfl⟩
 |_,_,_,.cons hk hv t=>by
  obtain⟨h1,h2,h3⟩:=qyo A G (pos:=pos) t
  refine⟨qg6 (A.e c X G _ _ hk) (A.e c X G _ _ hv) h1,?_,?_⟩
  ·rw[Qjq,h2]; rfl
  ·rw[Qqv,Qqv,h3]
theorem qyn{r:R}{K:Qqq}:∀ {es:List E}{ks:List (Option Expr)}{vs:List Expr}{c:Ctx}{m:List Addr}{st st':Store}{H:Hp}{τ:Sl}{σ:L2.St}{ds:List D}{Q:List (V×V)→Hp→Prop},CkP (CkE c) es ks vs→Rel K m st H→SlotOk K m H τ σ→M.evs (r.ev τ) es st=some (ds,st')→
  (∀ xs m' H',Sub m m'→Tr H H'→Rel K m' st' H'→IsDs K m' H' ds xs→Q (twos xs) H')→qb4 (qi7 r K es) σ H Q
 |_,_,_,c,m,st,st',H,τ,σ,ds,Q,.nil,R0,S0,e,q=>by
  cases e
  exact q [] m H (Sub.refl m) (Tr.refl H) R0 qz7
 |_,_,_,c,m,st,st',H,τ,σ,ds,Q,.cons (k:=k) (v:=v) (es:=es) hk hv t,R0,S0,e,q=>by
  have e:((r.ev τ st k).bind fun p=>((r.ev τ p.2 v).bind fun p'=>(M.evs (r.ev τ) es p'.2).bind fun q=>some (p'.1::q.1,q.2)).bind fun q=>some (p.1::q.1,q.2))=some (ds,st'):=e
  obtain⟨d1,s1,e1,e⟩:=qzr e
  obtain⟨w,e2,e⟩:=qzf e
  obtain⟨d2,s2,e3,e2⟩:=qzr e2
  obtain⟨u,e4,e2⟩:=qzf e2
  cases e2
  cases e
  refine⟨m,st,τ,d1,s1,R0,S0,e1,fun x m1 H1 b1 t1 R1 i1=>⟨m1,s1,τ,d2,s2,R1,S0.mono b1 t1,e3,fun y m2 H2 b2 t2 R2 i2=>?_⟩⟩
  refine qyn t R2 (S0.mono (b1.trans b2) (t1.trans t2)) e4 fun xs m3 H3 b3 t3 R3 ix=>?_
  exact q (x::y::xs) m3 H3 (b1.trans (b2.trans b3)) (t1.trans (t2.trans t3)) R3 (qzw (qze (b2.trans b3) (t2.trans t3) _ _ i1) (qzw (qze b3 t3 _ _ i2) ix))
theorem qcj{K:Qqq}{m:List Addr}{H:Hp}:∀ {ds:List D}{xs:List V}{kvs:List (D×D)},IsDs K m H ds xs→M.pairUp ds=some kvs→∃ ys:List (Key×V),IsKV K m H kvs ys∧twos xs=ys.map fun kv=>(kV kv.1,kv.2)
 |[],xs,kvs,ix,e=>by
  cases e
  rw[ix.nil]
  exact⟨[],rfl,rfl⟩
 |[d],xs,kvs,ix,e=>by cases e
 |d::d'::ds,xs,kvs,ix,e=>by
  have e:(if M.isKey d then(M.pairUp ds).map ((d,d')::·) else none)=some kvs:=e
  split at e
  ·rename_i hk
   obtain⟨kr,e1,e2⟩:=mapD e
   subst e2
   obtain⟨x,xr,rfl,i1,i2⟩:=ix.cons
   obtain⟨y,yr,rfl,i3,i4⟩:=i2.cons
   obtain⟨k,hk1⟩:=qjm hk
   have hx:=qma hk1 i1
   subst hx
   obtain⟨ys,h1,h2⟩:=qcj i4 e1
   refine⟨(k,y)::ys,⟨k,y,ys,rfl,hk1,i3,h1⟩,?_⟩
   show(kV k,y)::twos yr=_
   rw[h2]
   rfl
  ·cases e
theorem e_ok(A:AllOk fns dl n)(G':Good fns dl c X){e:E}{p:Expr}(h:CkE c e p):PE X p (tD X.K fun τ st=>M.stepEv (M.rn fns dl n) τ st e):=by
 have G:=G'
 have hu:X.A.units+64<cLine:=G'.room.units
 cases h.out with
 |@var i x pos hN hv hd hcd=>
  refine(qcq (qkf G hN) (by rw[G.sc]; exact hv) hd hcd).imp fun σ H Q h=>?_
  refine h.el fun m st τ d st' R0 S0 e q=>?_
  simp only[M.stepEv]at e
  split at e
  ·rename_i d' hd'
   cases e
   obtain⟨v,a,b⟩:=S0.at_ i d hd'
   exact⟨v,a,q.here R0 b⟩
  ·cases e
 |int=>exact pe_int.imp fun σ H Q ⟨m,st,τ,d,st',R0,S0,e,q⟩=>by cases e; exact q.here R0 (mkInt _)
 |bl=>exact pe_bl.imp fun σ H Q ⟨m,st,τ,d,st',R0,S0,e,q⟩=>by cases e; exact q.here R0 (mkBl _)
 |non=>exact pe_non.imp fun σ H Q ⟨m,st,τ,d,st',R0,S0,e,q⟩=>by cases e; exact q.here R0 qyu
 |str=>exact pe_str.imp fun σ H Q ⟨m,st,τ,d,st',R0,S0,e,q⟩=>by cases e; exact q.here R0 (mkStr _)
 |@glo x d pos hg hm hd=>
  obtain⟨u,v,h1,h2,h3⟩:=G.mo.glo x d hm
  exact(qbj (G.gl hg) h1 h2 hd).imp fun σ H Q ⟨m,st,τ,d,st',R0,S0,e,q⟩=>by cases e; exact q.here R0 (h3 m H)
 |@bin op a b pa pb pos ha hb=>
  exact(pe_op (qe2 op) (A.e c X G a pa ha) (A.e c X G b pb hb)).imp fun σ H Q h=>qd4 (fa:=fun τ st=>(M.rn fns dl n).ev τ st a) (fb:=fun τ st=>(M.rn fns dl n).ev τ st b) (g:=fun st x y=>M.binop st op x y) h
 |@not a pa pos ha=>
  refine(pe_not (A.e c X G a pa ha)).imp fun σ H Q h=>?_
  refine h.el fun m st τ d st' R0 S0 e q=>?_
  obtain⟨d1,s1,e1,e⟩:=qzr e
  refine⟨m,st,τ,d1,s1,R0,S0,e1,fun v m1 H1 b1 t1 R1 i1=>?_⟩
  cases d1 with
  |bl k=>
   cases e
   exact⟨k,i1.bl,q _ m1 H1 b1 t1 R1 (mkBl _)⟩
  |_=>cases e
 |@cmp op a b pa pb pos ha hb hm=>
  exact(ql1 (qe1 hu op) (A.e c X G a pa ha) (A.e c X G b pb hb) hm).imp fun σ H Q h=>qd4 (fa:=fun τ st=>(M.rn fns dl n).ev τ st a) (fb:=fun τ st=>(M.rn fns dl n).ev τ st b) (g:=fun st x y=>(M.cmpD st op x y).map fun k=>(.bl k,st)) h
 |@and2 a b pa pb pos ha hb=>
  refine(qid (A.e c X G a pa ha) (qic (A.e c X G b pb hb))).imp fun σ H Q h=>?_
  refine h.el fun m st τ d st' R0 S0 e q=>?_
  obtain⟨d1,s1,e1,e⟩:=qzr e
  refine⟨m,st,τ,d1,s1,R0,S0,e1,fun v m1 H1 b1 t1 R1 i1=>?_⟩
  cases d1 with
  |bl k=>
   cases k with
   |true=>exact⟨true,i1.bl,by rw[if_pos rfl]; exact⟨m1,s1,τ,d,st',R1,S0.mono b1 t1,e,q.mono b1 t1⟩⟩
   |false=>cases e; exact⟨false,i1.bl,by rw[if_neg Qqg]; exact q _ m1 H1 b1 t1 R1 (mkBl _)⟩
  |_=>cases e
 |@andN a b pa pb pd r pos ha hb=>
  refine(qid (A.e c X G a pa ha) (A.e c X G b _ hb)).imp fun σ H Q h=>?_
  refine h.el fun m st τ d st' R0 S0 e q=>?_
  obtain⟨d1,s1,e1,e⟩:=qzr e
  refine⟨m,st,τ,d1,s1,R0,S0,e1,fun v m1 H1 b1 t1 R1 i1=>?_⟩
  cases d1 with
  |bl k=>
   cases k with
   |true=>exact⟨true,i1.bl,by rw[if_pos rfl]; exact⟨m1,s1,τ,d,st',R1,S0.mono b1 t1,e,q.mono b1 t1⟩⟩
   |false=>cases e; exact⟨false,i1.bl,by rw[if_neg Qqg]; exact q _ m1 H1 b1 t1 R1 (mkBl _)⟩
  |_=>cases e
 |@or2 a b pa pb pos ha hb=>
  refine(pe_or (A.e c X G a pa ha) (qic (A.e c X G b pb hb))).imp fun σ H Q h=>?_
  refine h.el fun m st τ d st' R0 S0 e q=>?_
  obtain⟨d1,s1,e1,e⟩:=qzr e
  refine⟨m,st,τ,d1,s1,R0,S0,e1,fun v m1 H1 b1 t1 R1 i1=>?_⟩
  cases d1 with
  |bl k=>
   cases k with
   |false=>exact⟨false,i1.bl,by rw[if_neg Qqg]; exact⟨m1,s1,τ,d,st',R1,S0.mono b1 t1,e,q.mono b1 t1⟩⟩
   |true=>cases e; exact⟨true,i1.bl,by rw[if_pos rfl]; exact q _ m1 H1 b1 t1 R1 (mkBl _)⟩
  |_=>cases e
 |@orN a b pa pb pd r pos ha hb=>
  refine(pe_or (A.e c X G a pa ha) (A.e c X G b _ hb)).imp fun σ H Q h=>?_
  refine h.el fun m st τ d st' R0 S0 e q=>?_
  obtain⟨d1,s1,e1,e⟩:=qzr e
  refine⟨m,st,τ,d1,s1,R0,S0,e1,fun v m1 H1 b1 t1 R1 i1=>?_⟩
  cases d1 with
  |bl k=>
   cases k with
   |false=>exact⟨false,i1.bl,by rw[if_neg Qqg]; exact⟨m1,s1,τ,d,st',R1,S0.mono b1 t1,e,q.mono b1 t1⟩⟩
   |true=>cases e; exact⟨true,i1.bl,by rw[if_pos rfl]; exact q _ m1 H1 b1 t1 R1 (mkBl _)⟩
  |_=>cases e
 |@ite q a b pq pa pb pos hq ha hb=>
  refine(qhz (A.t c X G q pq hq) (A.e c X G a pa ha) (A.e c X G b pb hb)).imp fun σ H Q h=>?_
  refine h.el fun m st τ d st' R0 S0 e post=>?_
  obtain⟨bb,e1,e⟩:=qzf e
  refine⟨m,st,τ,bb.1,bb.2,R0,S0,e1,fun m1 H1 b1 t1 R1=>?_⟩
  cases hb:bb.1 with
  |true=>
   rw[hb,if_pos rfl]at e
   rw[if_pos rfl]
   exact⟨m1,bb.2,τ,d,st',R1,S0.mono b1 t1,e,post.mono b1 t1⟩
  |false=>
   rw[hb,if_neg Qqg]at e
   rw[if_neg Qqg]
   exact⟨m1,bb.2,τ,d,st',R1,S0.mono b1 t1,e,post.mono b1 t1⟩
 |@tup es ps k pos hs=>
  refine(qem (qz9 A G hs)).imp fun σ H Q h=>?_
  refine h.el fun m st τ d st' R0 S0 e post=>?_
  obtain⟨p,e1,e⟩:=qzf e
  split at e
  ·cases e
  ·rename_i hl
   cases e
   refine⟨m,st,τ,p.1,p.2,R0,S0,e1,fun xs m1 H1 b1 t1 R1 ix=>?_⟩
   have l1:=ix.length
   have l2:=qqq
   refine⟨by omega,fun pp hp=>?_⟩
   have sm:=qzo (o:=.tup xs) hp
   exact post _ m1 _ b1 (t1.trans (Tr.of_same sm)) (R1.same sm) (qxw (SqT.of qzn) (qza (Sub.refl _) (Tr.of_same sm) _ _ ix))
 |@lst es ps pos hs=>
  refine(pe_lst (qz9 A G hs)).imp fun σ H Q h=>?_
  refine h.el fun m st τ d st' R0 S0 e post=>?_
  obtain⟨p,e1,e⟩:=qzf e
  split at e
  ·cases e
  ·rename_i hl
   cases e
   refine⟨m,st,τ,p.1,p.2,R0,S0,e1,fun xs m1 H1 b1 t1 R1 ix=>?_⟩
   have l1:=ix.length
   have l2:=qqq
   refine⟨by omega,fun pp hp=>?_⟩
   exact post _ (m1++[pp]) _ (b1.trans (Sub.app _ _)) (t1.trans (Tr.of_same (qzo hp))) (R1.new hp ix) R1.newLoc
 |@idx a b pa pb pos ha hb hs=>
  exact(pe_ix ix_D (A.e c X G a pa ha) (A.e c X G b pb hb) hs).imp fun σ H Q h=>qd4 (fa:=fun τ st=>(M.rn fns dl n).ev τ st a) (fb:=fun τ st=>(M.rn fns dl n).ev τ st b) (g:=fun st x y=>(M.idxD st x y).map fun d=>(d,st)) h
 |@call f x es p ps p0 pos hg hf hd hs=>
  obtain⟨fa,fd,pars,hm,F,hk,hb⟩:=G'.tab f x hf
  have hp:Star p:=by cases hs with|cons h _=>exact h.star
  have ht:(backTo pos (starEach ps X.env)).any (·.1)=false:=by cases hs with|cons _ t=>exact qwt t pos X.env
  refine(qeo F G.room (G.gl hg) hm hk hb .nil pass0 (qz9 A G hs) hd (hp _ _) ht).imp fun σ H Q h=>?_
  refine h.el fun m st τ d st' R0 S0 e post=>?_
  obtain⟨q,e1,e⟩:=qzf e
  refine⟨m,st,τ,q.1,q.2,R0,S0,e1,fun xs m1 H1 b1 t1 R1 ix=>?_⟩
  show spN X.K fns dl f (xs++[]) H1 Q E0
  have e:(M.rn fns dl n).call f q.1 q.2=some (d,st'):=e
  rw[M.runK_call]at e
  rw[Qqh]
  exact⟨m1,q.2,q.1,d,st',R1,ix,e,post.mono b1 t1⟩
 |@bcall b es p ps p0 pos hg hbo hs=>
  have hp:Star p:=by cases hs with|cons h _=>exact h.star
  have ht:(backTo pos (starEach ps X.env)).any (·.1)=false:=by cases hs with|cons _ t=>exact qwt t pos X.env
  have hA:=qz9 A G hs
  cases b with
  |len=>exact(qq1 qgx (G.gl hg) G.mo.len qgc hA (by decide) (by decide) (hp _ _) ht).imp fun σ H Q h=>qxk (fa:=fun τ st=>M.evs ((M.rn fns dl n).ev τ) es st) (g:=M.bLen) h
  |min=>exact(qq1 (qgz G.calm) (G.gl hg) G.mo.min qgb hA (by decide) (by decide) (hp _ _) ht).imp fun σ H Q h=>qxk (fa:=fun τ st=>M.evs ((M.rn fns dl n).ev τ) es st) (g:=M.bMin) h
  |max=>cases hbo
  |tuple=>exact(qje qvo (G.gl hg) G.mo.tuple qjb hA (by decide) (by decide) (hp _ _) ht).imp fun σ H Q h=>qxk (fa:=fun τ st=>M.evs ((M.rn fns dl n).ev τ) es st) (g:=M.bTuple) h
  |list=>cases hbo
  |any=>exact(qq1 (qgw G.calm) (G.gl hg) G.mo.any qgd hA (by decide) (by decide) (hp _ _) ht).imp fun σ H Q h=>qxk (fa:=fun τ st=>M.evs ((M.rn fns dl n).ev τ) es st) (g:=M.bAny) h
  |all=>exact(qq1 (qgy G.calm) (G.gl hg) G.mo.all qge hA (by decide) (by decide) (hp _ _) ht).imp fun σ H Q h=>qxk (fa:=fun τ st=>M.evs ((M.rn fns dl n).ev τ) es st) (g:=M.bAll) h
  |int=>exact(qje qgv (G.gl hg) G.mo.int qal hA (by decide) (by decide) (hp _ _) ht).imp fun σ H Q h=>qxk (fa:=fun τ st=>M.evs ((M.rn fns dl n).ev τ) es st) (g:=M.bInt) h
  |str=>exact(qje qf9 (G.gl hg) G.mo.str qag hA (by decide) (by decide) (hp _ _) ht).imp fun σ H Q h=>qxk (fa:=fun τ st=>M.evs ((M.rn fns dl n).ev τ) es st) (g:=M.bStr) h
  |sorted=>exact(qq1 qad (G.gl hg) G.mo.sorted qah hA (by decide) (by decide) (hp _ _) ht).imp fun σ H Q h=>qxk (fa:=fun τ st=>M.evs ((M.rn fns dl n).ev τ) es st) (g:=M.bSorted) h
 |@isi1 t a pa p0 p1 pos hg ht hgt ha=>
  refine(qq1 (qgk t ht) (G.gl hg) G.mo.isinstance qai (qqv (A.e c X G a pa ha) (qqv (ty_ok G ht hgt) pa_nil rfl) (ha.star _ _)) (by decide) (by decide) (ha.star _ _) rfl).imp fun σ H Q h=>?_
  refine h.el fun m st τ d st' R0 S0 e post=>?_
  obtain⟨d1,s1,e1,e⟩:=qzr e
  obtain⟨nm,e2,e3⟩:=mapD e
  cases e3
  refine⟨m,st,τ,d1,s1,R0,S0,e1,fun x m1 H1 b1 t1 R1 ix=>?_⟩
  refine⟨m1,s1,d1,nm,x,rfl,R1,ix,e2,post _ m1 H1 b1 t1 R1 ?_⟩
  have:([t].any fun t=>M.tyIs t nm)=M.tyIs t nm:=by simp
  rw[this]
  exact mkBl _
 |@isiN ts a pa p0 ps k p1 pos hlen hg ht ha=>
  obtain⟨h1,h2⟩:=qix G ht
  refine(qq1 (qgj ts h2) (G.gl hg) G.mo.isinstance qai (qqv (A.e c X G a pa ha) (qqv (qem h1) pa_nil rfl) (ha.star _ _)) (by decide) (by decide) (ha.star _ _) rfl).imp fun σ H Q h=>?_
  refine h.el fun m st τ d st' R0 S0 e post=>?_
  obtain⟨d1,s1,e1,e⟩:=qzr e
  obtain⟨nm,e2,e3⟩:=mapD e
  cases e3
  refine⟨m,st,τ,d1,s1,R0,S0,e1,fun x m1 H1 b1 t1 R1 ix=>?_⟩
  refine qd6 _ σ H1 _ ⟨?_,fun pp hp=>?_⟩
  ·rw[Qqj]
   exact Qxa (qex hlen)
  ·have sm:=qzo (o:=.tup (ts.map fun t=>V.ty t.name)) hp
   exact⟨m1,s1,d1,nm,x,pp,rfl,qzn,R1.same sm,qze (Sub.refl _) (Tr.of_same sm) _ _ ix,e2,post _ m1 _ b1 (t1.trans (Tr.of_same sm)) (R1.same sm) (mkBl _)⟩
 |@append a e x xp pe apos cpos ha he hl=>
  refine(qhk PySem.F.plainAttrs_list PySem.F.slot_list_append PySem.F.type_list_append qdy (A.e c X G a _ ha) (qz9 A G (.cons he .nil)) rfl (by rw[he.star]; rfl) hl (he.star _ _) rfl).imp fun σ H Q h=>?_
  refine h.el fun m st τ d st' R0 S0 e0 post=>?_
  obtain⟨d1,s1,e1,e0⟩:=qzr e0
  split at e0
  ·rename_i hm
   obtain⟨q,e2,e0⟩:=qzf e0
   refine⟨m,st,τ,d1,s1,R0,S0,e1,fun v m1 H1 b1 t1 R1 i1=>⟨?_,m1,s1,τ,q.1,q.2,R1,S0.mono b1 t1,e2,fun xs m2 H2 b2 t2 R2 i2=>⟨m2,q.2,d1,q.1,d,st',R2,qze b2 t2 _ _ i1,i2,e0,post.mono (b1.trans b2) (t1.trans t2)⟩⟩⟩
   cases d1 with
   |loc l=>
    have hm:(true&&(M.seqAt s1 (.loc l)).isSome)=true:=hm
    rw[Qxi]at hm
    obtain⟨ds,hds⟩:=Qxz.mp hm
    obtain⟨a',xs,_,rfl,hq,_⟩:=R1.seq hds i1
    exact .inl ⟨rfl,xs,hq⟩
   |lst l=>
    have hm:(true&&(M.seqAt s1 (.lst l)).isSome)=true:=hm
    rw[Qxi]at hm
    obtain⟨ds,hds⟩:=Qxz.mp hm
    obtain⟨a',xs,_,rfl,hq,_⟩:=R1.seq hds i1
    exact .inl ⟨rfl,xs,hq⟩
   |_=>cases hm
  ·cases e0
 |@find a e pa pe apos cpos ha he hb hl=>
  refine(qhk PySem.F.plainAttrs_str PySem.F.slot_str_find PySem.F.type_str_find qha (A.e c X G a _ ha) (qz9 A G (.cons he .nil)) (hb X.env) (by rw[he.star]; rfl) hl (he.star _ _) rfl).imp fun σ H Q h=>?_
  refine h.el fun m st τ d st' R0 S0 e0 post=>?_
  obtain⟨d1,s1,e1,e0⟩:=qzr e0
  split at e0
  ·rename_i hm
   obtain⟨q,e2,e0⟩:=qzf e0
   refine⟨m,st,τ,d1,s1,R0,S0,e1,fun v m1 H1 b1 t1 R1 i1=>⟨?_,m1,s1,τ,q.1,q.2,R1,S0.mono b1 t1,e2,fun xs m2 H2 b2 t2 R2 i2=>⟨m2,q.2,d1,q.1,d,st',R2,qze b2 t2 _ _ i1,i2,e0,post.mono (b1.trans b2) (t1.trans t2)⟩⟩⟩
   cases d1 with
   |str z=>rw[i1.str]; exact rfl
   |_=>cases hm
  ·cases e0
 |@join a e pa pe apos cpos ha he hb hl=>
  refine(qhk PySem.F.plainAttrs_str PySem.F.slot_str_join PySem.F.type_str_join qhy (A.e c X G a _ ha) (qz9 A G (.cons he .nil)) (hb X.env) (by rw[he.star]; rfl) hl (he.star _ _) rfl).imp fun σ H Q h=>?_
  refine h.el fun m st τ d st' R0 S0 e0 post=>?_
  obtain⟨d1,s1,e1,e0⟩:=qzr e0
  split at e0
  ·rename_i hm
   obtain⟨q,e2,e0⟩:=qzf e0
   refine⟨m,st,τ,d1,s1,R0,S0,e1,fun v m1 H1 b1 t1 R1 i1=>⟨?_,m1,s1,τ,q.1,q.2,R1,S0.mono b1 t1,e2,fun xs m2 H2 b2 t2 R2 i2=>⟨m2,q.2,d1,q.1,d,st',R2,qze b2 t2 _ _ i1,i2,e0,post.mono (b1.trans b2) (t1.trans t2)⟩⟩⟩
   cases d1 with
   |str z=>rw[i1.str]; exact rfl
   |_=>cases hm
  ·cases e0
 |@split a e pa pe apos cpos ha he hb hl=>
  refine(qhk PySem.F.plainAttrs_str PySem.F.slot_str_split PySem.F.type_str_split qfj (A.e c X G a _ ha) (qz9 A G (.cons he .nil)) (hb X.env) (by rw[he.star]; rfl) hl (he.star _ _) rfl).imp fun σ H Q h=>?_
  refine h.el fun m st τ d st' R0 S0 e0 post=>?_
  obtain⟨d1,s1,e1,e0⟩:=qzr e0
  split at e0
  ·rename_i hm
   obtain⟨q,e2,e0⟩:=qzf e0
   refine⟨m,st,τ,d1,s1,R0,S0,e1,fun v m1 H1 b1 t1 R1 i1=>⟨?_,m1,s1,τ,q.1,q.2,R1,S0.mono b1 t1,e2,fun xs m2 H2 b2 t2 R2 i2=>⟨m2,q.2,d1,q.1,d,st',R2,qze b2 t2 _ _ i1,i2,e0,post.mono (b1.trans b2) (t1.trans t2)⟩⟩⟩
   cases d1 with
   |str z=>rw[i1.str]; exact rfl
   |_=>cases hm
  ·cases e0
 |@gc a p hp hg ha=>exact(pe_gc (A.e c X G a _ ha)).imp fun _ _ _ h=>h
 |@dic es k v ks vs pos hP h15=>
  obtain⟨h1,h2,h3⟩:=qyo A G (pos:=pos) hP
  refine(qlu h1 h2 h3 (by simp) h15).imp fun σ H Q h=>?_
  refine h.el fun m st τ d st' R0 S0 e post=>?_
  have e:((M.evs ((M.rn fns dl n).ev τ) es (st++[.dic []])).bind fun p=>match M.dicAt p.2 st.length with
   |some []=>(M.pairUp p.1).bind fun kvs=>if kvs.length≤15 then some (D.loc st.length,p.2.set st.length (.dic (M.dall kvs))) else none
   |_=>none)=some (d,st'):=e
  obtain⟨p,e1,e⟩:=qzf e
  split at e
  ·rename_i hdic
   obtain⟨kvs,e2,e⟩:=qzf e
   split at e
   ·rename_i hl
    cases e
    intro pp hp
    have sm:=qzo (o:=.dK []) hp
    refine qyn hP (R0.newD (kvs:=[]) (xs:=[]) hp rfl) (S0.mono (Sub.app _ _) (Tr.of_same sm)) e1 fun xs m1 H1 b1 t1 R1 ix=>?_
    obtain⟨ys,hkv,htw⟩:=qcj ix e2
    have hloc:MS.IsD X.K m1 H1 (.loc st.length) (.ref pp):=qze b1 (Tr.refl H1) _ _ (R0.newLoc (p:=pp))
    obtain⟨a',xs',ha',ea,hH,hkv0,hst⟩:=R1.dict hdic hloc
    cases ea
    have hx0:xs'=[]:=hkv0
    subst hx0
    have l1:=hkv.length
    refine⟨hH,ys,htw,by omega,?_⟩
    exact post _ m1 _ ((Sub.app _ _).trans b1) ((Tr.of_same sm).trans (t1.trans (Tr.putD hH))) (R1.putD hst ha' hH (hkv.merge (show IsKV X.K m1 H1 [] [] from rfl))) (qze (Sub.refl _) (Tr.putD hH) _ _ hloc)
   ·cases e
  ·cases e
 |@dgt a b pa pb apos cpos ha hb hbs hl htr=>
  exact ql0 (by omega) (A.e c X G a pa ha) (A.e c X G b pb hb) ⟨hbs X.env,by rw[htr]; rfl,hl,htr X.env⟩
 |@gidx x ks ds b pb p0 pos hg hm hd hb hs=>
  obtain⟨ad,h1,h2⟩:=G.mo.gds x ks ds hm
  exact qhq (G.gl hg) h1 h2 hd (A.e c X G b pb hb) hs
 |@gnin x ks ds b pb p0 pos hg hm hd hb=>
  obtain⟨ad,h1,h2⟩:=G.mo.gds x ks ds hm
  exact pe_cmp (qep true (G.gl hg) h1 h2 hd (A.e c X G b pb hb)) rfl
 |@sli a lo hi pa pl ph p2 pos ha hl hh=>
  refine(qg9 sl_D (A.e c X G a pa ha) (po_ok A G hl) (po_ok A G hh)).imp fun σ H Q h=>?_
  refine h.el fun m st τ d st' R0 S0 e post=>?_
  have e:(((M.rn fns dl n).ev τ st a).bind fun p=>(M.part (M.rn fns dl n) τ p.2 lo).bind fun l=>(M.part (M.rn fns dl n) τ l.2 hi).bind fun h=>M.sliD h.2 p.1 l.1 h.1)=some (d,st'):=e
  obtain⟨d1,s1,e1,e⟩:=qzr e
  obtain⟨l,e2,e⟩:=qzf e
  obtain⟨u,e3,e⟩:=qzf e
  exact⟨m,st,τ,d1,s1,R0,S0,e1,fun x m1 H1 b1 t1 R1 i1=>⟨m1,s1,τ,l.1,l.2,R1,S0.mono b1 t1,e2,fun m2 H2 b2 t2 R2=>⟨m2,l.2,τ,u.1,u.2,R2,S0.mono (b1.trans b2) (t1.trans t2),e3,fun m3 H3 b3 t3 R3=>
   ⟨m3,u.2,d1,d,st',R3,qze (b2.trans b3) (t2.trans t3) _ _ i1,e,post.mono (b1.trans (b2.trans b3)) (t1.trans (t2.trans t3))⟩⟩⟩⟩
 |@comp t it elt sr tg iter pelt scope pos N hk hcell hfree hloc hlen hsrc hnd hs hi ht htl he=>
  have S:=qqt G hk hcell hfree hloc hlen hsrc
  exact(qen (tt:=fun _ H Q=>Q true H) G.calm S (qkz A G hi) (fun C fp s H=>qqn (G.inner hk hnd) ht fun i hi' x hx=>.inr (qk4 htl i hi' x hx)) (fun C fp s H=>qwg) (fun C fp s H=>A.e _ _ (G.inner hk hnd) elt pelt he) (hs X.env)).imp fun σ H Q h=>
   qwh (fun _ _ _ q=>q) h
 |@compIf t it q elt sr tg iter pq pelt scope pos N hk hcell hfree hloc hlen hsrc hnd hs hi ht htl hq he=>
  have S:=qqt G hk hcell hfree hloc hlen hsrc
  exact(qen G.calm S (qkz A G hi) (fun C fp s H=>qqn (G.inner hk hnd) ht fun i hi' x hx=>.inr (qk4 htl i hi' x hx)) (fun C fp s H=>qb3 (A.t _ _ (G.inner hk hnd) q pq hq)) (fun C fp s H=>A.e _ _ (G.inner hk hnd) elt pelt he) (hs X.env)).imp fun σ H Q h=>
   qwh (fun _ _ _ q=>q) h
end
end MS
end
section
namespace MS
open PySem PySem.Spec PyProof.Rows L2
open M (D Cell Store Sl E S T Src Fn Out R)
section
variable {fns:List Fn}{dl n:Nat}{c:Ctx}{X:Cx}
theorem qv3{K:Qqq}{r:R}{e:E}{σ:L2.St}{H:Hp}{Q:Bool→Hp→Prop}(hr:∀ τ st,M.stepTst r τ st e=(r.ev τ st e).bind fun p=>(M.truth p.2 p.1).map fun k=>(k,p.2))
  (h:tTs K (fun τ st=>M.stepTst r τ st e) σ H Q):(tD K fun τ st=>r.ev τ st e) σ H fun x H'=>∃ k,TruV K x H' k∧Q k H':=by
 refine h.el fun m st τ d st' R0 S0 e0 q=>?_
 have e0:=(hr τ st).symm.trans e0
 obtain⟨d1,s1,e1,e0⟩:=qzr e0
 obtain⟨k,e2,e3⟩:=mapD e0
 cases e3
 exact⟨m,st,τ,d1,s1,R0,S0,e1,fun x m1 H1 b1 t1 R1 i1=>⟨_,qi6 R1 i1 e2,q m1 H1 b1 t1 R1⟩⟩
theorem tt_bl{K:Qqq}{r:R}{e:E}{f:Sl→Store→Option (D×Store)}{σ:L2.St}{H:Hp}{Q:Bool→Hp→Prop}(hr:∀ τ st,M.stepTst r τ st e=(f τ st).bind fun p=>(M.truth p.2 p.1).map fun k=>(k,p.2))(hf:∀ τ st d st',f τ st=some (d,st')→∃ k,d=.bl k)
  (h:tTs K (fun τ st=>M.stepTst r τ st e) σ H Q):tB (tD K f) σ H Q:=by
 refine h.el fun m st τ d st' R0 S0 e0 q=>?_
 have e0:=(hr τ st).symm.trans e0
 obtain⟨d1,s1,e1,e0⟩:=qzr e0
 obtain⟨k,rfl⟩:=hf _ _ _ _ e1
 cases e0
 exact⟨m,st,τ,_,_,R0,S0,e1,fun x m1 H1 b1 t1 R1 i1=>⟨_,i1.bl,q m1 H1 b1 t1 R1⟩⟩
theorem gin_bl{r:R}{τ:Sl}{st st':Store}{neg:Bool}{ks:List Str}{b:E}{d:D}(h:M.ginR r τ st neg ks b=some (d,st')):∃ k,d=.bl k:=by
 unfold M.ginR at h
 obtain⟨d1,s1,e1,h⟩:=qzr h
 cases d1 with
 |str z=>cases h; exact⟨_,rfl⟩
 |_=>cases h
theorem qij{K:Qqq}{r:R}{a b:E}{σ:L2.St}{H:Hp}{Q:Bool→Hp→Prop}(h:tTs K (fun τ st=>M.stepTst r τ st (.and a b)) σ H Q):tAnd (tTs K fun τ st=>r.tst τ st a) (tTs K fun τ st=>r.tst τ st b) σ H Q:=by
 refine h.el fun m st τ d st' R0 S0 e0 q=>?_
 have e0:((r.tst τ st a).bind fun p=>if p.1 then r.tst τ p.2 b else some (false,p.2))=some (d,st'):=e0
 obtain⟨p,e1,e0⟩:=qzf e0
 refine⟨m,st,τ,p.1,p.2,R0,S0,e1,fun m1 H1 b1 t1 R1=>?_⟩
 cases hp:p.1 with
 |true=>
  rw[hp,if_pos rfl]at e0
  rw[if_pos rfl]
  exact⟨m1,p.2,τ,d,st',R1,S0.mono b1 t1,e0,fun m2 H2 b2 t2 R2=>q m2 H2 (b1.trans b2) (t1.trans t2) R2⟩
 |false=>
  rw[hp,if_neg Qqg]at e0
  cases e0
  rw[if_neg Qqg]
  exact q m1 H1 b1 t1 R1
theorem tt_or{K:Qqq}{r:R}{a b:E}{σ:L2.St}{H:Hp}{Q:Bool→Hp→Prop}(h:tTs K (fun τ st=>M.stepTst r τ st (.or a b)) σ H Q):tOr (tTs K fun τ st=>r.tst τ st a) (tTs K fun τ st=>r.tst τ st b) σ H Q:=by
 refine h.el fun m st τ d st' R0 S0 e0 q=>?_
 have e0:((r.tst τ st a).bind fun p=>if p.1 then some (true,p.2) else r.tst τ p.2 b)=some (d,st'):=e0
 obtain⟨p,e1,e0⟩:=qzf e0
 refine⟨m,st,τ,p.1,p.2,R0,S0,e1,fun m1 H1 b1 t1 R1=>?_⟩
 cases hp:p.1 with
 |false=>
  rw[hp,if_neg Qqg]at e0
  rw[if_neg Qqg]
  exact⟨m1,p.2,τ,d,st',R1,S0.mono b1 t1,e0,fun m2 H2 b2 t2 R2=>q m2 H2 (b1.trans b2) (t1.trans t2) R2⟩
 |true=>
  rw[hp,if_pos rfl]at e0
  cases e0
  rw[if_pos rfl]
  exact q m1 H1 b1 t1 R1
theorem qyy{K:Qqq}{m m1:List Addr}{H H1 H2:Hp}{τ:Sl}{σ σ':L2.St}{i:Nat}{d0 d:D}(S0:SlotOk K m H τ σ)(S1:SlotOk K m1 H1 (τ.set i (some d0)) σ')(s:Sub m m1)(t:Tr H1 H2)(hd:∀ v,MS.IsD K m1 H1 d0 v→MS.IsD K m H2 d v):SlotOk K m H2 (τ.set i (some d)) σ':=by
 refine⟨by have:=S1.len; rwa [Qz0]at this ⊢,fun j e ej=>?_⟩
 by_cases hj:i=j
 ·subst hj
  have hi:i<τ.length:=by
   have:=(Qqd.mp ej).1
   rwa [Qz0]at this
  rw[Qzv hi]at ej
  cases ej
  obtain⟨v,e1,q⟩:=S1.at_ i d0 (Qzv hi)
  exact⟨v,e1,hd v q⟩
 ·rw[Qza hj]at ej
  obtain⟨v0,_,q0⟩:=S0.at_ j e ej
  obtain⟨v,e1,q⟩:=S1.at_ j e (by rw[Qza hj]; exact ej)
  exact⟨v,e1,qze (Sub.refl m) t _ _ (qw3 s _ _ _ q0 q)⟩
theorem qg5{p:Stmt}{f:Sl→Store→Option (D×Store)}{i:Nat}(h:PS X p (tS X.K fun τ st=>(f τ st).bind fun q=>(M.setT (.var i) q.1 τ).map fun τ'=>(Out.nx τ',q.2))):
  PS X p (tS X.K fun τ st=>((f τ st).map fun q=>M.gcD st q).bind fun q=>(M.setT (.var i) q.1 τ).map fun τ'=>(Out.nx τ',q.2)):=by
 intro pins s σ H Dn I q
 refine q.el fun m st τ o st' R0 S0 e post=>?_
 obtain⟨d,s1,e1,e⟩:=qzr e
 obtain⟨⟨d0,st0⟩,e2,e3⟩:=mapD e1
 obtain⟨τ',e4,e5⟩:=mapD e
 cases e5
 have e4:(if i<τ.length then some (τ.set i (some d)) else none)=some τ':=e4
 split at e4
 case isFalse=>cases e4
 case isTrue hi=>
  cases e4
  refine thn (h pins s σ H ⟨fun σ' H1=>∃ m1,Sub m m1∧Tr H H1∧Rel X.K m1 st0 H1∧SlotOk X.K m1 H1 (τ.set i (some d0)) σ',fun _ _=>False,fun _ _=>False,fun _ _=>False⟩ I ⟨m,st,τ,.nx (τ.set i (some d0)),st0,R0,S0,by show(f τ st).bind _=_; rw[e2]; show Option.map _ (if i<τ.length then some (τ.set i (some d0)) else none)=_; rw[if_pos hi]; rfl,fun m1 H1 b t R σ' S1=>⟨m1,b,t,R,S1⟩⟩) fun fl s2 hf=>?_
  cases fl with
  |next=>
   obtain⟨σ',H1,I1,m1,b1,t1,R1,S1⟩:=hf
   have plain:(d0,st0)=(d,s1)→SP X pins Dn .next s2:=fun z=>by
    cases z
    exact⟨σ',H1,I1,post m1 H1 b1 t1 R1 σ' S1⟩
   unfold M.gcD at e3
   split at e3
   ·rename_i hp
    split at e3
    ·rename_i hn
     cases e3
     exact⟨σ',H1,I1,post m H1 (Sub.refl m) t1 (R0.cutBack R1 b1 hp (Tr.refl H1) fun _ _ _ _ _ _=>rfl) σ' (qyy S0 S1 b1 (Tr.refl H1) fun v q=>qfg _ _ hn q)⟩
    ·split at e3
     ·rename_i l hd
      simp only at hd
      split at e3
      ·rename_i hl
       split at e3
       ·rename_i ds hc
        split at e3
        ·rename_i hn
         cases e3
         subst hd
         obtain⟨a,ha⟩:=R1.addr hc
         obtain⟨xs,hx,ix⟩:=R1.cell l _ a hc ha
         obtain⟨o,I2⟩:=qwj I1 hx
         have t2:Tr H1 (upd H1 a (.frz o (.lst xs))):=⟨fun b zs e=>by rw[qzy (qjh e hx (by intro z; cases z))]; exact e,fun b o u e=>by rw[qzy (qjh e hx (by intro z; cases z))]; exact e⟩
         refine⟨σ',_,I2,post m _ (Sub.refl m) (t1.trans t2) (R0.cutBack R1 b1 hp t2 fun l' c a' e ea w=>?_) σ' (qyy S0 S1 b1 t2 fun v q=>?_)⟩
         ·refine qzy fun z=>?_
          subst z
          have hlt:=(Qqd.mp e).1
          have:=R1.nd l' l a' c _ (b1 l' a' ea) ha (qeg hp e) hc w rfl
          omega
         ·obtain⟨a',ha',rfl⟩:=q.loc
          rw[ha]at ha'
          cases ha'
          exact qfv (.inl ⟨o,qzn⟩) (qvv _ _ hn (qza (Sub.refl m1) t2 _ _ ix))
        ·exact plain e3
       ·exact plain e3
      ·exact plain e3
     ·exact plain e3
   ·exact plain e3
  |brk=>obtain⟨_,_,_,z⟩:=hf; exact z.elim
  |cont=>obtain⟨_,_,_,z⟩:=hf; exact z.elim
  |ret u=>obtain⟨_,_,_,_,_,z⟩:=hf; exact z.elim
theorem w_ok(A:AllOk fns dl n)(G':Good fns dl c X){e:E}{op:BoolOp}{ps:List Expr}{pos:Pos}(h:CkE c e (.BoolOp op ps pos)):PW X (.BoolOp op ps pos) (tTs X.K fun τ st=>M.stepTst (M.rn fns dl n) τ st e):=by
 have G:=G'
 cases h.out with
 |@and2 a b pa pb pos ha hb=>exact(qiy (A.t c X G a pa ha) (qlh (A.t c X G b pb hb))).imp fun σ H Q h=>qij h
 |@andN a b pa pb pd r pos ha hb=>exact(qiy (A.t c X G a pa ha) (A.w c X G b _ _ _ hb)).imp fun σ H Q h=>qij h
 |@or2 a b pa pb pos ha hb=>exact(pw_or (A.t c X G a pa ha) (pw_or1 (A.t c X G b pb hb))).imp fun σ H Q h=>tt_or h
 |@orN a b pa pb pd r pos ha hb=>exact(pw_or (A.t c X G a pa ha) (A.w c X G b _ _ _ hb)).imp fun σ H Q h=>tt_or h
 |gc hp hg ha=>cases hp
theorem t_ok(A:AllOk fns dl n)(G':Good fns dl c X){e:E}{p:Expr}(h:CkE c e p):PT X p (tTs X.K fun τ st=>M.stepTst (M.rn fns dl n) τ st e):=by
 have G:=G'
 have hu:X.A.units+64<cLine:=G'.room.units
 have hA:=A.e c X G e p h
 cases h.out with
 |@not a pa pos ha=>
  refine(pt_not (A.t c X G a pa ha)).imp fun σ H Q h=>?_
  refine h.el fun m st τ d st' R0 S0 e0 q=>?_
  obtain⟨p,e1,e2⟩:=mapD e0
  cases e2
  exact⟨m,st,τ,p.1,p.2,R0,S0,e1,fun m1 H1 b1 t1 R1=>q m1 H1 b1 t1 R1⟩
 |and2 ha hb=>exact(w_ok A G' (.and2 ha hb)).pt
 |andN ha hb=>exact(w_ok A G' (.andN ha hb)).pt
 |or2 ha hb=>exact(w_ok A G' (.or2 ha hb)).pt
 |orN ha hb=>exact(w_ok A G' (.orN ha hb)).pt
 |@cmp op a b pa pb pos ha hb hm=>
  refine(qli (qe1 hu op) (A.e c X G a pa ha) (A.e c X G b pb hb) hm).imp fun σ H Q h=>?_
  refine h.el fun m st τ d st' R0 S0 e0 q=>?_
  obtain⟨d1,s1,e1,e0⟩:=qzr e0
  obtain⟨d2,s2,e2,e0⟩:=qzr e0
  obtain⟨k,e3,e4⟩:=mapD e0
  cases e4
  exact⟨m,st,τ,d1,s1,R0,S0,e1,fun x m1 H1 b1 t1 R1 i1=>⟨m1,s1,τ,d2,s2,R1,S0.mono b1 t1,e2,fun y m2 H2 b2 t2 R2 i2=>
   ⟨m2,s2,d1,d2,.bl d,s2,R2,qze b2 t2 _ _ i1,i2,by show Option.map _ (M.cmpD s2 op d1 d2)=_; rw[show M.cmpD s2 op d1 d2=some d from e3]; rfl,fun z m3 H3 b3 t3 R3 i3=>⟨d,i3.bl,q m3 H3 (b1.trans (b2.trans b3)) (t1.trans (t2.trans t3)) R3⟩⟩⟩⟩
 |ite hq ha hb=>exact fun pins s σ H Q I q=>by obtain⟨m,st,τ,d,st',_,_,z,_⟩:=q; cases z
 |@gnin x ks ds b pb p0 pos hg hm hd hb=>
  obtain⟨ad,h1,h2⟩:=G.mo.gds x ks ds hm
  exact(pt_cmp (qep true (G.gl hg) h1 h2 hd (A.e c X G b pb hb)) rfl).imp fun σ H Q h=>tt_bl (fun _ _=>rfl) (fun _ _ _ _ z=>gin_bl z) h
 |gc hp hg ha=>
  cases p with
  |Call=>exact(qxl hA fun _=>rfl).imp fun σ H Q h=>qv3 (fun _ _=>rfl) h
  |ListComp=>exact(qxl hA fun _=>rfl).imp fun σ H Q h=>qv3 (fun _ _=>rfl) h
  |List=>exact(qxl hA fun _=>rfl).imp fun σ H Q h=>qv3 (fun _ _=>rfl) h
  |BinOp=>exact(qxl hA fun _=>rfl).imp fun σ H Q h=>qv3 (fun _ _=>rfl) h
  |Subscript=>exact(qxl hA fun _=>rfl).imp fun σ H Q h=>qv3 (fun _ _=>rfl) h
  |_=>cases hp
 |_=>exact(qxl hA fun _=>rfl).imp fun σ H Q h=>qv3 (fun _ _=>rfl) h
theorem S_nx{K:Qqq}{m:List Addr}{H:Hp}{τ:Sl}{st':Store}{Dn:Ends}{σ:L2.St}(p:PostO K m H (.nx τ) st' Dn){m':List Addr}{H':Hp}(b:Sub m m')(t:Tr H H')(R0:Rel K m' st' H')(S0:SlotOk K m' H' τ σ):Dn.nx σ H':=p m' H' b t R0 σ S0
theorem qqz{K:Qqq}{r:R}{i:Nat}{e:E}{te:TE}{Dn:Ends}{σ:L2.St}{H:Hp}(hte:∀ Q,(tD K fun τ st=>r.ev τ st e) σ H Q→te σ H Q)(h:tS K (fun τ st=>M.stepEx r τ st (.set (.var i) e)) Dn σ H):tAsg te (qba i) Dn σ H:=by
 refine h.el fun m st τ o st' R0 S0 e0 q=>?_
 obtain⟨d1,s1,e1,e0⟩:=qzr e0
 obtain⟨τ',e2,e3⟩:=mapD e0
 cases e3
 have e2:(if i<τ.length then some (τ.set i (some d1)) else none)=some τ':=e2
 split at e2
 ·cases e2
  exact hte _ ⟨m,st,τ,d1,s1,R0,S0,e1,fun x m1 H1 b1 t1 R1 i1=>S_nx q b1 t1 R1 ((S0.mono b1 t1).put i1)⟩
 ·cases e2
theorem qej(IH:∀ j,j≤n→AllOk fns dl j)(G:Good fns dl c X)(hf:∀ x,X.fn x=true){i:Nat}{e:E}{x:Str}{p:Expr}{pos pos':Pos}(hi:c.N[i]?=some x)(hl:c.sc.names.lookup x=some .local∨c.sc.names.lookup x=some .cell)(he:CkE c e p)(hg:∀ a,e≠.gc a)(hc:∃ elt gs sc q,p=.ListComp elt gs sc q)(hs:∀ env:Env,env.scope=c.sc→(swapsWith p (some (.Name x pos')) pos.line env=pure false∨swapsWith p (some (.Name x pos')) pos.line env=pure true)):
  PS X (.Assign [.Name x pos'] p pos) (tS X.K fun τ st=>M.stepEx (M.rn fns dl n) τ st (.set (.var i) e)):=by
 have A:=IH n (Qqc n)
 have hN:X.N.Nodup:=by rw[G.N]; exact G.nd
 have loc:∀ {x:Str},(c.sc.names.lookup x=some .local∨c.sc.names.lookup x=some .cell)→Loc X.env.scope x:=fun {x} h=>by show X.env.scope.names.lookup x=_∨_=_; rw[G.sc]; exact h
 rcases hs X.env G.sc with z|z
 ·exact(qyi hN (qkf G hi) (loc hl) (A.e c X G e p he) z (.inl (hf x))).imp fun D σ H h=>qqz (fun _ q=>q) h
 ·cases n with
  |zero=>exact fun pins s σ H Dn I q=>by obtain⟨m,st,τ,d,st',_,_,w,_⟩:=q; cases w
  |succ n=>
   have A1:=IH n (Qx5 n)
   have G1:=G
   obtain⟨elt,gs,sc,q,rfl⟩:=hc
   cases he.out with
   |@comp t it elt' sr tg iter pelt scope cpos N hk hcell hfree hloc hlen hsrc hnd hfs hit ht htl he=>
    have SC:=qqt G1 hk hcell hfree hloc hlen hsrc
    exact(qv6 (tt:=fun _ H Q=>Q true H) G1.calm SC (qkz A1 G1 hit) (fun C fp s H=>qqn (G1.inner hk hnd) ht fun i hi' x hx=>.inr (qk4 htl i hi' x hx)) (fun C fp s H=>qwg) (fun C fp s H=>A1.e _ _ (G1.inner hk hnd) elt' _ he) (hfs X.env) hN (qkf G hi) (loc hl) (.inl (hf x)) z).imp fun D σ H h=>
     qqz (fun Q q=>qwh (fun _ _ _ q=>q) q) h
   |@compIf t it cq elt' sr tg iter pq pelt scope cpos N hk hcell hfree hloc hlen hsrc hnd hfs hit ht htl hq he=>
    have SC:=qqt G1 hk hcell hfree hloc hlen hsrc
    exact(qv6 G1.calm SC (qkz A1 G1 hit) (fun C fp s H=>qqn (G1.inner hk hnd) ht fun i hi' x hx=>.inr (qk4 htl i hi' x hx)) (fun C fp s H=>qb3 (A1.t _ _ (G1.inner hk hnd) cq pq hq)) (fun C fp s H=>A1.e _ _ (G1.inner hk hnd) elt' _ he) (hfs X.env) hN (qkf G hi) (loc hl) (.inl (hf x)) z).imp fun D σ H h=>
     qqz (fun Q q=>qwh (fun _ _ _ q=>q) q) h
   |gc hp hg' ha=>exact(hg _ rfl).elim
theorem s1_ok(IH:∀ j,j≤n→AllOk fns dl j)(G:Good fns dl c X)(hf:∀ x,X.fn x=true){s:S}{p:Stmt}(h:CkS c s p):PS X p (tS X.K fun τ st=>M.stepEx (M.rn fns dl n) τ st s):=by
 have A:=IH n (Qqc n)
 have hN:X.N.Nodup:=by rw[G.N]; exact G.nd
 have loc:∀ {x:Str},(c.sc.names.lookup x=some .local∨c.sc.names.lookup x=some .cell)→Loc X.env.scope x:=fun {x} h=>by show X.env.scope.names.lookup x=_∨_=_; rw[G.sc]; exact h
 cases h with
 |@set i e x p pos pos' hi hl he hs=>exact(qyi hN (qkf G hi) (loc hl) (A.e c X G e p he) (hs X.env) (.inl (hf x))).imp fun D σ H h=>qqz (fun _ q=>q) h
 |@setC i e x p pos pos' hi hl he hc hs=>
  by_cases hgc:∃ a,e=.gc a
  ·obtain⟨a,rfl⟩:=hgc
   cases he.out with
   |gc hp hg ha=>
    cases n with
    |zero=>exact fun pins s σ H Dn I q=>by obtain⟨m,st,τ,d,st',_,_,w,_⟩:=q; cases w
    |succ n=>exact(qg5 (qej (fun j hj=>IH j (Nat.le_succ_of_le hj)) G hf hi hl ha hg hc hs)).imp fun _ _ _ q=>q
  ·exact qej IH G hf hi hl he (fun a z=>hgc ⟨a,z⟩) hc hs
 |rais=>exact fun pins s σ H Dn I q=>by obtain⟨m,st,τ,d,st',_,_,z,_⟩:=q; cases z
 |@dset a i e pa pi pe tpos pos ha hi he hs=>
  refine(qln (by have:=G.room.units; omega) (A.e c X G a pa ha) (A.e c X G i pi hi) (A.e c X G e pe he) (hs X.env)).imp fun Dn σ H h=>?_
  refine h.el fun m st τ o st' R0 S0 e0 q=>?_
  obtain⟨d1,s1,e1,e0⟩:=qzr e0
  obtain⟨d2,s2,e2,e0⟩:=qzr e0
  obtain⟨d3,s3,e3,e0⟩:=qzr e0
  cases d2 with
  |loc l=>
   have e0:((M.dicAt s3 l).bind fun kvs=>if M.isKey d3&&decide (kvs.length<M.lim) then some (Out.nx τ,s3.set l (.dic (M.dput kvs d3 d1))) else none)=some (o,st'):=e0
   obtain⟨kvs,e4,e0⟩:=qzf e0
   split at e0
   ·rename_i hk
    cases e0
    rw[Qqk,decide_eq_true_eq]at hk
    obtain⟨k,hk1⟩:=qjm hk.1
    refine⟨m,st,τ,d1,s1,R0,S0,e1,fun x m1 H1 b1 t1 R1 i1=>⟨m1,s1,τ,.loc l,s2,R1,S0.mono b1 t1,e2,fun y m2 H2 b2 t2 R2 i2=>⟨m2,s2,τ,d3,s3,R2,S0.mono (b1.trans b2) (t1.trans t2),e3,fun z m3 H3 b3 t3 R3 i3=>?_⟩⟩⟩
    obtain⟨a',xs,ha',rfl,hH,hkv,hst⟩:=R3.dict e4 (qze b3 t3 _ _ i2)
    have hz:=qma hk1 i3
    subst hz
    have l1:=hkv.length
    have l2:=qqq
    refine⟨a',_,rfl,DPut.k hH (by omega),?_⟩
    have iv:=qze (b2.trans b3) (t2.trans t3) _ _ i1
    exact S_nx q (b1.trans (b2.trans b3)) (t1.trans (t2.trans (t3.trans (Tr.putD hH)))) (R3.putD hst ha' hH (hkv.put hk1 iv)) (S0.mono (b1.trans (b2.trans b3)) (t1.trans (t2.trans (t3.trans (Tr.putD hH)))))
   ·cases e0
  |_=>cases e0
 |@expr e p pos he hs=>
  refine(qlm (A.e c X G e p he) (hs X.env)).imp fun Dn σ H h=>?_
  refine h.el fun m st τ o st' R0 S0 e0 q=>?_
  obtain⟨p,e1,e2⟩:=mapD e0
  cases e2
  exact⟨m,st,τ,p.1,p.2,R0,S0,e1,fun x m1 H1 b1 t1 R1 i1=>S_nx q b1 t1 R1 (S0.mono b1 t1)⟩
 |@ret e p pos he=>
  refine(qef (A.e c X G e p he)).imp fun Dn σ H h=>?_
  refine h.el fun m st τ o st' R0 S0 e0 q=>?_
  obtain⟨p,e1,e2⟩:=mapD e0
  cases e2
  exact⟨m,st,τ,p.1,p.2,R0,S0,e1,fun x m1 H1 b1 t1 R1 i1=>q m1 H1 b1 t1 R1 x i1⟩
 |@ite q a b pq pa pb pos hq ha hb=>
  refine(qll (A.t c X G q pq hq) (A.s c X G hf a pa ha) (A.s c X G hf b pb hb)).imp fun Dn σ H h=>?_
  refine h.el fun m st τ o st' R0 S0 e0 post=>?_
  obtain⟨p,e1,e0⟩:=qzf e0
  refine⟨m,st,τ,p.1,p.2,R0,S0,e1,fun m1 H1 b1 t1 R1=>?_⟩
  cases hp:p.1 with
  |true=>
   rw[hp,if_pos rfl]at e0
   rw[if_pos rfl]
   exact⟨m1,p.2,τ,o,st',R1,S0.mono b1 t1,e0,post.mono b1 t1⟩
  |false=>
   rw[hp,if_neg Qqg]at e0
   rw[if_neg Qqg]
   exact⟨m1,p.2,τ,o,st',R1,S0.mono b1 t1,e0,post.mono b1 t1⟩
 |@forr t it body tg iter pb pos ht hi hs hb=>
   refine(ps_for (by rw[G.xe]; exact PassesOwn.never) G.calm (qkz A G hi) (qqn G ht fun i _ x _=>.inl (hf x)) (A.s c X G hf body pb hb) (hs X.env)).imp fun Dn σ H h=>?_
   refine h.el fun m st τ o st' R0 S0 e0 post=>?_
   obtain⟨p,e1,e0⟩:=qzf e0
   refine⟨m,st,τ,p.1,p.2,R0,S0,e1,fun m1 H1 J b1 t1 R1 hJ=>?_⟩
   refine⟨fun j k σ' H'=>∃ m2 st2 τ2,Sub m1 m2∧Tr H1 H'∧Rel X.K m2 st2 H'∧SlotOk X.K m2 H' τ2 σ'∧M.loop p.1 (fun τ st d=>(M.setT t d τ).bind fun τ'=>(M.rn fns dl n).ex τ' st body) k j τ2 st2=some (o,st'),
    ⟨_,m1,p.2,τ,Sub.refl _,Tr.refl _,R1,S0.mono b1 t1,e0⟩,?_⟩
   rintro j k σ' H' ⟨m2,st2,τ2,b2,t2,R2,S2,e4⟩
   cases k with
   |zero=>cases e4
   |succ k=>
    have e4:(p.1.at st2 j).bind (fun o=>match o with
     |none=>some (Out.nx τ2,st2)
     |some d=>((M.setT t d τ2).bind fun τ'=>(M.rn fns dl n).ex τ' st2 body).bind fun z=>match z.1 with
      |.nx τ'=>M.loop p.1 (fun τ st d=>(M.setT t d τ).bind fun τ'=>(M.rn fns dl n).ex τ' st body) k (j+1) τ' z.2
      |.ct τ'=>M.loop p.1 (fun τ st d=>(M.setT t d τ).bind fun τ'=>(M.rn fns dl n).ex τ' st body) k (j+1) τ' z.2
      |.bk τ'=>some (.nx τ',z.2)
      |.rt v=>some (.rt v,z.2))=some (o,st'):=e4
    obtain⟨oo,e5,e4⟩:=qzf e4
    cases oo with
    |none=>
     cases e4
     exact .inl ⟨(hJ.mono b2 t2).done R2 e5,S_nx post (b1.trans b2) (t1.trans t2) R2 S2⟩
    |some d=>
     obtain⟨hgo,hy⟩:=(hJ.mono b2 t2).next R2 e5
     dsimp only at e4
     obtain⟨z,e6,e4⟩:=qzf e4
     obtain⟨τ3,e7,e6⟩:=qzf e6
     refine .inr ⟨hgo,fun σ3 H3=>∃ m3 st3 τ3,Sub m1 m3∧Tr H1 H3∧Rel X.K m3 st3 H3∧SlotOk X.K m3 H3 τ3 σ3∧M.loop p.1 (fun τ st d=>(M.setT t d τ).bind fun τ'=>(M.rn fns dl n).ex τ' st body) k (j+1) τ3 st3=some (o,st'),fun σ3 H3 w3=>⟨k,Qzo k,w3⟩,fun x H2 hyl=>?_⟩
     obtain⟨sm,ix⟩:=hy x H2 hyl
     have t2:=t2.trans (Tr.of_same sm)
     have R2:=R2.same sm
     have S2:=S2.mono (Sub.refl _) (Tr.of_same sm)
     refine qhh ix S2 e7 fun σ3 S3=>?_
     refine⟨m2,st2,_,z.1,z.2,R2,S3,e6,fun m3 H3 b3 t3 R3=>?_⟩
     cases hz:z.1 with
     |nx τ4=>
      rw[hz]at e4
      exact fun σ4 S4=>⟨m3,z.2,τ4,b2.trans b3,t2.trans t3,R3,S4,e4⟩
     |ct τ4=>
      rw[hz]at e4
      exact fun σ4 S4=>⟨m3,z.2,τ4,b2.trans b3,t2.trans t3,R3,S4,e4⟩
     |bk τ4=>
      rw[hz]at e4
      cases e4
      exact fun σ4 S4=>S_nx post (b1.trans (b2.trans b3)) (t1.trans (t2.trans t3)) R3 S4
     |rt v=>
      rw[hz]at e4
      cases e4
      exact fun w iw=>post m3 H3 (b1.trans (b2.trans b3)) (t1.trans (t2.trans t3)) R3 w iw
theorem qlj(IH:∀ j,j≤n→AllOk fns dl j)(G:Good fns dl c X)(hf:∀ x,X.fn x=true):∀ {ss:List S}{ps:List Stmt},CkSs c ss ps→PSs X ps (tS X.K fun τ st=>M.exs (M.stepEx (M.rn fns dl n)) ss τ st)
 |_,_,.nil=>pss_nil.imp fun Dn σ H h=>by
  refine h.el fun m st τ o st' R0 S0 e0 q=>?_
  cases e0
  exact q m H (Sub.refl m) (Tr.refl H) R0 _ S0
 |_,_,.doc t=>(qzs qia (qlj IH G hf t)).imp fun Dn σ H h=>h
 |_,_,.cons (s:=s) (ss:=ss) h t=>(qzs (s1_ok IH G hf h) (qlj IH G hf t)).imp fun Dn σ H hq=>by
  refine hq.el fun m st τ o st' R0 S0 e0 q=>?_
  obtain⟨p,e1,e0⟩:=qzf e0
  refine⟨m,st,τ,p.1,p.2,R0,S0,e1,fun m1 H1 b1 t1 R1=>?_⟩
  cases hp:p.1 with
  |nx τ1=>
   rw[hp]at e0
   exact fun σ1 S1=>⟨m1,p.2,τ1,o,st',R1,S1,e0,q.mono b1 t1⟩
  |rt d=>
   rw[hp]at e0
   cases e0
   exact q m1 H1 b1 t1 R1
  |bk d=>
   rw[hp]at e0
   cases e0
   exact q m1 H1 b1 t1 R1
  |ct d=>
   rw[hp]at e0
   cases e0
   exact q m1 H1 b1 t1 R1
end
theorem qms(fns:List Fn)(dl:Nat):∀ n j,j≤n→AllOk fns dl j:=by
 intro n
 induction n with
 |zero=>intro j h; rw[Nat.le_zero.mp h]; exact qdn fns dl
 |succ n ih=>
  intro j h
  rcases Nat.lt_or_ge j (n+1) with z|z
  ·exact ih j (by omega)
  ·have e:j=n+1:=by omega
   subst e
   have A:=ih n (Qqc n)
   exact⟨fun c X G e p h=>e_ok A G h,fun c X G e p h=>t_ok A G h,fun c X G e op ps pos h=>w_ok A G h,fun c X G hf ss ps h=>qlj ih G hf h⟩
structure FText (K:Qqq) (mg:Str→Option Value) (fns:List Fn) (names:List Str) (glo:Glo) (f:Nat) (x:Str):Prop where
 ex:∃ (fa:Addr) (fd:FuncData) (st:Stmt) (N ps:List Str) (F:Fn),fns[f]?=some F∧Fun K x x st fa fd∧mg x=some (.ref fa)∧Binds K fd ps []∧FnScope N ps (qzq st)∧CkSs ⟨N,qzq st,names,glo⟩ F.body (qzv st)∧F.np=ps.length∧F.nl=N.length
theorem qim{P:Program}{w:World}{K:Qqq}{mg:Str→Option Value}{base:Heap}{fns:List Fn}{names:List Str}{glo:Glo}{n f:Nat}{x:Str}{fa:Addr}{fd:FuncData}{st:Stmt}{N ps:List Str}{F:Fn}(ih:FTab P w K mg base fns names n)(Mg:Mo K mg glo w.params)
  (hF:fns[f]?=some F) (hfun:Fun K x x st fa fd) (hsc:FnScope N ps (qzq st)) (hck:CkSs ⟨N,qzq st,names,glo⟩ F.body (qzv st)) (hnp:F.np=ps.length) (hnl:F.nl=N.length):FnOk P w K mg base CX0 (n+1) fa fd ps (spN K fns (n+1) f):=by
 have unf:∀ {ds:List D}{st0 st':Store}{d:D},M.callD fns (n+1) f ds st0=some (d,st')→ds.length=F.np∧((M.Lv fns n).ex (ds.map some++List.replicate (F.nl - ds.length) none) st0 F.body).bind (fun p=>match p.1 with
   |.rt d=>some (d,p.2)
   |.nx _=>some (D.non,p.2)
   |_=>none)=some (d,st'):=fun {ds st0 st' d} e=>by
  have e:M.stepCall fns (M.Lv fns n) f ds st0=some (d,st'):=e
  unfold M.stepCall at e
  rw[hF]at e
  dsimp only at e
  split at e
  ·rename_i hl
   exact⟨hl,e⟩
  ·cases e
 refine hfun.ok hsc (fun vs H Q E h=>?_) (fun cdv A outer s H vs Q E hr h=>?_)
 ·obtain⟨m,st0,ds,d,st',_,ix,e,_⟩:=h
  rw[← ix.length,(unf e).1,hnp]
 ·obtain⟨m,st0,ds,d,st',R0,ix,e,q⟩:=h
  obtain⟨hl,e⟩:=unf e
  obtain⟨p,e1,e2⟩:=qzf e
  obtain⟨k,e1⟩:=M.lim1_is e1
  have G:Good fns n ⟨N,qzq st,names,glo⟩ (cxOf CX0 P w K mg base N x (qzq st) fa cdv A outer s H E).nox:=⟨hr,rfl,rfl,rfl,hsc.nd,hsc.kind,ih,Mg,rfl⟩
  refine⟨_,(qms fns n k k (Qqc k)).s _ _ G (fun _=>rfl) F.body (qzv st) hck,?_⟩
  refine⟨m,st0,ds.map some++List.replicate (F.nl - ds.length) none,p.1,p.2,R0,⟨?_,fun i d0 hi=>?_⟩,e1,fun m1 H1 b1 t1 R1=>?_⟩
  ·unfold L2.start
   rw[Qqu,Qqu,Qqj,Qqj,Qzh,Qzh,hnl,ix.length]
  ·unfold L2.start
   by_cases hlt:i<ds.length
   ·rw[Qq7 (by simpa using hlt),Qqn]at hi
    have e3:ds[i]?=some d0:=by
     cases z:ds[i]? with
     |none=>rw[z]at hi; cases hi
     |some y=>rw[z]at hi; cases hi; rfl
    obtain⟨v,e4,iv⟩:=ix.get e3
    refine⟨v,?_,iv⟩
    rw[Qq7 (by rw[Qqj,← ix.length]; exact hlt),Qqn,e4]
    rfl
   ·rw[Qq8 (by simpa using hlt),Qxx]at hi
    split at hi<;>cases hi
  ·cases hp:p.1 with
   |rt d1=>
    rw[hp]at e2
    cases e2
    exact fun v iv=>q v m1 H1 b1 t1 R1 iv
   |nx τ1=>
    rw[hp]at e2
    cases e2
    exact fun σ1 S1=>q _ m1 H1 b1 t1 R1 qyu
   |bk d1=>rw[hp]at e2; cases e2
   |ct d1=>rw[hp]at e2; cases e2
noncomputable def qgs(K:Qqq):Sp:=fun vs H Q _=>∃ (a:Addr) (ns:List Int),vs=[.ref a]∧SqF K H a (ns.map V.int)∧ns.length≤63∧∀ H',Q (.bl true) H'
theorem law_sp{K:Qqq}{fns:List Fn}{n f:Nat}(h:∀ ns:List Int,ns.length≤63→∃ st',M.callD fns n f [.lst (ns.map D.int)] []=some (.bl true,st'))(vs:List V)(H:Hp)(Q:VK)(E:XK)(q:qgs K vs H Q E):spN K fns n f vs H Q E:=by
 obtain⟨a,ns,rfl,hS,hl,k⟩:=q
 obtain⟨st',e⟩:=h ns hl
 refine⟨[],[],[.lst (ns.map D.int)],.bl true,st',⟨rfl,fun l l' b c c' e1 e2 e3 e4 w w'=>?_,fun l c b e1 e2=>?_⟩,qzw (qfv hS (qvw ns)) qz7,e,fun v m' H' _ _ _ i=>?_⟩
 ·simp at e3
 ·simp at e1
 ·rw[i.bl]; exact k H'
theorem ql7{K:Qqq}{H:Hp}{a:Addr}{xs:List V}(hO:Only H)(h:SqL K H a xs):SqF K H a xs:=by
 rcases h with (h|⟨o,h⟩)|h
 ·rcases hO a with z|⟨ob,ys,z⟩
  ·rw[h]at z; cases z
  ·rw[h]at z; cases z
 ·exact .inl ⟨o,h⟩
 ·exact .inr h
theorem walk_law{l:PySem.W.OpenLaw}{k:Nat}{q:Program}{loose:List Str}{XP:(Str→Option Value)→Heap→Prop}{YP:World→Heap→Prop}{d:DefRec}{K:Params→Qqq}{x:Str}(hn:l.most=some 63)(hdf:d.params.defaults=[])(hr:Room k callerA)
  (hY:∀ (w:World) (h:Heap),YP w h→(K w.params).In h)
  (F:∀ (w:World) (mg:Str→Option Value) (fa:Addr) (h:Heap),(K w.params).In h→h.Ns mainGlobals mg→mg d.name=some (.ref fa)→
   ∃ fd:FuncData,(∀ (s:Shared) (u:Value),BindsTo s fd ⟨[u],[]⟩ [(x,u)])∧∀ base:Heap,(K w.params).In base→base.Ns mainGlobals mg→FnOk l.prog w (K w.params) mg base CX0 k fa fd [x] (qgs (K w.params))) :
  PySem.W.WalkO q loose XP YP l.row.toRowW d [] (fun f vs=>PySem.call f vs):=
 L2.walk_of (n:=63) (k:=k) (x:=x) (CX:=fun _=>CX0) (sp:=fun w=>qgs (K w.params)) hn (by decide) hdf hr hY F (fun _ _ a ns hl hO hS=>⟨a,ns,rfl,ql7 hO hS,hl,fun _=>rfl⟩) fun _ _ _ _ _ z=>z
noncomputable def srcOk(sr:List (Option Nat))(N cN:List Str)(scope:Scope):Bool:=(List.range sr.length).all fun j=>match sr[j]? with
 |some (some i)=>match N[j]? with
  |some x=>cN[i]?==some x&&scope.names.lookup x==some .free
  |none=>false
 |_=>true
theorem qik{sr:List (Option Nat)}{N cN:List Str}{scope:Scope}(h:srcOk sr N cN scope=true):∀ (j i:Nat),sr[j]?=some (some i)→∃ x,N[j]?=some x∧cN[i]?=some x∧scope.names.lookup x=some .free:=by
 intro j i e
 unfold srcOk at h
 rw[Qq3]at h
 have:=h j (Qzn.mpr (Qqd.mp e).1)
 rw[e]at this
 dsimp only at this
 split at this
 ·rename_i x hx
  rw[Qqk,beq_iff_eq,beq_iff_eq]at this
  exact⟨x,hx,this.1,this.2⟩
 ·cases this
theorem qkt(elt:Expr)(gs:List Comprehension)(sc:Scope)(q:Pos)(t:Str)(p:Pos)(line:Nat)(env:Env):swapsWith (.ListComp elt gs sc q) (some (.Name t p)) line env=pure false∨swapsWith (.ListComp elt gs sc q) (some (.Name t p)) line env=pure true:=by
 have e:swapsWith (.ListComp elt gs sc q) (some (.Name t p)) line env=pure (env.blockKind==.function&&env.kindOf t==some .local&&p.line==q.line && !(sc.names.any fun(n,k)=>n==t&&(k==.local||k==.cell))):=rfl
 rw[e]
 cases (env.blockKind==.function&&env.kindOf t==some .local&&p.line==q.line && !(sc.names.any fun(n,k)=>n==t&&(k==.local||k==.cell))) with
 |false=>exact .inl rfl
 |true=>exact .inr rfl
inductive FnK (K:Qqq) (x:Str) (st:Stmt):Addr→FuncData→Prop
 |mk {f:Addr}{od an:Option Addr}{sl:Array (Option Value)}{oc kV dc pm cd ct:Value}(a:Qqp K mainGlobals x=some (some (.ref f))) (l:K.lookup f=some ⟨oc,od,.func (PySem.W.fnOf x x (qq9 st) (qzv st) (qzq st) .none kV dc pm an cd ct),sl⟩) (c:PySem.W.codeIn K cd x=true) (k:Qzw K (.ref f)=true):FnK K x st f (PySem.W.fnOf x x (qq9 st) (qzv st) (qzq st) .none kV dc pm an cd ct)
theorem FnK.text{K:Qqq}{h:Heap}{mg:Str→Option Value}{fns:List Fn}{names:List Str}{glo:Glo}{f:Nat}{x:Str}{st:Stmt}{fa:Addr}{fd:FuncData}{N ps:List Str}(q:FnK K x st fa fd)(X:K.In h)(G:h.Ns mainGlobals mg)(F:Fn)(sc:FnScope N ps (qzq st))(ck:CkSs ⟨N,qzq st,names,glo⟩ F.body (qzv st))(hF:fns[f]?=some F)(hnp:F.np=ps.length)(hnl:F.nl=N.length)
  (b:∀ (kV doc pm:Value) (an:Option Addr) (cdv ct:Value) (us:List Value),us.length=ps.length→bindArgs (PySem.W.fnOf x x (qq9 st) (qzv st) (qzq st) .none kV doc pm an cdv ct) ⟨us,[]⟩=pure (ps.zip us)):FText K mg fns names glo f x:=by
 cases q with
 |mk a l c k=>exact⟨_,_,st,N,ps,F,hF,qy8 l c k,Qze X G a,(qy8 l c k).binds b,sc,ck,hnp,hnl⟩
inductive NoB (K:Qqq):Prop
 |mk (z0:Qqp K mainGlobals "len" = some none) (z1:Qqp K mainGlobals "min" = some none) (z2:Qqp K mainGlobals "max" = some none) (z3:Qqp K mainGlobals "tuple" = some none) (z4:Qqp K mainGlobals "list" = some none) (z5:Qqp K mainGlobals "all" = some none) (z6:Qqp K mainGlobals "sorted" = some none) (z7:Qqp K mainGlobals "isinstance" = some none) (z8:Qqp K mainGlobals "range" = some none) (z9:Qqp K mainGlobals "int" = some none) (z10:Qqp K mainGlobals "bool" = some none) (z11:Qqp K mainGlobals "str" = some none) (z12:Qqp K mainGlobals "zip" = some none) (z13:Qqp K mainGlobals "any" = some none) (z14:Qqp K mainGlobals "enumerate" = some none) (z15:Qqp K mainGlobals "reversed" = some none) (z16:Qqp K mainGlobals "sum" = some none) (z17:Qqp K mainGlobals "set" = some none) (z18:Qqp K mainGlobals "dict" = some none):NoB K
theorem NoB.mo{K:Qqq}{h:Heap}{mg:Str→Option Value}{glo:Glo}{prm:Params}(z:NoB K)(X:K.In h)(G:h.Ns mainGlobals mg)(h1:∀ x ks ds,(x,ks,ds)∈glo.ds→∃ a,mg x=some (.ref a)∧FDict prm K a ks ds)(h2:∀ x d,(x,d)∈glo.cs→∃ u v,mg x=some u∧RelV v u∧∀ m H,IsD K m H d v):Mo K mg glo prm:=by
 obtain⟨z0,z1,z2,z3,z4,z5,z6,z7,z8,z9,z10,z11,z12,z13,z14,z15,z16,z17,z18⟩:=z
 exact⟨h1,h2,Qqm X G z0,Qqm X G z1,Qqm X G z2,Qqm X G z3,Qqm X G z4,Qqm X G z5,Qqm X G z6,Qqm X G z7,Qqm X G z8,Qqm X G z9,Qqm X G z10,Qqm X G z11,Qqm X G z12,Qqm X G z13,Qqm X G z14,Qqm X G z15,Qqm X G z16,Qqm X G z17,Qqm X G z18⟩
inductive TupK (K:Qqq) (a:Addr) (vs:Array Value):Prop
 |mk {gd:Option Addr}{gn:Nat}{gs:Array (Option Value)}(h:K.lookup a=some ⟨.type "tuple",gd,.seq vs gn,gs⟩):TupK K a vs
end MS
end
section
namespace MS
open PySem PySem.Spec PyProof.Rows L2
theorem qmd{X:Cx}{pins:List (Addr×Obj)}{σ:L2.St}{H:Hp}{s:Shared}{h':Heap}{n:Nat}(I:Inv X pins σ H s)(hn:X.s₀.heap.objs.size≤n)(hL:X.env.locals<n)(hC:∀ x c,X.env.cells.lookup x=some c→c<n)(hp:∀ p∈X.pn++pins,p.1<n)
  (cov:∀ b o,s.heap.get? b=some o→(b<n∨H b≠none)→b ∉ frs X.stack→h'.get? b=some o) (up:s.heap.UpToSlots h'):Inv X pins σ H { s with heap:=h' }:=by
 classical
 have nfs:∀ b,H b≠none→b ∉ frs X.stack:=fun b h z=>h (I.stkFree b z)
 have frm:∀ b o,s.heap.get? b=some o→b∈frs X.stack→∃ sl,h'.get? b=some { o with slots:=sl }:=fun b o e hb=>by
  obtain⟨_,o',e',d⟩:=I.stack.mem hb
  rw[e]at e'
  cases e'
  exact up b o e d
 have sub:∀ b∈X.fs,b∈frs X.stack:=fun b hb=>by
  rcases I.ok.stk with e|⟨e,hf⟩
  ·rw[e]; exact hb
  ·rw[e]; unfold frs; rw[Qzt,hf]; exact Qqy _ hb
 have big:∀ b o,s.heap.get? b=some o→b ∉ (List.range s.heap.objs.size).filter (fun b=>decide (n≤b∧H b=none))→b<n∨H b≠none:=fun b o e hb=>by
  rcases Nat.lt_or_ge b n with z|z
  ·exact .inl z
  ·refine .inr fun q=>hb (Qxy.mpr ⟨Qzn.mpr (Qqf e),decide_eq_true ⟨z,q⟩⟩)
 refine I.step (g':=s.gens) (t':=s.toks) (d':=s.drawn) (ch:=(List.range s.heap.objs.size).filter fun b=>decide (n≤b∧H b=none)) (fun b hb=>?_) (fun b o l f hb e q=>?_) (fun b o l f hb e q=>frm b o e (sub b f)) (fun _ _ _ _ q=>q) (fun b o hb e=>?_) (fun _ _ e=>e) (fun _ _ _ e=>e) (fun b ps e=>⟨#[],by rw[e]; simp⟩) (fun m q=>up.ns q) (fun b u e=>?_) I.bare
 ·obtain⟨z1,z2⟩:=of_decide_eq_true (Qxy.mp hb).2
  exact⟨.inr (Qq9 hn z1),fun z=>Qx9.mpr hL (by rw[← z]; exact z1),fun x c e z=>Qx9.mpr (hC x c e) (by rw[z]; exact z1),fun p q z=>Qx9.mpr (hp p q) (by rw[z]; exact z1)⟩
 ·refine cov b o e (big b o e hb) fun z=>?_
  rcases Qqw.mp (I.stkSub b z) with z|z
  ·exact l z
  ·exact f z
 ·by_cases hf:b∈frs X.stack
  ·obtain⟨sl,q⟩:=frm b o e hf
   exact⟨_,q⟩
  ·exact⟨o,cov b o e (big b o e hb) hf⟩
 ·refine(I.hok b u e).stay (fun c v hc q=>?_) (fun _ q=>q) fun _ _ q=>q
  have hz:H c≠none:=by
   rcases hc with z|z
   ·rw[z,e]; exact fun q=>nomatch q
   ·rw[z]; exact fun q=>nomatch q
  exact cov c v q (.inr hz) (nfs c hz)
structure Fl (C:Addr) (l:List Env) (n:Nat) (H:Hp) (ea t:Addr) (g B h:Heap):Prop where
 cov:∀ b o,g.get? b=some o→(b<n∨H b≠none)→b ∉ frs l→B.get? b=some o
 up:g.UpToSlots h
 stay:B.StaysIn h
 new:B.get? ea=none
 fr:h.FunFrames B l
 tr:∃ fl,h.TracedAtW B ea (.ref C) (.ref t) fl
theorem Fl.turn{C:Addr}{l:List Env}{n:Nat}{H:Hp}{ea t:Addr}{g B h h':Heap}(x:Fl C l n H ea t g B h)(st:B.StaysIn h')(fr:h'.FunFrames B l)(up:h.UpToSlots h')(tr:∃ fl,h'.TracedAtW B ea (.ref C) (.ref t) fl):Fl C l n H ea t g B h':=
 ⟨x.cov,x.up.trans up,st,x.new,fr,tr⟩
noncomputable def CXr(P:Program)(w:World)(C:Addr):CXT:=fun outer H s E e s'=>∃ H' ea t g B,e=.ref ea∧s'.os=s.os∧AllBare s'.gens∧Un (frs outer) [] H H' s.heap g∧HOk P w H' g∧Fl C outer s.heap.objs.size H' ea t g B s'.heap∧E .none none H'
def Air(C:Addr)(X:Cx)(pins:List (Addr×Obj))(σ:L2.St)(H:Hp)(e:Value)(s:Shared):Prop:=
 ∃ g n ea t B,e=.ref ea∧Inv X pins σ H { s with heap:=g }∧X.s₀.heap.objs.size≤n∧X.env.locals<n∧(∀ x c,X.env.cells.lookup x=some c→c<n)∧(∀ p∈X.pn++pins,p.1<n)∧Fl C X.stack n H ea t g B s.heap
inductive Thr (C:Addr) (X:Cx) (P:Hp→Prop):Value→Shared→Prop
 |made {pins σ H s h' ea vs} (I:Inv X pins σ H s) (x:Heap.MadeExcOf s.heap h' ea (.ref C) vs) (p:P H):Thr C X P (.ref ea) { s with heap:=h' }
 |air {pins σ H e s} (a:Air C X pins σ H e s) (p:P H):Thr C X P e s
section
variable {X:Cx}{pins:List (Addr×Obj)}{σ:L2.St}{H H':Hp}{s s':Shared}{C:Addr}{e:Value}
theorem Inv.cell_lt(I:Inv X pins σ H s){x:Str}{c:Addr}(e:X.env.cells.lookup x=some c):c<s.heap.objs.size:=by
 obtain⟨v,q⟩:=I.cell x c e
 exact q.lt
theorem Inv.air{E:XK}(I:Inv X pins σ H s)(c:CXr X.prog X.w C X.stack H s E e s'):∃ H',Air C X pins σ H' e s'∧E .none none H':=by
 obtain⟨H',ea,t,g,B,rfl,os,bare,un,hok,fl,q⟩:=c
 exact⟨H',⟨g,s.heap.objs.size,ea,t,B,rfl,I.call' (s':={ s' with heap:=g }) (ch:=[]) os un hok bare (fun b z=>absurd z (by simp)),I.sz,I.lt,fun x c e=>Inv.cell_lt I e,fun p hp=>Qqf (I.pin p hp).1,fl⟩,q⟩
theorem Air.land(a:Air C X pins σ H e s):Inv X pins σ H s:=by
 obtain⟨g,n,ea,t,B,rfl,I,h1,h2,h3,h4,fl⟩:=a
 exact qmd (s:={ s with heap:=g }) (h':=s.heap) I h1 h2 h3 h4 (fun b o q z nf=>fl.stay b o (fl.cov b o q z nf)) fl.up
end
theorem ql9{e:Value}{env env':Env}(h:env.frame=env'.frame):noteFrame e env=noteFrame e env':=by
 unfold noteFrame PySem.frameOf
 rw[h]
section
variable {M:Model}{A:Around}{E:Value→Shared→Prop}{s:Shared}{Q:Unit→Shared→Prop}{C:Addr}{l:List Env}{n:Nat}{H:Hp}{ea t L:Addr}{g B:Heap}
theorem qws{env:Env}(hfr:A.frames=some (env::l))(hf:env.frame=some L)(x:Fl C (env::l) n H ea t g B s.heap)
  (h:∀ h',Fl C (env::l) n H ea t g B h'→Q () { s with heap:=h' }):wpAny M A (noteFrame (.ref ea) env) Q E s:=by
 obtain⟨fl,tr⟩:=x.tr
 by_cases hq:fl=rawInt L
 ·subst hq
  exact wpAny_noteFrame_againW hf tr (h s.heap x)
 ·obtain⟨oe,vs,T,oT,ts,e1,⟨e2,e3⟩,e4,e5,e6,e7,e8,e9,e10⟩:=tr
  unfold noteFrame
  simp only[hf]
  refine wpAny_bind (wpAny_field e1 e4 e5 ?_); rw[if_pos (by simp)]
  refine wpAny_bind (wpAny_field e8 e9 e10 ?_); rw[if_neg (by simpa using hq)]
  refine wpAny_bind (wpAny_setField e8 e9 (Qz4.mp e10).1 ?_)
  have nT:∀ b,b≠T→(s.heap.update T (Obj.mapFields (·.setIfInBounds 3 Value.none))).get? b=s.heap.get? b:=fun b hb=>Qzg _ _ (Ne.symm hb)
  have rec_:∀ b o,s.heap.get? b=some o→(∀ vs,o.data≠.fields vs)→b≠T:=fun b o hb hd z=>by
   rw[z,e8]at hb
   cases hb
   exact hd ts e9
  have st:B.StaysIn (s.heap.update T (Obj.mapFields (·.setIfInBounds 3 Value.none))):=fun b o hb=>(nT b fun z=>by rw[z,e6]at hb; cases hb).trans (x.stay b o hb)
  refine wpAny_entryW hfr (x.fr.of_keeps fun b o hb hd=>⟨o,(nT b (rec_ b o hb hd)).trans hb,rfl⟩) hf ((nT ea (Ne.symm e7)).trans e1) st x.new e4 (Qz4.mp e5).1 e3 fun h' N=>h h' ?_
  obtain⟨n1,n2,n3,n4⟩:=N
  exact x.turn n1 n2 (fun b o hb hd=>n4 b o ((nT b (rec_ b o hb hd)).trans hb) hd) ⟨_,by rw[← e2]; exact n3⟩
theorem qxp{fr:Option Addr}(x:Fl C l n H ea t g B s.heap)(h:∀ h',Fl C l n H ea t g B h'→Q () { s with heap:=h' }):wpAny M A (setFlight (.ref ea) fr) Q E s:=by
 obtain⟨fl,oe,vs,T,oT,ts,e1,e2,e4,e5,e6,e7,e8,e9,e10⟩:=x.tr
 unfold setFlight
 refine wpAny_bind (wpAny_field e1 e4 e5 ?_); rw[if_pos (by simp)]
 have h3:3<ts.size:=(Qz4.mp e10).1
 have nT:∀ b,b≠T→(s.heap.update T (Obj.mapFields (·.setIfInBounds 3 (fr.elim Value.none fun f=>rawInt f)))).get? b=s.heap.get? b:=fun b hb=>Qzg _ _ (Ne.symm hb)
 have rec_:∀ b o,s.heap.get? b=some o→(∀ vs,o.data≠.fields vs)→b≠T:=fun b o hb hd z=>by
  rw[z,e8]at hb
  cases hb
  exact hd ts e9
 refine wpAny_setField e8 e9 h3 (h _ (x.turn (fun b o hb=>(nT b fun z=>by rw[z,e6]at hb; cases hb).trans (x.stay b o hb)) (x.fr.of_keeps fun b o hb hd=>⟨o,(nT b (rec_ b o hb hd)).trans hb,rfl⟩) (fun b o hb hd=>⟨o.slots,(nT b (rec_ b o hb hd)).trans hb⟩) ⟨_,oe,vs,T,_,_,(nT ea (Ne.symm e7)).trans e1,e2,e4,e5,e6,e7,Heap.get?_update_self _ e8 (Obj.isFreed_of_fields (Obj.data_mapFields e9 _)),Obj.data_mapFields e9 _,by simp[h3]; rfl⟩))
end
end MS
end
section
namespace MS
open PySem PySem.Spec PyProof.Rows L2
theorem qcb{C:Addr}{P:Program}{w:World}{K:Qqq}{mg:Str→Option Value}{base:Heap}{N:List Str}{qual:Str}{scope:Scope}{f:Addr}{cd:Value}{A:Around}{outer:List Env}{s:Shared}{H:Hp}{E:XK}{e:Value}{s':Shared}
  (x:Thr C (cxOf (CXr P w C) P w K mg base N qual scope f cd A outer s H E) (fun H'=>E .none none H') e s'):(cxOf (CXr P w C) P w K mg base N qual scope f cd A outer s H E).xe e s':=by
 have nfr:∀ {pins:List (Addr×Obj)}{σ:L2.St}{H':Hp}{s1:Shared},Inv (cxOf (CXr P w C) P w K mg base N qual scope f cd A outer s H E) pins σ H' s1→∀ b,(b<s.heap.objs.size∨H' b≠none)→b ∉ frs outer→b ∉ frs (envOfC qual scope s.heap.objs.size f cd::outer):=by
  intro pins σ H' s1 I b z nf hb
  have hb:b∈s.heap.objs.size::frs outer:=hb
  rcases Qqw.mp hb with q|q
  ·rcases z with z|z
   ·exact Qzd _ (Nat.lt_of_lt_of_eq z q.symm)
   ·exact z (by rw[q]; exact I.free)
  ·exact nf q
 cases x with
 |made I x p=>
  rename_i pins σ H1 s1 h' ea vs
  refine wpAny_leaves_madeW (base:=PySem.W.hideAll s1.heap (frs (envOfC qual scope s.heap.objs.size f cd::outer))) I.ok.frames rfl (fun b o q=>Qzy _ q) (PySem.W.funFrames_hide I.stack fun env he a ha=>Qxf.mpr ⟨env,he,ha⟩) x fun h2 t x1 x2 x3 x4=>?_
  obtain⟨y1,y2,y3,y4⟩:=x1
  exact⟨H1,ea,t,s1.heap,_,rfl,I.os,I.bare,I.base,I.hok,⟨fun b o q z nf=>Qz6 _ q (nfr I b z nf),(Heap.UpToSlots.of_keeps x.keeps).trans x4,y1,y2,y3,⟨_,y4⟩⟩,p⟩
 |air a p=>
  rename_i pins σ H1
  obtain⟨g,n,ea,t,B,rfl,I,h1,h2,h3,h4,fl⟩:=a
  show wpAny _ _ (leaving _ _) _ _ _
  unfold leaving
  refine wpAny_bind (qws I.ok.frames rfl fl fun h' f1=>qxp f1 fun h2 f2=>?_)
  exact⟨H1,ea,t,g,B,rfl,I.os,I.bare,I.base,I.hok,⟨fun b o q z nf=>f2.cov b o q (z.imp (fun z=>Qql z h1) id) (nfr I b z nf),f2.up,f2.stay,f2.new,f2.fr.2.2,f2.tr⟩,p⟩
abbrev bmV:List Value:=[.type "ValueError",.type "Exception",.type "BaseException",.type "object"]
structure Bad (K:Qqq) (mg:Str→Option Value) (C:Addr):Prop where
 own:∀ h:Heap,K.In h→OwnCls ("BadText" : Str) C bmV "ValueError.__new__" mg h
theorem qg3{X:Cx}{C:Addr}{P:Hp→Prop}{msg:Str}{j:Nat}{p1 np cpos pos:Pos}(G:Bad X.K X.mg C)(hc:X.calm=true)(thr:∀ e s',Thr C X P e s'→X.xe e s')(hg:Gl X "BadText"):
  PS X (.Raise (some (.Call (.Name "BadText" np) [.Constant (.str msg) j p1] [] cpos)) none pos) (fun _ _ H=>P H):=by
 intro pins s σ H D I h
 have O:=G.own X.base I.ok.mod.kin
 obtain⟨tl,Nn,nm,q,bs,hdct,sn,sub,ab,col,dd,k0,k1,k2,k3,k5,mN,hC,hN,hni,T⟩:=O.obj
 refine wpAny_Raise_call_subT (C:=C) (k5:=k5) (k3:=k3) (k2:=k2) (k1:=k1) (k0:=k0) (dd:=dd) (col:=col) (ab:=ab) (sub:=sub) (sn:=sn) (hdct:=hdct) (bm:=tl) (bs:=bs) (N:=Nn) (q:=q) (nm:=nm) F.excBase_ValueError (mN:=mN) (T.hasType F.excBase_ValueError.hasBase) (I.ok.hd hc) rfl hni (qjk I hg O.bound ⟨rfl,?_⟩ (by decide))
 refine Calls.evalArgs_plain (thn ((qqv pe_str pa_nil rfl) cpos pins s σ H (fun vs H1=>vs.length≤sizeLine∧H1=H) I ⟨(by decide:1≤sizeLine),rfl⟩) fun vs s2 ⟨ws,H2,I2,r,z,e2⟩=>?_)
 subst e2
 exact⟨rfl,by rw[← r.length]; exact z,I2.bk _ _ hC,hN.keeps I2.bk,T.keeps I2.bk,fun h' e hm=>thr _ _ (.made I2 hm h)⟩
end MS
end
section
namespace MS
open PySem PySem.Spec PyProof.Rows L2
theorem Air.wish{X:Cx}{C:Addr}{pins:List (Addr×Obj)}{σ:L2.St}{H:Hp}{e:Value}{s:Shared}{E:Value→Shared→Prop}(a:Air C (X.wish E) pins σ H e s):Air C X pins σ H e s:=by
 obtain⟨g,n,ea,t,B,h0,I,h1,h2,h3,h4,fl⟩:=a
 exact⟨g,n,ea,t,B,h0,I.unwish,h1,h2,h3,h4,fl⟩
theorem qkh{h h' B:Heap}:∀ {l:List Env},h.FunFrames B l→(∀ b∈frs l,h'.get? b=h.get? b)→h'.FunFrames B l
 |[],_,_=>trivial
 |env::r,⟨hk,⟨L,o,hf,hn,ho,hd⟩,hr⟩,k=>by
  have e:frs (env::r)=L::frs r:=by unfold frs; rw[Qzt,hf]
  exact⟨hk,⟨L,o,hf,hn,(k L (by rw[e]; exact Qqe)).trans ho,hd⟩,qkh hr fun b hb=>k b (by rw[e]; exact Qqy _ hb)⟩
theorem qh2{X:Cx}{pins pins':List (Addr×Obj)}{σ σ':L2.St}{H H':Hp}{s s':Shared}{scope:Scope}{N:List Str}{fp:List Addr}{C C0:Addr}{P:Hp→Prop}{e acc:Value}{Q:Value→Shared→Prop}(I:Inv X pins σ H s)(hfp:∀ b∈fp,FpOk X pins H b)
  (top:∃ e0 r L,X.stack=e0::r∧e0.frame=some L∧X.env.frame=some L) (thr:∀ pins σ H e s',Air C0 X pins σ H e s'→P H→X.xe e s') (hC:s.heap.objs.size≤C) (a:Air C0 (qzd X N scope C fp s H) pins' σ' H' e s') (p:P H') :
  notedBy (model X.prog X.w) X.A (compEnvC scope (qx4 X.env.cells scope.names []) C X.env) (fun e s'=>compPost (model X.prog X.w) X.A X.xe none Q acc C (.error e) s') e s':=by
 obtain⟨g,n,ea,t,B,rfl,I',h1,h2,h3,h4,fl⟩:=a
 obtain⟨e0,r,L,hst,hf0,hf⟩:=top
 have hstk:(qzd X N scope C fp s H).stack=e0::r:=hst
 unfold notedBy
 rw[ql9 (env:=compEnvC scope (qx4 X.env.cells scope.names []) C X.env) (env':=e0) (show X.env.frame=e0.frame by rw[hf,hf0])]
 rw[hstk]at fl
 refine qws (by rw[I.ok.frames,hst]) hf0 fl fun hh f1=>?_
 have A1:Air C0 (qzd X N scope C fp s H) pins' σ' H' (.ref ea) { s' with heap:=hh }:=⟨g,n,ea,t,B,rfl,I',h1,h2,h3,h4,by rw[hstk]; exact f1⟩
 obtain⟨m,hm,_⟩:=A1.land.loc
 refine⟨m,hm,fun h3' sb cenv hcl=>?_⟩
 have hCn:∀ b∈frs (e0::r),b≠C:=fun b hb z=>by
  obtain⟨_,o,ho,_⟩:=I.stack.mem (show b∈frs X.stack by rw[hst]; exact hb)
  have:=Qqf ho
  rw[z]at this
  exact Qx9.mpr this hC
 have hg:∃ o,g.get? C=some o:=by
  obtain⟨m',⟨o,_,_,ho,_⟩,_⟩:=I'.loc
  exact⟨o,ho⟩
 have hB:∃ o,B.get? C=some o:=by
  obtain⟨o,ho⟩:=hg
  exact⟨o,f1.cov C o ho (.inl h2) fun z=>hCn C z rfl⟩
 have sm:∀ b,b≠C→h3'.get? b=hh.get? b:=fun b hb=>sb.2 b hb
 have nB:∀ b,B.get? b=none→b≠C:=fun b hb z=>by
  obtain⟨o,ho⟩:=hB
  rw[z,ho]at hb
  cases hb
 have hid:∀ {k:Heap}{b:Addr}{o:Obj},(PySem.W.hideAll k [C]).get? b=some o→b≠C:=fun {k b o} q z=>by
  rw[PySem.W.hideAll_none [C] (by rw[z]; exact .head _)]at q
  cases q
 have fX:Fl C0 X.stack s.heap.objs.size H' ea t (PySem.W.hideAll g [C]) (PySem.W.hideAll B [C]) h3':=by
  rw[hst]
  refine⟨fun b o q z nf=>?_,fun b o q d=>?_,fun b o q=>?_,?_,?_,?_⟩
  ·exact Qz6 _ (f1.cov b o (Qzy _ q) (z.imp (fun z=>Qql z h1) id) nf) (by simpa using hid q)
  ·obtain⟨sl,z⟩:=f1.up b o (Qzy _ q) d
   exact⟨sl,(sm b (hid q)).trans z⟩
  ·exact(sm b (hid q)).trans (f1.stay b o (Qzy _ q))
  ·cases q:(PySem.W.hideAll B [C]).get? ea with
   |none=>rfl
   |some o=>
    have:=Qzy _ q
    rw[f1.new]at this
    cases this
  ·exact PySem.W.funFrames_base (fun b o q=>Qzy _ q) (qkh f1.fr fun b hb=>sm b (hCn b hb))
  ·obtain⟨fl',oe,vs,T,oT,ts,e1,e2,e4,e5,e6,e7,e8,e9,e10⟩:=f1.tr
   refine⟨fl',oe,vs,T,oT,ts,(sm ea (nB ea f1.new)).trans e1,e2,e4,e5,?_,e7,(sm T (nB T e6)).trans e8,e9,e10⟩
   cases q:(PySem.W.hideAll B [C]).get? T with
   |none=>rfl
   |some o=>
    have:=Qzy _ q
    rw[e6]at this
    cases this
 have IX:Inv X pins σ H' { s' with heap:=g }:=I.call' (s':={ s' with heap:=g }) I'.os I'.base I'.hok I'.bare fun b hb=>⟨(hfp b hb).2.2.2.1,(hfp b hb).2.1,(hfp b hb).2.2.2.2.1,(hfp b hb).2.2.2.2.2⟩
 have IX2:Inv X pins σ H' { s' with heap:=PySem.W.hideAll g [C] }:=by
  obtain⟨c0,c1,c2,c3,c4,c5⟩:=I.fpOk hC (show H' C=none from I'.free)
  exact Inv.turned (s:={ s' with heap:=g }) IX (it:=C) (t':=s'.toks) (fun b o hb e=>Qz6 _ e (by simpa using hb)) c0 c1 c3 c4 c5
 unfold PySem.passOn
 obtain⟨fl',oe,vs,T,oT,ts,e1,e2,e4,e5,e6⟩:=id fX.tr
 refine wpAny_bind (wpAny_field e1 e4 e5 ?_)
 rw[if_neg (by simp)]
 refine wpAny_bind (qxp fX fun h4' f4=>wpAny_throw (thr pins σ H' _ _ ⟨_,s.heap.objs.size,ea,t,_,rfl,IX2,I.sz,I.lt,fun x c e=>Inv.cell_lt I e,fun p hp=>Qqf (I.pin p hp).1,f4⟩ p))
theorem qhj{X:Cx}{elt tg iter:Expr}{ifs:List Expr}{scope:Scope}{pos:Pos}{N:List Str}{src:List (Option Nat)}{wi:TI}{g:TG}{tt:TT}{te:TE}{C0:Addr}{P:Hp→Prop}(hc:X.calm=true)(S:CompScope X N src scope)(hi:PI X.nox tg iter wi)
  (hg:∀ C fp s H,PG (qzd X N scope C fp s H) tg g) (ht:∀ C fp s H,qdp (qzd X N scope C fp s H) ifs tt) (he:∀ C fp s H,PE ((qzd X N scope C fp s H).wish fun e s'=>∃ pins σ H',Air C0 (qzd X N scope C fp s H) pins σ H' e s'∧P H') elt te)
  (top:∃ e0 r L,X.stack=e0::r∧e0.frame=some L∧X.env.frame=some L) (thr:∀ pins σ H e s',Air C0 X pins σ H e s'→P H→X.xe e s')
  (hs:∀ x,foldedSetIterable iter X.env x=pure x):PE X (.ListComp elt [⟨tg,iter,ifs,0⟩] scope pos) (qgl src wi g tt te):=by
 intro pins s σ H Q I h
 rw[eval_ListComp]
 refine wpAny_comprehension_free (use:=none) rfl hs (qvl S I) S.kind S.loc (wpAny_mono (hi pins s σ H _ (I.wish _) h) (fun v s1 h1=>wpAny_mono h1 (fun itv s2 h2=>?_) fun _ _ z=>False.elim z) fun _ _ z=>False.elim z)
 obtain⟨it,fp,tn,J,H2,e,I2,T,st2,f2,W,w0,turn⟩:=h2
 subst e
 have I2:=I2.unwish
 refine qkb (Ex:=fun D C e s'=>∃ pins σ H',Air C0 (qzd X N scope C fp s2 H2) pins σ H' e s'∧P H') hc I2 T st2 f2 S (fun C=>hg C fp s2 H2) (fun C=>ht C fp s2 H2) (fun _ C=>he C fp s2 H2) (fun D C hC e s' ⟨_,_,_,a,p⟩=>qh2 I2 f2 top thr hC a p) W w0 turn ?_
 intro D C s' H' acc fin nD I' fC hm
 obtain⟨m',hn⟩:=hm
 refine⟨m',hn,fun h' sb=>⟨.ref D,upd H' D (.lst acc),?_,rfl,fin D nD⟩⟩
 obtain⟨c0,c1,c2,c3,c4,c5⟩:=fC
 exact I'.turned (t':=s'.toks) (fun b o hb e=>(sb.2 b hb).trans e) c0 c1 c3 c4 c5
end MS
end
section
namespace MS
open PySem PySem.Spec PyProof.Rows L2
open M (D Cell Store Sl E S T Src Fn Out R)
theorem PA.nox{X:Cx}{es:List Expr}{t:TA}(h:PA X.nox es t):PA X es t:=fun pos pins s σ H Q I hw=>
 wpAny_mono (h pos pins s σ H Q (I.wish _) hw) (fun _ _ ⟨v,H',I',r,q⟩=>⟨v,H',I'.unwish,r,q⟩) fun _ _ z=>False.elim z
theorem PS.nox{X:Cx}{st:Stmt}{t:TS}(h:PS X.nox st t):PS X st t:=fun pins s σ H D I hw=>
 wpAny_mono (h pins s σ H D (I.wish _) hw) (fun _ _ q=>q.unwish) fun _ _ z=>False.elim z
noncomputable def spX(K:Qqq)(fns:List Fn)(ok:Nat→Bool)(n f:Nat):Sp:=fun vs H _ E=>∃ m st ds st',Rel K m st H∧IsDs K m H ds vs∧M.XC fns ok n f ds st st'∧∀ m' H',Sub m m'→Tr H H'→Rel K m' st' H'→E .none none H'
def XTab(P:Program)(w:World)(K:Qqq)(mg:Str→Option Value)(base:Heap)(C:Addr)(fns:List Fn)(ok:Nat→Bool)(names:List Str)(n:Nat):Prop:=∀ (f:Nat) (x:Str),names[f]?=some x→ok f=true→∃ (fa:Addr) (fd:FuncData) (ps:List Str),
 mg x=some (.ref fa)∧FnOk P w K mg base (CXr P w C) n fa fd ps (spX K fns ok n f)∧Qzw K (.ref fa)=true∧Binds K fd ps []
structure GoodE (fns:List Fn) (ok:Nat→Bool) (dl:Nat) (c:Ctx) (C:Addr) (X:Cx) (P:Hp→Prop):Prop where
 good:Good fns dl c X.nox
 tab:XTab X.prog X.w X.K X.mg X.base C fns ok c.fns dl
 top:∃ e0 r L,X.stack=e0::r∧e0.frame=some L∧X.env.frame=some L
 thr:∀ pins σ H e s',Air C X pins σ H e s'→P H→X.xe e s'
noncomputable def tXa(K:Qqq)(P:Hp→Prop)(τ:Sl)(st st':Store):TE:=fun σ H _=>∃ m,Rel K m st H∧SlotOk K m H τ σ∧∀ m' H',Sub m m'→Tr H H'→Rel K m' st' H'→P H'
section
variable {fns:List Fn}{ok:Nat→Bool}{dl:Nat}
theorem qxh(fns:List Fn)(dl n:Nat):AllOk fns dl n:=qms fns dl n n (Qqc n)
theorem GoodE.passes{c:Ctx}{C:Addr}{X:Cx}{P:Hp→Prop}(G:GoodE fns ok dl c C X P):qc3 (CXr X.prog X.w C) X (fun _ _ H=>P H):=fun pins σ H s e s' I q=>by
 obtain⟨H',a,p⟩:=MS.Inv.air I q
 exact G.thr _ _ _ _ _ a p
theorem GoodE.gl{c:Ctx}{C:Addr}{X:Cx}{P:Hp→Prop}(G:GoodE fns ok dl c C X P){x:Str}(h:c.sc.names.lookup x=some .globalImplicit):Gl X x:=by
 show X.env.scope.names.lookup x=_
 have:=G.good.sc
 rw[show X.env.scope=c.sc from this]; exact h
theorem qf6{R:E→Expr→Prop}{e:E}{post:List E}:∀ {pre:List E}{ps:List Expr},CkL R (pre++e::post) ps→∃ p1 p p2,ps=p1++p::p2∧CkL R pre p1∧R e p∧CkL R post p2
 |[],_,.cons h t=>⟨[],_,_,rfl,.nil,h,t⟩
 |_::_,_,.cons h t=>by
  obtain⟨p1,p,p2,rfl,a,b,d⟩:=qf6 t
  exact⟨_::p1,p,p2,rfl,.cons h a,b,d⟩
theorem xargs{c:Ctx}{C:Addr}{X:Cx}{P:Hp→Prop}(G:GoodE fns ok dl c C X P){n:Nat}{p:Expr}{post:List E}{p2:List Expr}{τ:Sl}{st1 st':Store}(he:PE X p (tXa X.K P τ st1 st'))(hp:Star p)(hpost:CkEs c post p2):
  ∀ {pre:List E}{p1:List Expr}{ds:List D}{st:Store},CkEs c pre p1→M.evs ((M.rn fns dl n).ev τ) pre st=some (ds,st1)→PA X (p1++p::p2) fun σ H _=>∃ m,Rel X.K m st H∧SlotOk X.K m H τ σ∧∀ m' H',Sub m m'→Tr H H'→Rel X.K m' st' H'→P H'
 |[],_,ds,st,.nil,h=>by
  cases h
  exact(qqv he (PA.nox (qz9 (qxh fns dl n) G.good hpost)) (hp _ _)).imp fun σ H Q ⟨m,a,b,d⟩=>⟨m,a,b,d⟩
 |a::pre,_,ds,st,.cons ha t,h=>by
  have h:(((M.rn fns dl n).ev τ st a).bind fun p=>(M.evs ((M.rn fns dl n).ev τ) pre p.2).bind fun q=>some (p.1::q.1,q.2))=some (ds,st1):=h
  obtain⟨v,s1,e1,h⟩:=qzr h
  obtain⟨q,e2,h⟩:=qzf h
  cases h
  refine(qqv (((qxh fns dl n).e c _ G.good a _ ha).nox) (xargs G he hp hpost t e2) (ha.star _ _)).imp fun σ H Q ⟨m,R0,S0,k⟩=>?_
  exact⟨m,st,τ,v,s1,R0,S0,e1,fun x m1 H1 b1 t1 R1 i1=>⟨m1,R1,S0.mono b1 t1,fun m2 H2 b2 t2 R2=>k m2 H2 (b1.trans b2) (t1.trans t2) R2⟩⟩
theorem xe_ok{τ:Sl}{st st':Store}{e:E}(x:M.XE fns dl (M.XC fns ok dl) τ st e st'):∀ {c:Ctx}{C:Addr}{X:Cx}{P:Hp→Prop},GoodE fns ok dl c C X P→∀ {p:Expr},CkE c e p→PE X p (tXa X.K P τ st st'):=by
 induction x with
 |@call τ st f es ds st1 st' n h xc=>
  intro c C X P G p ck
  cases ck.out with
  |@call _ x _ p ps p0 pos hg hf hd hs=>
   obtain⟨fa,fd,pars,hm,F,hk,hb⟩:=G.tab f x hf xc.ok
   have hp:Star p:=by cases hs with|cons h _=>exact h.star
   have ht:(backTo pos (starEach ps X.env)).any (·.1)=false:=by cases hs with|cons _ t=>exact qwt t pos X.env
   refine(qeo F G.good.room (G.gl hg) hm hk hb .nil G.passes (PA.nox (qz9 (qxh fns dl n) G.good hs)) hd (hp _ _) ht).imp fun σ H Q ⟨m,R0,S0,k⟩=>?_
   refine⟨m,st,τ,ds,st1,R0,S0,h,fun xs m1 H1 b1 t1 R1 ix=>?_⟩
   show spX X.K fns ok dl f (xs++[]) H1 Q _
   rw[Qqh]
   exact⟨m1,st1,ds,st',R1,ix,xc,fun m2 H2 b2 t2 R2=>k m2 H2 (b1.trans b2) (t1.trans t2) R2⟩
 |gc x ih=>
  intro c C X P G p ck
  cases ck.out with
  |gc hp hg ha=>exact ih G ha
 |tuple x ih=>
  intro c C X P G p ck
  cases ck.out with
  |@bcall _ _ p ps p0 pos hg hbo hs=>
   cases hs with
   |cons h t=>
    cases t
    exact(qje qvo (G.gl hg) G.good.mo.tuple qjb (qqv (ih G h) pa_nil (h.star _ _)) (by decide) (by decide) (h.star _ _) rfl).imp fun σ H Q q=>q
 |idx x ih=>
  intro c C X P G p ck
  cases ck.out with
  |@idx _ b pa pb pos ha hb hs=>exact(pe_ix ix_D (ih G ha) ((qxh fns dl 0).e c _ G.good _ pb hb).nox hs).imp fun σ H Q q=>q
 |@bin τ st op a b v st1 st' n h x ih=>
  intro c C X P G p ck
  cases ck.out with
  |@bin _ _ _ pa pb pos ha hb=>
   refine(pe_op (qe2 op) ((qxh fns dl n).e c _ G.good a pa ha).nox (ih G hb)).imp fun σ H Q ⟨m,R0,S0,k⟩=>?_
   exact⟨m,st,τ,v,st1,R0,S0,h,fun x m1 H1 b1 t1 R1 i1=>⟨m1,R1,S0.mono b1 t1,fun m2 H2 b2 t2 R2=>k m2 H2 (b1.trans b2) (t1.trans t2) R2⟩⟩
 |@tup τ st pre e post ds st1 st' n h x ih=>
  intro c C X P G p ck
  cases ck.out with
  |@tup _ ps k pos hs=>
   obtain⟨p1,p,p2,rfl,h1,h2,h3⟩:=qf6 hs
   exact(qem (xargs G (ih G h2) h2.star h3 h1 h)).imp fun σ H Q q=>q
 |@comp τ st t it elt sr s st' τ1 dd n i τs sts h h0 hi hj ha ht x ih=>
  intro c C X P G p ck
  cases ck.out with
  |@comp _ _ _ _ tg iter pelt scope pos N hk hcell hfree hloc hlen hsrc hnd hs hI hT htl he=>
   have S0:=qqt G.good hk hcell hfree hloc hlen hsrc
   have S:CompScope X N sr scope:=⟨S0.kind,S0.cell,S0.free,S0.loc,S0.len,S0.src⟩
   have gd:∀ Cc fp s H,Good fns dl ⟨N,qq0 scope c.sc,c.fns,c.glo⟩ (qzd X N scope Cc fp s H):=fun Cc fp s H=>G.good.inner hk hnd
   refine(qhj (X:=X) (g:=gT X.K t) (C0:=C) (P:=P) (tt:=fun _ H Q=>Q true H) (te:=fun σ H Q=>(tD X.K fun τ st=>(M.rn fns dl n).ev τ st elt) σ H Q∨tXa X.K P τ1 (sts i) st' σ H Q) G.good.calm S (qkz (qxh fns dl n) G.good hI) (fun Cc fp s H=>qqn (gd Cc fp s H) hT fun i hi' x hx=>.inr (qk4 htl i hi' x hx)) (fun Cc fp s H=>qwg) (fun Cc fp s H=>?_) G.top G.thr (hs X.env)).imp fun σ H Q ⟨m,R0,S0,k⟩=>?_
   ·have GE:GoodE fns ok dl ⟨N,qq0 scope c.sc,c.fns,c.glo⟩ C ((qzd X N scope Cc fp s H).wish fun e s'=>∃ pins σ H',Air C (qzd X N scope Cc fp s H) pins σ H' e s'∧P H') P:=⟨gd Cc fp s H,G.tab,G.top,fun pins σ H' e s' a p=>⟨pins,σ,H',Air.wish a,p⟩⟩
    intro pins s1 σ H1 Q I q
    rcases q with q|q
    ·exact(((qxh fns dl n).e _ _ GE.good elt pelt he).nox) pins s1 σ H1 Q I q
    ·exact ih GE he pins s1 σ H1 Q I q
   ·refine⟨m,st,τ,s,sts 0,R0,S0,h,fun m1 H1 J b1 t1 R1 hJ=>?_⟩
    refine⟨fun j kk acc σ' H'=>kk=i - j∧j≤i∧acc.length=j∧∃ m2,Sub m1 m2∧Tr H1 H'∧Rel X.K m2 (sts j) H'∧SlotOk X.K m2 H' (τs j) σ',⟨_,rfl,Qz5 _,rfl,m1,Sub.refl _,Tr.refl _,R1,by rw[h0]; exact qcg sr (S0.mono b1 t1)⟩,?_⟩
    rintro j kk acc σ' H' ⟨rfl,hji,hacc,m2,b2,t2,R2,S2⟩
    have l2:=qqq
    rcases Nat.lt_or_ge j i with hlt|hge
    ·obtain⟨d',v,e1,e2⟩:=hj j hlt
     obtain⟨hgo,hy⟩:=(hJ.mono b2 t2).next R2 e1
     refine .inr ⟨hgo,by omega,fun x H2 hyl=>?_⟩
     obtain⟨sm,ix⟩:=hy x H2 hyl
     have t2:=t2.trans (Tr.of_same sm)
     have R2:=R2.same sm
     have S2:=S2.mono (Sub.refl _) (Tr.of_same sm)
     obtain⟨τ2,e3,e4⟩:=qzf e2
     obtain⟨pv,e5,e6⟩:=mapD e4
     have hτ:τ2=τs (j+1):=congrArg (fun z=>z.2.1) e6
     have hst:pv.2=sts (j+1):=congrArg (fun z=>z.2.2) e6
     refine qhh ix S2 e3 fun σ3 S3=>?_
     show if true=true then _ else _
     rw[if_pos rfl]
     refine .inl ⟨m2,sts j,τ2,pv.1,pv.2,R2,S3,e5,fun y m3 H3 b3 t3 R3 i3=>⟨i - (j+1),by omega,rfl,hlt,by simp[hacc],m3,b2.trans b3,t2.trans t3,by rw[← hst]; exact R3,by rw[← hτ]; exact S3.mono b3 t3⟩⟩
    ·obtain rfl:j=i:=Nat.le_antisymm hji hge
     obtain⟨hgo,hy⟩:=(hJ.mono b2 t2).next R2 ha
     refine .inr ⟨hgo,by omega,fun x H2 hyl=>?_⟩
     obtain⟨sm,ix⟩:=hy x H2 hyl
     have t2:=t2.trans (Tr.of_same sm)
     have R2:=R2.same sm
     have S2:=S2.mono (Sub.refl _) (Tr.of_same sm)
     refine qhh ix S2 ht fun σ3 S3=>?_
     show if true=true then _ else _
     rw[if_pos rfl]
     exact .inr ⟨m2,R2,S3,fun m3 H3 b3 t3 R3=>k m3 H3 (b1.trans (b2.trans b3)) (t1.trans (t2.trans t3)) R3⟩
end
end MS
end
section
namespace MS
open PySem PySem.Spec PyProof.Rows L2
open M (D Cell Store Sl E S T Src Fn Out R)
structure GoodS (fns:List Fn) (ok:Nat→Bool) (dl:Nat) (c:Ctx) (C:Addr) (X:Cx) (P:Hp→Prop):Prop where
 e:GoodE fns ok dl c C X P
 bad:Bad X.K X.mg C
 made:∀ e s',Thr C X P e s'→X.xe e s'
 fn:∀ x,X.fn x=true
noncomputable def tXs(K:Qqq)(P:Hp→Prop)(τ:Sl)(st st':Store):TS:=fun _ σ H=>∃ m,Rel K m st H∧SlotOk K m H τ σ∧∀ m' H',Sub m m'→Tr H H'→Rel K m' st' H'→P H'
theorem qja{c:Ctx}{s:S}{ss:List S}{X:Cx}{t:TS}(h:∀ p ps,CkS c s p→CkSs c ss ps→PSs X (p::ps) t):∀ {ps:List Stmt},CkSs c (s::ss) ps→PSs X ps t
 |_,.cons h1 h2=>h _ _ h1 h2
 |_,.doc q=>(qzs qia (qja h q)).imp fun Dn σ H q=>q
noncomputable def isLC:Expr→Bool
 |.ListComp _ _ _ _=>true
 |_=>false
theorem qfz{R:Ctx→E→Expr→Prop}{c:Ctx}{e:E}{p:Expr}(h:CkF R c e p)(hp:isLC p=true):M.ncomp e=false∨∃ a,e=.gc a∧R c a p∧∀ b,a≠.gc b:=by
 cases h with
 |gc _ hg ha=>exact .inr ⟨_,rfl,ha,hg⟩
 |comp=>exact .inl rfl
 |compIf=>exact .inl rfl
 |_=>exact absurd hp Qqg
theorem qhv{c:Ctx}{e:E}{elt:Expr}{gs:List Comprehension}{sc:Scope}{q:Pos}(h:CkE c e (.ListComp elt gs sc q)):M.ncomp e=false:=
 (qfz h.out rfl).elim id fun ⟨a,e1,h1,hg⟩=>e1.symm▸(qfz h1.out rfl).elim id fun ⟨b,e2,_⟩=>absurd e2 (hg b)
section
variable {fns:List Fn}{ok:Nat→Bool}{dl:Nat}
theorem xs_ok{τ:Sl}{st st':Store}{ss:List S}(x:M.XS fns dl (M.XC fns ok dl) τ st ss st'):∀ {c:Ctx}{C:Addr}{X:Cx}{P:Hp→Prop},GoodS fns ok dl c C X P→∀ {ps:List Stmt},CkSs c ss ps→PSs X ps (tXs X.K P τ st st'):=by
 have rest:∀ {c:Ctx}{C:Addr}{X:Cx}{P:Hp→Prop},GoodS fns ok dl c C X P→∀ {ss:List S}{ps:List Stmt},CkSs c ss ps→∃ u,PSs X ps u:=fun {c C X P} G {ss ps} h=>⟨_,((qxh fns dl 0).s _ _ G.e.good G.fn _ _ h).nox⟩
 induction x with
 |rais=>
  intro c C X P G ps ck
  refine qja (fun p ps h1 h2=>?_) ck
  obtain⟨u,hu⟩:=rest G h2
  cases h1 with
  |rais hg=>exact(qzs (qg3 G.bad G.e.good.calm G.made (G.e.gl hg)) hu).imp fun Dn σ H ⟨m,R0,S0,k⟩=>k m H (Sub.refl m) (Tr.refl H) R0
 |set hc x=>
  intro c C X P G ps ck
  refine qja (fun p ps h1 h2=>?_) ck
  obtain⟨u,hu⟩:=rest G h2
  have hN:X.N.Nodup:=by rw[show X.N=c.N from G.e.good.N]; exact G.e.good.nd
  have hsc:X.env.scope=c.sc:=G.e.good.sc
  cases h1 with
  |@set _ _ y p pos pos' hi hl he hs=>exact(qzs (qyi hN (show X.N[_]?=some y by rw[show X.N=c.N from G.e.good.N]; exact hi) (show X.env.scope.names.lookup y=_∨_=_ by rw[hsc]; exact hl) (xe_ok x G.e he) (hs X.env) (.inl (G.fn y))) hu).imp fun Dn σ H q=>q
  |setC hi hl he hc' hs=>
   obtain⟨_,_,_,_,rfl⟩:=hc'
   rw[qhv he]at hc
   cases hc
 |ret x=>
  intro c C X P G ps ck
  refine qja (fun p ps h1 h2=>?_) ck
  obtain⟨u,hu⟩:=rest G h2
  cases h1 with
  |ret he=>exact(qzs (qef (xe_ok x G.e he)) hu).imp fun Dn σ H q=>q
 |@iteT τ st c' a b ss st1 st' n h x ih=>
  intro c C X P G ps ck
  refine qja (fun p ps h1 h2=>?_) ck
  obtain⟨u,hu⟩:=rest G h2
  cases h1 with
  |ite hq ha hb=>
   obtain⟨v,hv⟩:=rest G hb
   refine(qzs (qll ((qxh fns dl n).t c _ G.e.good _ _ hq).nox (ih G ha) hv) hu).imp fun Dn σ H ⟨m,R0,S0,k⟩=>?_
   refine⟨m,st,τ,true,st1,R0,S0,h,fun m1 H1 b1 t1 R1=>?_⟩
   refine iteT ?_
   exact⟨m1,R1,S0.mono b1 t1,fun m2 H2 b2 t2 R2=>k m2 H2 (b1.trans b2) (t1.trans t2) R2⟩
 |@iteF τ st c' a b ss st1 st' n h x ih=>
  intro c C X P G ps ck
  refine qja (fun p ps h1 h2=>?_) ck
  obtain⟨u,hu⟩:=rest G h2
  cases h1 with
  |ite hq ha hb=>
   obtain⟨v,hv⟩:=rest G ha
   refine(qzs (qll ((qxh fns dl n).t c _ G.e.good _ _ hq).nox hv (ih G hb)) hu).imp fun Dn σ H ⟨m,R0,S0,k⟩=>?_
   refine⟨m,st,τ,false,st1,R0,S0,h,fun m1 H1 b1 t1 R1=>?_⟩
   refine iteF ?_
   exact⟨m1,R1,S0.mono b1 t1,fun m2 H2 b2 t2 R2=>k m2 H2 (b1.trans b2) (t1.trans t2) R2⟩
 |@next τ st s ss τ1 st1 st' n h x ih=>
  intro c C X P G ps ck
  refine qja (fun p ps h1 h2=>?_) ck
  refine(qzs (PS.nox (s1_ok (n:=n) (fun j hj=>qms fns dl n j hj) G.e.good G.fn h1)) (ih G h2)).imp fun Dn σ H ⟨m,R0,S0,k⟩=>?_
  exact⟨m,st,τ,_,st1,R0,S0,h,fun m1 H1 b1 t1 R1 σ1 S1=>⟨m1,R1,S1,fun m2 H2 b2 t2 R2=>k m2 H2 (b1.trans b2) (t1.trans t2) R2⟩⟩
end
theorem qgn{K:Qqq}{m:List Addr}{H:Hp}{ds:List D}{vs:List V}{N:List Str}{nl:Nat}(ix:IsDs K m H ds vs)(hnl:nl=N.length):SlotOk K m H (ds.map some++List.replicate (nl - ds.length) none) (start N vs):=by
 refine⟨?_,fun i d0 hi=>?_⟩
 ·unfold L2.start
  rw[Qqu,Qqu,Qqj,Qqj,Qzh,Qzh,hnl,ix.length]
 ·unfold L2.start
  by_cases hlt:i<ds.length
  ·rw[Qq7 (by simpa using hlt),Qqn]at hi
   have e3:ds[i]?=some d0:=by
    cases z:ds[i]? with
    |none=>rw[z]at hi; cases hi
    |some y=>rw[z]at hi; cases hi; rfl
   obtain⟨v,e4,iv⟩:=ix.get e3
   refine⟨v,?_,iv⟩
   rw[Qq7 (by rw[Qqj,← ix.length]; exact hlt),Qqn,e4]
   rfl
  ·rw[Qq8 (by simpa using hlt),Qxx]at hi
   split at hi<;>cases hi
theorem qmf{P:Program}{w:World}{K:Qqq}{mg:Str→Option Value}{base:Heap}{fns:List Fn}{ok:Nat→Bool}{names:List Str}{glo:Glo}{C:Addr}{n f:Nat}{x:Str}{fa:Addr}{fd:FuncData}{st:Stmt}{N ps:List Str}{F:Fn}(ft:FTab P w K mg base fns names n)(xt:XTab P w K mg base C fns ok names n)(Mg:Mo K mg glo w.params)(B:Bad K mg C)
  (hF:fns[f]?=some F) (hfun:Fun K x x st fa fd) (hsc:FnScope N ps (qzq st)) (hck:CkSs ⟨N,qzq st,names,glo⟩ F.body (qzv st)) (hnp:F.np=ps.length) (hnl:F.nl=N.length):FnOk P w K mg base (CXr P w C) (n+1) fa fd ps (spX K fns ok (n+1) f):=by
 obtain⟨oc,od,kV,doc,pm,an,cdv,ct,osl,rfl,lk,hcd⟩:=hfun.ex
 refine fn_of lk hcd hsc (fun vs H Q E h=>?_) fun A outer s H vs Q E hr h=>?_
 ·obtain⟨m,st0,ds,st',_,ix,⟨_,F',hF',hl,_⟩,_⟩:=h
  rw[hF]at hF'
  cases hF'
  rw[← ix.length,hl,hnp]
 ·obtain⟨m,st0,ds,st',R0,ix,⟨_,F',hF',hl,xs⟩,k⟩:=h
  rw[hF]at hF'
  cases hF'
  have G:GoodS fns ok n ⟨N,qzq st,names,glo⟩ C (cxOf (CXr P w C) P w K mg base N x (qzq st) fa cdv A outer s H E) (fun H'=>E .none none H'):=
   ⟨⟨⟨hr,rfl,rfl,rfl,hsc.nd,hsc.kind,ft,Mg,rfl⟩,xt,⟨_,_,_,rfl,rfl,rfl⟩,fun pins σ H e s' a p=>qcb (.air a p)⟩,B,fun e s' q=>qcb q,fun _=>rfl⟩
  exact⟨_,xs_ok xs G hck,m,R0,qgn ix hnl,k⟩
end MS
end
section
namespace MS
open PySem PySem.Spec PyProof.Rows L2
open M (D Cell Store Sl E S T Src Fn Out R)
noncomputable abbrev Cx.marked(X:Cx)(h:Option Value):Cx:={ X with A:=X.A.mark h,calm:=false }
section
variable {X:Cx}{pins:List (Addr×Obj)}{σ:L2.St}{H:Hp}{s:Shared}{h:Option Value}
theorem Inv.mark(I:Inv X pins σ H s)(h:Option Value):Inv (Cx.marked X h) pins σ H s:=
 ⟨⟨I.ok.mod,I.ok.kind,I.ok.glob,I.ok.blt,I.ok.above,I.ok.inj,I.ok.has,I.ok.cab,(fun z=>nomatch (show false=true from z)),I.ok.frames,I.ok.stk,I.ok.exf,I.ok.bs,I.ok.bsz,I.ok.noex,I.ok.exfs,I.ok.funs,I.ok.frf⟩,I.os,I.bare,I.base,I.loc,I.cell,I.free,I.freeC,I.pin,I.hok,I.len⟩
theorem Inv.unmark(I0:X.Ok)(I:Inv (Cx.marked X h) pins σ H s):Inv X pins σ H s:=⟨I0,I.os,I.bare,I.base,I.loc,I.cell,I.free,I.freeC,I.pin,I.hok,I.len⟩
end
theorem qgh{X:Cx}{body:List Stmt}{h0:ExceptHandler}{hs:List ExceptHandler}{pos:Pos}{t:TS}(hb:PSs X.nox body t):PS X (.Try body (h0::hs) [] [] pos) t:=by
 intro pins s σ H D I q
 refine wpAny_Try_except (wpAny_mono (hb pins s σ H D (I.wish _) q) (fun f s1 hf=>?_) fun _ _ z=>False.elim z)
 have hf:=hf.unwish
 cases f with
 |next=>exact wpAny_execs_nil hf
 |brk=>exact hf
 |cont=>exact hf
 |ret u=>exact hf
theorem Fl.push{C:Addr}{l:List Env}{n:Nat}{H:Hp}{ea t:Addr}{g B h:Heap}(x:Fl C l n H ea t g B h)(o:Obj):Fl C l n H ea t g B (h.push o):=by
 obtain⟨fl,oe,vs,T,oT,ts,e1,e2,e4,e5,e6,e7,e8,e9,e10⟩:=id x.tr
 exact x.turn (fun b o' hb=>Qqb _ (x.stay b o' hb)) (x.fr.of_keeps fun b o' hb _=>⟨o',Qqb _ hb,rfl⟩) (fun b o' hb _=>⟨o'.slots,Qqb _ hb⟩) ⟨fl,oe,vs,T,oT,ts,Qqb _ e1,e2,e4,e5,e6,e7,Qqb _ e8,e9,e10⟩
structure Far (K:Qqq) (mg:Str→Option Value) (C:Addr) (x1 x2:Str) (c1 c2:Value):Prop where
 b1:mg x1=some c1
 b2:mg x2=some c2
 no:PySem.W.exmAny K (.ref C) [c1,c2]=some false
 d1:(x1==("__debug__" : Str))=false
 d2:(x2==("__debug__" : Str))=false
theorem qd3{fns:List Fn}{ok:Nat→Bool}{dl:Nat}{c:Ctx}{C:Addr}{X:Cx}{f:Nat}{rp x y:Str}{i j:Nat}{hs:List ExceptHandler}{p1 p2 p3 p4 p5 p6 p7 p8 p9 p10 pos r1 r2 r3 r4:Pos}{k1 rk:Nat}{rb:Stmt}{rs:List Stmt}{x1 x2:Str}{c1 c2:Value}(G:Good fns dl c X.nox)(xt:XTab X.prog X.w X.K X.mg X.base C fns ok c.fns dl)(B:Bad X.K X.mg C)(top:X.stack=X.env::X.outer∧X.env.frame=some X.env.locals)
  (hy:X.N[i]?=some y) (ly:Loc X.env.scope y) (fy:X.fn y=true) (hx:X.N[j]?=some x) (vx:Vis X.env.scope x) (dx:(x==("__debug__" : Str))=false) (dx':(x==("__classdict__" : Str))=false) (gr:Gl X rp) (fr:c.fns[f]?=some rp) (dr:(rp==("__debug__" : Str))=false) (gb:Gl X "BadText") (FA:Far X.K X.mg C x1 x2 c1 c2) (g1:Gl X x1) (g2:Gl X x2) :
  PS X (.Try [.Assign [.Name y p1] (.Call (.Name rp p2) [.Name x p3] [] p4) p5] (.ExceptHandler (some (.Tuple [.Name x1 r1,.Name x2 r2] rk r3)) none (rb::rs) r4::.ExceptHandler (some (.Name "BadText" p6)) none [.Assign [.Name y p7] (.Constant .none k1 p8) p9] p10::hs) [] [] pos)
   (fun Dn σ H=>∃ m st st' z v,Rel X.K m st H∧IsD X.K m H z v∧σ[j]?=some (some v)∧M.XC fns ok dl f [z] st st'∧∀ m' H',Sub m m'→Tr H H'→Rel X.K m' st' H'→Dn.nx (σ.set i (some .non)) H'):=by
 intro pins s σ H D I ⟨m,st,st',z,v,R0,iz,ev,xc,k⟩
 obtain⟨fa,fd,ps,hm,F,hk,hb⟩:=xt f rp fr xc.ok
 have hN:X.N.Nodup:=by rw[show X.N=c.N from G.N]; exact G.nd
 refine wpAny_Try_except (wpAny_execs_cons (wpAny_Assign_Name (wpAny_mono (Q:=fun _ _=>False) (E:=fun e s'=>∃ H',Air C X pins σ H' e s'∧D.nx (σ.set i (some .non)) H') ?_ (fun _ _ z=>False.elim z) ?_) rfl))
 ·refine wpAny_Call_Name_kw (qjk I gr hm ?_ dr)
  refine PySem.W.callWith_K (h₀:=X.base) I.ok.mod.kin hk (wpAny_mono ((qqv (X:=X.nox) (qcq hx vx dx dx') pa_nil rfl) p4 pins s σ H (fun vs H1=>vs=[v]∧H1=H) (I.wish _) ⟨v,ev,rfl,rfl⟩) (fun us s1 ⟨vs,H1,I1,r,q1,q2⟩=>⟨I1.unwish.kIn,?_⟩) fun _ _ z=>False.elim z) rfl rfl
  subst q1 q2
  have I1:=I1.unwish
  have sp:spX X.K fns ok dl f [v] H1 (fun _ _=>False) (fun _ _ H'=>D.nx (σ.set i (some .non)) H'):=⟨m,st,[z],st',R0,qzw iz qz7,xc,k⟩
  have hl:us.length=ps.length:=by rw[← r.length]; exact F.len _ _ _ _ sp
  have hb':=hb s1 us I1.kIn (by rw[Qqh]; exact hl)
  rw[Qqh]at hb'
  refine wpAny_call (codeAny_mono (F.run X.A X.stack s1 H1 ⟨us,[]⟩ us [v] _ _ G.room I1.env0 hb' r sp) fun r s' hq=>?_)
  cases r with
  |error e=>
   have hq:CXr X.prog X.w C X.stack H1 s1 (fun _ _ H'=>D.nx (σ.set i (some .non)) H') e s':=hq
   exact MS.Inv.air I1 hq
  |ok fl=>
   cases fl with
   |ret u=>obtain⟨_,_,_,_,_,_,_,w⟩:=hq; exact w
   |next=>exact hq
   |brk=>exact hq
   |cont=>exact hq
 ·rintro e s' ⟨H',a,p⟩
  obtain⟨g,n,ea,t,Bh,rfl,I',h1,h2,h3,h4,fl⟩:=a
  have hfr:X.A.frames=some (X.env::X.outer):=by rw[← top.1]; exact I.ok.frames
  have toL:∀ {h':Heap},Fl C (X.env::X.outer) n H' ea t g Bh h'→Inv X pins σ H' { s' with heap:=h' }:=fun {h'} q=>Air.land (C:=C) (e:=.ref ea) ⟨g,n,ea,t,Bh,rfl,I',h1,h2,h3,h4,by rw[top.1]; exact q⟩
  rw[top.1]at fl
  refine qws hfr top.2 fl fun hh f1=>qxp f1 fun hh1 f0=>?_
  have I0:=toL f0
  refine wpAny_handleBy_cons (codeAny_handlers_test (Tuple_ (spliced_more (qjk (X:=Cx.marked X (some (.ref ea))) (Inv.mark I0 _) g1 FA.b1 (spliced_more (qjk (X:=Cx.marked X (some (.ref ea))) (Inv.mark I0 _) g2 FA.b2 (spliced_none ?_) FA.d2)) FA.d1)))) (fun q=>nomatch q)
  refine wpAny_newObj_type ?_ (by show(2:Nat)≤sizeLine; decide)
  have f2:=f0.push { cls:=.type "tuple",data:=.seq [c1,c2].toArray }
  have I2:=toL f2
  obtain⟨fl0,oe0,vs0,T0,oT0,ts0,w1,⟨w2,w3⟩,w4⟩:=id f2.tr
  refine(PySem.W.exm_tup2 (M:=model X.prog X.w) (K:=X.K) (cls:=.ref C) I2.kIn (w2▸(PySem.W.Looks.ld w1).andThen .now) (Qqr _ rfl) FA.no).here ?_
  have O:=B.own X.base I2.ok.mod.kin
  refine wpAny_handleBy_cons (codeAny_handlers_test (qjk (X:=Cx.marked X (some (.ref ea))) (Inv.mark I2 _) gb O.bound ?_ (by decide))) (fun q=>nomatch q)
  obtain⟨tl,Nn,nm,q,bs,hdct,sn,sub,ab,col,dd,k0,k1,k2,k3,k5,mN,hC,hN',hni,T⟩:=(O.keeps I2.bk).obj
  obtain⟨fl',oe,vs,Tt,oT,ts,e1,⟨e2,e3⟩,e4⟩:=id f2.tr
  refine wpAny_excMatches_sub_self hC e1 e2 (T.hasType (by decide)) (codeAny_handlers_suite (qxp f2 fun hh3 f3=>?_))
  have I3:=toL f3
  refine wpAny_mono (((qzs (qyi (X:=(Cx.marked X (some (.ref ea))).nox) hN hy ly pe_non rfl (.inl fy)) pss_nil) pins _ σ H' D ((Inv.mark I3 _).wish _) p)) (fun f s4 hf=>?_) fun _ _ z=>False.elim z
  have hf:=hf.unwish
  cases f with
  |next=>obtain⟨σ',H2,I4,q⟩:=hf; exact⟨σ',H2,Inv.unmark I3.ok I4,q⟩
  |brk=>obtain⟨σ',H2,I4,q⟩:=hf; exact⟨σ',H2,Inv.unmark I3.ok I4,q⟩
  |cont=>obtain⟨σ',H2,I4,q⟩:=hf; exact⟨σ',H2,Inv.unmark I3.ok I4,q⟩
  |ret u=>obtain⟨v',σ',H2,I4,r,q⟩:=hf; exact⟨v',σ',H2,Inv.unmark I3.ok I4,r,q⟩
def Told(st:Stmt)(x y rp x1 x2:Str):Prop:=∃ (r1 r2 r3 r4:Pos) (rk:Nat) (rb:Stmt) (rs:List Stmt) (p1 p2 p3 p4 p5 p6 p7 p8 p9 p10 p11 p12 p13 p14 p15 p16:Pos) (k0 k1:Nat) (hs:List ExceptHandler),
 qzv st=[.Assign [.Name y p11] (.Constant .none k0 p12) p13,.Try [.Assign [.Name y p1] (.Call (.Name rp p2) [.Name x p3] [] p4) p5] (.ExceptHandler (some (.Tuple [.Name x1 r1,.Name x2 r2] rk r3)) none (rb::rs) r4::.ExceptHandler (some (.Name "BadText" p6)) none [.Assign [.Name y p7] (.Constant .none k1 p8) p9] p10::hs) [] [] p14,.Return (some (.Name y p15)) p16]
theorem told_ok{P:Program}{w:World}{K:Qqq}{mg:Str→Option Value}{base:Heap}{fns:List Fn}{ok:Nat→Bool}{names:List Str}{glo:Glo}{C:Addr}{n f g:Nat}{nm x y rp x1 x2:Str}{c1 c2:Value}{fa:Addr}{fd:FuncData}{st:Stmt}(ft:FTab P w K mg base fns names n)(xt:XTab P w K mg base C fns ok names n)(Mg:Mo K mg glo w.params)(B:Bad K mg C)
  (hfun:Fun K nm nm st fa fd) (hsc:FnScope [x,y] [x] (qzq st)) (hT:Told st x y rp x1 x2) (lx:(qzq st).names.lookup x=some .local) (ly:(qzq st).names.lookup y=some .local) (gr:(qzq st).names.lookup rp=some .globalImplicit) (gb:(qzq st).names.lookup ("BadText" : Str)=some .globalImplicit) (hrp:names[g]?=some rp) (FA:Far K mg C x1 x2 c1 c2) (g1:(qzq st).names.lookup x1=some .globalImplicit) (g2:(qzq st).names.lookup x2=some .globalImplicit)
  (dx:(x==("__debug__" : Str))=false) (dx':(x==("__classdict__" : Str))=false) (dy:(y==("__debug__" : Str))=false) (dy':(y==("__classdict__" : Str))=false) (dr:(rp==("__debug__" : Str))=false)
  (EQ:∀ ds st0 d st',M.callD fns (n+1) f ds st0=some (d,st')→∃ z,ds=[z]∧((∃ k,(M.rn fns n k).ev [some z,some .non] st0 (.gc (.call g [.var 0]))=some (d,st'))∨(d=.non∧M.XC fns ok n g [z] st0 st'))) :
  FnOk P w K mg base CX0 (n+1) fa fd [x] (spN K fns (n+1) f):=by
 obtain⟨r1,r2,r3,r4,rk,rb,rs,p1,p2,p3,p4,p5,p6,p7,p8,p9,p10,p11,p12,p13,p14,p15,p16,k0,k1,hs,hbd⟩:=hT
 refine hfun.ok hsc (fun vs H Q E h=>?_) (fun cdv A outer s H vs Q E hr h=>?_)
 ·obtain⟨m,st0,ds,d,st',_,ix,e,_⟩:=h
  obtain⟨z,rfl,_⟩:=EQ _ _ _ _ e
  rw[← ix.length]
  rfl
 ·obtain⟨m,st0,ds,d,st',R0,ix,e,q⟩:=h
  obtain⟨z,rfl,hz⟩:=EQ _ _ _ _ e
  obtain⟨v,rfl,iz⟩:=ix.one
  have G:Good fns n ⟨[x,y],qzq st,names,glo⟩ (cxOf CX0 P w K mg base [x,y] nm (qzq st) fa cdv A outer s H E).nox:=⟨hr,rfl,rfl,rfl,hsc.nd,hsc.kind,ft,Mg,rfl⟩
  have s1:=qyi (X:=(cxOf CX0 P w K mg base [x,y] nm (qzq st) fa cdv A outer s H E).nox) (i:=1) (pos:=p13) (pos':=p11) hsc.nd rfl (.inl ly) (pe_non (j:=k0) (pos:=p12)) rfl (.inl rfl)
  have s3:=qef (X:=(cxOf CX0 P w K mg base [x,y] nm (qzq st) fa cdv A outer s H E).nox) (pos:=p16) (qcq (i:=1) (pos:=p15) rfl (.inl ly) dy dy')
  have S1:SlotOk K m H [some z,some .non] [some v,some .non]:=⟨rfl,fun i d0 hi=>by
   match i,hi with
   |0,hi=>cases hi; exact⟨v,rfl,iz⟩
   |1,hi=>cases hi; exact⟨.non,rfl,qyu⟩⟩
  rw[hbd]
  rcases hz with⟨k,e1⟩|⟨rfl,xc⟩
  ·have ck:CkSs ⟨[x,y],qzq st,names,glo⟩ [.set (.var 1) (.gc (.call g [.var 0]))] [.Assign [.Name y p1] (.Call (.Name rp p2) [.Name x p3] [] p4) p5]:=.cons (.set rfl (.inl ly) (.gc (.call (.cons (.mk (.var rfl (.inl lx) dx dx')) .nil) gr hrp dr)) fun _=>rfl) .nil
   refine⟨_,qzs s1 (qzs (qgh ((qxh fns n (k+1)).s _ _ G (fun _=>rfl) _ _ ck)) (qee s3)),?_⟩
   refine⟨m,st0,[some z,some .non],.nx [some z,some d],st',R0,S1,?_,fun m1 H1 b1 t1 R1 σ1 Q1=>?_⟩
   ·show M.exs (M.stepEx (M.rn fns n k)) _ _ _=_
    simp only[M.exs,M.stepEx,e1,M.setT,oBs,oMs,Qqv,Qz8,List.set_cons_succ,List.set_cons_zero]
    rfl
   ·obtain⟨u,e2,iu⟩:=Q1.at_ 1 d rfl
    exact⟨u,e2,q u m1 H1 b1 t1 R1 iu⟩
  ·refine⟨_,qzs s1 (qzs (qd3 (i:=1) (j:=0) (c:=⟨[x,y],qzq st,names,glo⟩) (f:=g) G xt B ⟨rfl,rfl⟩ rfl (.inl ly) rfl rfl (.inl lx) dx dx' gr hrp dr gb FA g1 g2) (qee s3)),?_⟩
   exact⟨m,st0,st',z,v,R0,iz,rfl,xc,fun m1 H1 b1 t1 R1=>⟨.non,rfl,q _ m1 H1 b1 t1 R1 qyu⟩⟩
theorem qmo{P:Program}{w:World}{K:Qqq}{mg:Str→Option Value}{base:Heap}{fns:List Fn}{ok:Nat→Bool}{names:List Str}{glo:Glo}{C:Addr}{f0:Nat}(T:∀ f x,names[f]?=some x→f≠f0→FText K mg fns names glo f x)(hok:ok f0=false)(Mg:Mo K mg glo w.params)(B:Bad K mg C)
  (T0:∀ x,names[f0]?=some x→∃ fa fd ps,mg x=some (.ref fa)∧Qzw K (.ref fa)=true∧Binds K fd ps []∧∀ n,FTab P w K mg base fns names n→XTab P w K mg base C fns ok names n→FnOk P w K mg base CX0 (n+1) fa fd ps (spN K fns (n+1) f0)) :
  ∀ n,FTab P w K mg base fns names n∧XTab P w K mg base C fns ok names n:=by
 intro n
 induction n with
 |zero=>
  refine⟨fun f x hx=>?_,fun f x hx ho=>?_⟩
  ·by_cases h0:f=f0
   ·subst h0
    obtain⟨fa,fd,ps,hm,kp,hb,_⟩:=T0 x hx
    refine⟨fa,fd,ps,hm,⟨fun vs H Q E h=>?_,fun A outer s H args us vs Q E hr he hbb hv h=>?_⟩,kp,hb⟩
    ·obtain⟨m,st,ds,d,st',_,_,e,_⟩:=h; cases e
    ·obtain⟨m,st,ds,d,st',_,_,e,_⟩:=h; cases e
   ·obtain⟨fa,fd,st,N,ps,F,hF,hfun,hm,hb,hsc,hck,hnp,hnl⟩:=(T f x hx h0).ex
    refine⟨fa,fd,ps,hm,⟨fun vs H Q E h=>?_,fun A outer s H args us vs Q E hr he hbb hv h=>?_⟩,hfun.kp,hb⟩
    ·obtain⟨m,st,ds,d,st',_,_,e,_⟩:=h; cases e
    ·obtain⟨m,st,ds,d,st',_,_,e,_⟩:=h; cases e
  ·have h0:f≠f0:=fun z=>by rw[z,hok]at ho; cases ho
   obtain⟨fa,fd,st,N,ps,F,hF,hfun,hm,hb,hsc,hck,hnp,hnl⟩:=(T f x hx h0).ex
   refine⟨fa,fd,ps,hm,⟨fun vs H Q E h=>?_,fun A outer s H args us vs Q E hr he hbb hv h=>?_⟩,hfun.kp,hb⟩
   ·obtain⟨m,st,ds,st',_,_,e,_⟩:=h; exact e.elim
   ·obtain⟨m,st,ds,st',_,_,e,_⟩:=h; exact e.elim
 |succ n ih=>
  refine⟨fun f x hx=>?_,fun f x hx ho=>?_⟩
  ·by_cases h0:f=f0
   ·subst h0
    obtain⟨fa,fd,ps,hm,kp,hb,F⟩:=T0 x hx
    exact⟨fa,fd,ps,hm,F n ih.1 ih.2,kp,hb⟩
   ·obtain⟨fa,fd,st,N,ps,F,hF,hfun,hm,hb,hsc,hck,hnp,hnl⟩:=(T f x hx h0).ex
    exact⟨fa,fd,ps,hm,qim ih.1 Mg hF hfun hsc hck hnp hnl,hfun.kp,hb⟩
  ·have h0:f≠f0:=fun z=>by rw[z,hok]at ho; cases ho
   obtain⟨fa,fd,st,N,ps,F,hF,hfun,hm,hb,hsc,hck,hnp,hnl⟩:=(T f x hx h0).ex
   exact⟨fa,fd,ps,hm,qmf ih.1 ih.2 Mg B hF hfun hsc hck hnp hnl,hfun.kp,hb⟩
theorem bad_mk{K:Qqq}{mg:Str→Option Value}{C:Addr}(hm:mg "BadText" = some (.ref C))(q:Qjx K C bmV "ValueError.__new__" = true):Bad K mg C:=by
 refine⟨fun h X=>⟨hm,?_⟩⟩
 unfold Qjx at q; split at q
 case h_2=>cases q
 case h_1 dd0 cl sl0 look=>
  split at q
  case h_2=>cases q
  case h_1 C1 bm1 j0 j1 j2 j3 nid j5 em es0=>
   simp only[Qqk,beq_iff_eq,Qzc]at q; obtain⟨⟨⟨⟨⟨q1,q2⟩,q3⟩,q4⟩,q5⟩,q6⟩:=q
   obtain⟨n1,n2,n3,n4,n5,n6,n7,n8,n9,n10,n11⟩:=cl; dsimp only at em q3 q5 q6
   have es1:sl0=#[j0,j1,j2,j3,some (.builtin nid),j5]:=by cases sl0; dsimp only at es0; rw[es0]
   subst q1 q2 em q3 es1
   exact⟨bm1,n4,n1,n5,n2,n6,n7,n8,n9,n10,dd0,j0,j1,j2,j3,j5,_,X _ _ look,.of_isNs (PySem.W.isNs_of_in X q5),PySem.W.nsMap_none_of_in X q5 q6,PySem.W.tail_of_in X q4⟩
theorem FnK.fn{K:Qqq}{h:Heap}{mg:Str→Option Value}{x:Str}{st:Stmt}{fa:Addr}{fd:FuncData}{ps:List Str}(q:FnK K x st fa fd)(X:K.In h)(G:h.Ns mainGlobals mg)
  (b:∀ (kV doc pm:Value) (an:Option Addr) (cdv ct:Value) (us:List Value),us.length=ps.length→bindArgs (PySem.W.fnOf x x (qq9 st) (qzv st) (qzq st) .none kV doc pm an cdv ct) ⟨us,[]⟩=pure (ps.zip us)):mg x=some (.ref fa)∧Qzw K (.ref fa)=true∧Binds K fd ps []∧Fun K x x st fa fd:=by
 cases q with
 |mk a l c k=>exact⟨Qze X G a,k,(qy8 l c k).binds b,qy8 l c k⟩
end MS
end
namespace K08
open PySem PySem.Spec PyProof.Rows L2 MS
open M (D Cell Store Sl E S T Src Fn Out R)
def top(i:Nat):Stmt:=PySem.Challenge.pw_dipright_k08_facts_read_or_refused.main.body.getD i (.Pass ⟨0,0,0,0⟩)
noncomputable def names:List Str:=["all_figures","number","read_numbers","read_steps","read_cell","read_vein","read_fact","_law_draw","_law_same","_law_size","_law_rect","_law_steps","_law_outs","_law_who","_law_pick","_law_vein","_law_claim_fact","_law_fact","_law_dig","_law_pay","_law_bounds","_law_some_fact","_law_number","_law_numbers","_law_read_vein","_law_read","_law_written","_law_bent","_law_told","law"]
noncomputable def glo:Glo:=⟨[("FIGURES",(.str "0123456789")),("NO_STEPS",(.str "-"))],[("ASKS",["join","stake","work","sell","part","give","dig","pay"],[(.tup [(.str "day"),(.str "day"),(.str "below")]),(.tup [(.str "folk"),(.str "x"),(.str "y"),(.str "x"),(.str "y")]),(.tup [(.str "day")]),(.tup [(.str "day"),(.str "folk")]),(.tup [(.str "day"),(.str "side"),(.str "line"),(.str "folk")]),(.tup [(.str "day")]),(.tup [(.str "folk"),(.str "x"),(.str "y"),(.str "x"),(.str "y"),(.str "floor"),(.str "coins")]),(.tup [(.str "folk"),(.str "folk"),(.str "coins")])])]⟩
abbrev s_all_figures:Stmt:=top 9
theorem qvt:FnScope ["text"] ["text"] (qzq s_all_figures):=⟨rfl,rfl,rfl,by decide +kernel,rfl,by decide +kernel,by decide +kernel⟩
theorem qv2:CkSs ⟨["text"],qzq s_all_figures,names,glo⟩ qj5 (qzv s_all_figures):=
  (.cons (.ret (.and2 (.cmp .v .str) (.bcall (.cons (.gc (.comp (N:=["sign"]) (.seq .v) (.var rfl (.inl rfl)) (.cmp .v (.glo rfl (.head _) rfl)))) .nil))))
  .nil)
abbrev s_number:Stmt:=top 10
theorem qew:FnScope ["text"] ["text"] (qzq s_number):=⟨rfl,rfl,rfl,by decide +kernel,rfl,by decide +kernel,by decide +kernel⟩
theorem qf7:CkSs ⟨["text"],qzq s_number,names,glo⟩ qc2 (qzv s_number):=
  (.cons (.ite (.not (.gc (.call (.cons .v .nil)))) (.cons (.ret .non)
  .nil) .nil)
  (.cons (.ite (.and2 (.cmp (.idx .v .int) .str) (.cmp .v .str)) (.cons (.ret .non)
  .nil) .nil)
  (.cons (.ret (.bcall (.cons .v .nil)))
  .nil)))
abbrev s_read_numbers:Stmt:=top 11
theorem qk7:FnScope ["texts","numbers"] ["texts"] (qzq s_read_numbers):=⟨rfl,rfl,rfl,by decide +kernel,rfl,by decide +kernel,by decide +kernel⟩
theorem qvm:CkSs ⟨["texts","numbers"],qzq s_read_numbers,names,glo⟩ qjz (qzv s_read_numbers):=
  (.cons (.setC rfl (.inl rfl) (.gc (.comp (N:=["text"]) (.seq .v) (.var rfl (.inl rfl)) (.gc (.call (.cons .v .nil))))) ⟨_,_,_,_,rfl⟩ (fun env _=>qkt _ _ _ _ _ _ _ env))
  (.cons (.ite (.cmp .non .v) (.cons (.rais rfl)
  .nil) .nil)
  (.cons (.ret .v)
  .nil)))
abbrev s_read_steps:Stmt:=top 12
theorem qwm:FnScope ["text"] ["text"] (qzq s_read_steps):=⟨rfl,rfl,rfl,by decide +kernel,rfl,by decide +kernel,by decide +kernel⟩
theorem qw7:CkSs ⟨["text"],qzq s_read_steps,names,glo⟩ qz6 (qzv s_read_steps):=
  (.cons (.ite (.cmp .v (.glo rfl (.tail _ (.head _)) rfl)) (.cons (.ret (.tup .nil))
  .nil) .nil)
  (.cons (.ite (.not (.gc (.call (.cons .v .nil)))) (.cons (.rais rfl)
  .nil) .nil)
  (.cons (.ret (.bcall (.cons (.gc (.comp (N:=["figure"]) (.seq .v) (.var rfl (.inl rfl)) (.bcall (.cons .v .nil)))) .nil)))
  .nil)))
abbrev s_read_cell:Stmt:=top 13
theorem qye:FnScope ["text","numbers"] ["text"] (qzq s_read_cell):=⟨rfl,rfl,rfl,by decide +kernel,rfl,by decide +kernel,by decide +kernel⟩
theorem qaa:CkSs ⟨["text","numbers"],qzq s_read_cell,names,glo⟩ qqe (qzv s_read_cell):=
  (.cons (.st (.gc (.call (.cons (.gc (.split .v .str (fun _=>rfl) rfl)) .nil))))
  (.cons (.ite (.cmp (.bcall (.cons .v .nil)) .int) (.cons (.rais rfl)
  .nil) .nil)
  (.cons (.ret (.bcall (.cons .v .nil)))
  .nil)))
abbrev s_read_vein:Stmt:=top 14
theorem qyc:FnScope ["texts"] ["texts"] (qzq s_read_vein):=⟨rfl,rfl,rfl,by decide +kernel,rfl,by decide +kernel,by decide +kernel⟩
theorem qaw:CkSs ⟨["texts"],qzq s_read_vein,names,glo⟩ qqc (qzv s_read_vein):=
  (.cons (.ite (.cmp (.bcall (.cons .v .nil)) .int) (.cons (.rais rfl)
  .nil) .nil)
  (.cons (.ret (.tup (.cons .str (.cons (.gc (.call (.cons (.idx .v .int) .nil))) (.cons (.bcall (.cons (.gc (.comp (N:=["text"]) (.seq (.gc (.sli .v (.some .int) .none))) (.var rfl (.inl rfl)) (.gc (.call (.cons .v .nil))))) .nil)) .nil)))))
  .nil))
abbrev s_read_fact:Stmt:=top 15
theorem qyd:FnScope ["text","texts","word","numbers"] ["text"] (qzq s_read_fact):=⟨rfl,rfl,rfl,by decide +kernel,rfl,by decide +kernel,by decide +kernel⟩
theorem qay:CkSs ⟨["text","texts","word","numbers"],qzq s_read_fact,names,glo⟩ qqd (qzv s_read_fact):=
  (.cons (.st (.gc (.split .v .str (fun _=>rfl) rfl)))
  (.cons (.st (.idx .v .int))
  (.cons (.ite (.cmp .v .str) (.cons (.ret (.call (.cons (.gc (.sli .v (.some .int) .none)) .nil)))
  .nil) .nil)
  (.cons (.ite (.gnin rfl (.head _) rfl .v) (.cons (.rais rfl)
  .nil) .nil)
  (.cons (.st (.gc (.call (.cons (.gc (.sli .v (.some .int) .none)) .nil))))
  (.cons (.ite (.cmp (.bcall (.cons .v .nil)) (.bcall (.cons (.gidx rfl (.head _) rfl .v (fun _ _=>rfl)) .nil))) (.cons (.rais rfl)
  .nil) .nil)
  (.cons (.ret (.bin (.tup (.cons .v .nil)) (.bcall (.cons .v .nil))))
  .nil)))))))
abbrev s_law_draw:Stmt:=top 17
theorem qa9:FnScope ["_law_script","_law_k","_law_j","_law_many","_law_cell","_law_turn","_law_rest","_law_step","_law_one","_law_two"] ["_law_script","_law_k","_law_j","_law_many"] (qzq s_law_draw):=⟨rfl,rfl,rfl,by decide +kernel,rfl,by decide +kernel,by decide +kernel⟩
theorem qbo:CkSs ⟨["_law_script","_law_k","_law_j","_law_many","_law_cell","_law_turn","_law_rest","_law_step","_law_one","_law_two"],qzq s_law_draw,names,glo⟩ qwb (qzv s_law_draw):=
  (.cons (.st .int)
  (.cons (.st .int)
  (.cons (.ite (.cmp (.bcall (.cons .v .nil)) .int) (.cons (.st (.idx .v (.bin .v (.bcall (.cons .v .nil)))))
  (.cons (.st (.bin .v (.bcall (.cons .v .nil))))
  .nil)) .nil)
  (.cons (.st .v)
  (.cons (.forr (.var rfl (.inl rfl)) (.rng1 rfl .v) (fun _ _=>rfl) (.cons (.st (.bin .v (.bin .int .int)))
  .nil))
  (.cons (.ite (.andN (.cmp .v .int) (.and2 (.cmp .v (.bin .int .int)) (.cmp .v .int))) (.cons (.ret (.bin (.bin .v (.bin .int .int)) .v))
  .nil) .nil)
  (.cons (.st (.bin (.bin (.bin (.bin (.bin .v .int) (.bin .v .int)) (.bin .v .int)) .int) .int))
  (.cons (.st (.bin (.bin (.bin .v .int) (.bin .v .int)) .int))
  (.cons (.st (.bin (.bin (.bin .v (.bin (.bin .v .int) .int)) .v) .int))
  (.cons (.ret (.bin (.bin (.bin (.bin (.bin .v .int) (.bin .v .int)) (.bin .v .int)) .int) .v))
  .nil))))))))))
abbrev s_law_same:Stmt:=top 18
theorem qa3:FnScope ["_law_found","_law_due","_law_like"] ["_law_found","_law_due"] (qzq s_law_same):=⟨rfl,rfl,rfl,by decide +kernel,rfl,by decide +kernel,by decide +kernel⟩
theorem qbg:CkSs ⟨["_law_found","_law_due","_law_like"],qzq s_law_same,names,glo⟩ qwa (qzv s_law_same):=
  (.cons (.ite (.isiN (by decide) rfl (.cons (by decide) rfl (.cons (by decide) rfl .nil)) (.var rfl (.inr (.inl rfl)) rfl rfl)) (.cons (.ite (.or2 (.not (.isiN (by decide) rfl (.cons (by decide) rfl (.cons (by decide) rfl .nil)) (.var rfl (.inr (.inl rfl)) rfl rfl))) (.cmp (.bcall (.cons (.var rfl (.inr (.inl rfl)) rfl rfl) .nil)) (.bcall (.cons (.var rfl (.inr (.inl rfl)) rfl rfl) .nil)))) (.cons (.ret .bl)
  .nil) .nil)
  (.cons (.st (.bcall (.cons (.gc (.comp (N:=["_law_k","_law_found","_law_due"]) (.rng1 rfl (.bcall (.cons (.var rfl (.inr (.inl rfl)) rfl rfl) .nil))) (.var rfl (.inl rfl)) (.gc (.call (.cons (.idx (.var rfl (.inr (.inl rfl)) rfl rfl) .v) (.cons (.idx (.var rfl (.inr (.inl rfl)) rfl rfl) .v) .nil)))))) .nil)))
  (.cons (.ret (.and2 .v (.cmp (.isi1 (.var rfl (.inr (.inl rfl)) rfl rfl)) (.isi1 (.var rfl (.inr (.inl rfl)) rfl rfl)))))
  .nil))) .nil)
  (.cons (.st (.cmp (.isi1 (.var rfl (.inr (.inl rfl)) rfl rfl)) (.isi1 (.var rfl (.inr (.inl rfl)) rfl rfl))))
  (.cons (.st (.and2 .v (.cmp (.isi1 (.var rfl (.inr (.inl rfl)) rfl rfl)) (.isi1 (.var rfl (.inr (.inl rfl)) rfl rfl)))))
  (.cons (.ret (.andN .v (.and2 (.cmp (.isi1 (.var rfl (.inr (.inl rfl)) rfl rfl)) (.isi1 (.var rfl (.inr (.inl rfl)) rfl rfl))) (.cmp (.var rfl (.inr (.inl rfl)) rfl rfl) (.var rfl (.inr (.inl rfl)) rfl rfl)))))
  .nil))))
abbrev s_law_size:Stmt:=top 19
theorem qa2:FnScope ["_law_script","_law_k","_law_wide","_law_tall","_law_deep","_law_sizes"] ["_law_script","_law_k"] (qzq s_law_size):=⟨rfl,rfl,rfl,by decide +kernel,rfl,by decide +kernel,by decide +kernel⟩
theorem qbf:CkSs ⟨["_law_script","_law_k","_law_wide","_law_tall","_law_deep","_law_sizes"],qzq s_law_size,names,glo⟩ qxt (qzv s_law_size):=
  (.cons (.st (.bin .int (.gc (.call (.cons .v (.cons .v (.cons .int (.cons .int .nil))))))))
  (.cons (.st (.bin .int (.gc (.call (.cons .v (.cons .v (.cons .int (.cons .int .nil))))))))
  (.cons (.st (.gc (.call (.cons .v (.cons .v (.cons .int (.cons .int .nil)))))))
  (.cons (.st (.gc (.lst (.cons (.tup (.cons .int (.cons (.bin .int (.bin .v .int)) (.cons (.bin .v .int) .nil)))) (.cons (.tup (.cons (.bin .int (.bin .v .int)) (.cons .int (.cons (.bin .v .int) .nil)))) .nil)))))
  (.cons (.st (.gc (.bin .v (.gc (.lst (.cons (.tup (.cons (.bin .int (.bin .v .int)) (.cons (.bin .int (.bin .v .int)) (.cons .int .nil)))) (.cons (.tup (.cons .v (.cons .v (.cons .v .nil)))) .nil)))))))
  (.cons (.ret (.idx .v (.bcall (.cons .int (.cons (.gc (.call (.cons .v (.cons .v (.cons .int (.cons .int .nil)))))) .nil)))))
  .nil))))))
abbrev s_law_rect:Stmt:=top 20
theorem qa4:FnScope ["_law_script","_law_k","_law_j","_law_wide","_law_tall","_law_x","_law_y"] ["_law_script","_law_k","_law_j","_law_wide","_law_tall"] (qzq s_law_rect):=⟨rfl,rfl,rfl,by decide +kernel,rfl,by decide +kernel,by decide +kernel⟩
theorem qbh:CkSs ⟨["_law_script","_law_k","_law_j","_law_wide","_law_tall","_law_x","_law_y"],qzq s_law_rect,names,glo⟩ qxu (qzv s_law_rect):=
  (.cons (.st (.gc (.bcall (.cons (.gc (.lst (.cons (.call (.cons .v (.cons .v (.cons .v (.cons .v .nil))))) (.cons (.call (.cons .v (.cons .v (.cons (.bin .v .int) (.cons .v .nil))))) .nil)))) .nil))))
  (.cons (.st (.gc (.bcall (.cons (.gc (.lst (.cons (.call (.cons .v (.cons .v (.cons (.bin .v .int) (.cons .v .nil))))) (.cons (.call (.cons .v (.cons .v (.cons (.bin .v .int) (.cons .v .nil))))) .nil)))) .nil))))
  (.cons (.ret (.tup (.cons (.idx .v .int) (.cons (.idx .v .int) (.cons (.idx .v .int) (.cons (.idx .v .int) .nil))))))
  .nil)))
abbrev s_law_steps:Stmt:=top 21
theorem qyf:FnScope ["_law_script","_law_k","_law_j","_law_deep"] ["_law_script","_law_k","_law_j","_law_deep"] (qzq s_law_steps):=⟨rfl,rfl,rfl,by decide +kernel,rfl,by decide +kernel,by decide +kernel⟩
theorem qab:CkSs ⟨["_law_script","_law_k","_law_j","_law_deep"],qzq s_law_steps,names,glo⟩ qxz (qzv s_law_steps):=
  (.cons (.ret (.bcall (.cons (.gc (.comp (N:=["_law_at","_law_script","_law_k","_law_j"]) (.rng1 rfl .v) (.var rfl (.inl rfl)) (.idx (.gc (.lst (.cons .int (.cons .int (.cons .int (.cons .int (.cons .int (.cons .int (.cons .int .nil))))))))) (.gc (.call (.cons (.var rfl (.inr (.inl rfl)) rfl rfl) (.cons (.var rfl (.inr (.inl rfl)) rfl rfl) (.cons (.bin (.var rfl (.inr (.inl rfl)) rfl rfl) .v) (.cons .int .nil))))))))) .nil)))
  .nil)
abbrev s_law_outs:Stmt:=top 22
theorem qa7:FnScope ["_law_script","_law_k","_law_j","_law_size_here","_law_count","_law_first","_law_stride","_law_found","_law_at","_law_place"] ["_law_script","_law_k","_law_j","_law_size_here"] (qzq s_law_outs):=⟨rfl,rfl,rfl,by decide +kernel,rfl,by decide +kernel,by decide +kernel⟩
theorem qbm:CkSs ⟨["_law_script","_law_k","_law_j","_law_size_here","_law_count","_law_first","_law_stride","_law_found","_law_at","_law_place"],qzq s_law_outs,names,glo⟩ qx1 (qzv s_law_outs):=
  (.cons (.st (.bin (.idx .v .int) (.idx .v .int)))
  (.cons (.st (.gc (.call (.cons .v (.cons .v (.cons .v (.cons .v .nil)))))))
  (.cons (.st (.bin .int (.gc (.call (.cons .v (.cons .v (.cons (.bin .v .int) (.cons .v .nil))))))))
  (.cons (.st (.lst .nil))
  (.cons (.forr (.var rfl (.inl rfl)) (.rng1 rfl (.bin .int (.gc (.call (.cons .v (.cons .v (.cons (.bin .v .int) (.cons (.idx (.gc (.lst (.cons .int (.cons .int (.cons .int (.cons .int .nil)))))) (.gc (.call (.cons .v (.cons .v (.cons (.bin .v .int) (.cons .int .nil))))))) .nil)))))))) (fun _ _=>rfl) (.cons (.st (.bin (.bin .v (.bin .v .v)) .v))
  (.cons (.ite (.cmp (.tup (.cons (.bin .v (.idx .v .int)) (.cons (.bin .v (.idx .v .int)) .nil))) .v) (.cons (.expr (.append .v (.tup (.cons (.bin .v (.idx .v .int)) (.cons (.bin .v (.idx .v .int)) .nil))) rfl) (fun _=>rfl))
  .nil) .nil)
  .nil)))
  (.cons (.ret (.bcall (.cons .v .nil)))
  .nil))))))
abbrev s_law_who:Stmt:=top 23
theorem qc9:FnScope ["_law_script","_law_k","_law_j"] ["_law_script","_law_k","_law_j"] (qzq s_law_who):=⟨rfl,rfl,rfl,by decide +kernel,rfl,by decide +kernel,by decide +kernel⟩
theorem qdg:CkSs ⟨["_law_script","_law_k","_law_j"],qzq s_law_who,names,glo⟩ qj2 (qzv s_law_who):=
  (.cons (.ret (.bin .int (.gc (.call (.cons .v (.cons .v (.cons .v (.cons (.idx (.gc (.lst (.cons .int (.cons .int (.cons .int (.cons .int (.cons .int (.cons .int .nil)))))))) (.gc (.call (.cons .v (.cons .v (.cons (.bin .v .int) (.cons .int .nil))))))) .nil))))))))
  .nil)
abbrev s_law_pick:Stmt:=top 24
theorem qa6:FnScope ["_law_script","_law_k","_law_j","_law_names"] ["_law_script","_law_k","_law_j","_law_names"] (qzq s_law_pick):=⟨rfl,rfl,rfl,by decide +kernel,rfl,by decide +kernel,by decide +kernel⟩
theorem qbl:CkSs ⟨["_law_script","_law_k","_law_j","_law_names"],qzq s_law_pick,names,glo⟩ qqk (qzv s_law_pick):=
  (.cons (.ite (.or2 (.cmp (.bcall (.cons .v .nil)) .int) (.cmp (.gc (.call (.cons .v (.cons .v (.cons .v (.cons .int .nil)))))) .int)) (.cons (.ret (.bin .int (.gc (.call (.cons .v (.cons .v (.cons (.bin .v .int) (.cons .int .nil))))))))
  .nil) .nil)
  (.cons (.ret (.idx .v (.gc (.call (.cons .v (.cons .v (.cons (.bin .v .int) (.cons (.bcall (.cons .v .nil)) .nil))))))))
  .nil))
abbrev s_law_vein:Stmt:=top 25
theorem qa0:FnScope ["_law_script","_law_k","_law_size_here"] ["_law_script","_law_k","_law_size_here"] (qzq s_law_vein):=⟨rfl,rfl,rfl,by decide +kernel,rfl,by decide +kernel,by decide +kernel⟩
theorem qbe:CkSs ⟨["_law_script","_law_k","_law_size_here"],qzq s_law_vein,names,glo⟩ qxs (qzv s_law_vein):=
  (.cons (.ret (.tup (.cons .str (.cons (.gc (.call (.cons .v (.cons .v (.cons .int (.cons (.idx .v .int) .nil)))))) (.cons (.gc (.call (.cons .v (.cons .v (.cons .int (.cons .v .nil)))))) .nil)))))
  .nil)
abbrev s_law_claim_fact:Stmt:=top 26
theorem qj7:FnScope ["_law_script","_law_k","_law_way","_law_size_here","_law_names","_law_claim","_law_who_here","_law_side","_law_line"] ["_law_script","_law_k","_law_way","_law_size_here","_law_names"] (qzq s_law_claim_fact):=⟨rfl,rfl,rfl,by decide +kernel,rfl,by decide +kernel,by decide +kernel⟩
theorem qkc:CkSs ⟨["_law_script","_law_k","_law_way","_law_size_here","_law_names","_law_claim","_law_who_here","_law_side","_law_line"],qzq s_law_claim_fact,names,glo⟩ qzt (qzv s_law_claim_fact):=
  (.cons (.st (.gc (.call (.cons .v (.cons .v (.cons .int (.cons .v .nil)))))))
  (.cons (.st (.gc (.call (.cons .v (.cons .v (.cons .int .nil))))))
  (.cons (.st (.gc (.call (.cons .v (.cons .v (.cons .int (.cons .int .nil)))))))
  (.cons (.st (.bin .int (.gc (.call (.cons .v (.cons .v (.cons .int (.cons (.bcall (.cons .int (.cons (.idx .v .v) .nil))) .nil))))))))
  (.cons (.ite (.cmp .v .int) (.cons (.ret (.tup (.cons .str (.cons .v .nil))))
  .nil) .nil)
  (.cons (.ret (.idx (.gc (.lst (.cons (.tup (.cons .str (.cons .v (.cons .v .nil)))) (.cons (.tup (.cons .str (.cons .v (.cons .v (.cons .v (.cons .v .nil)))))) (.cons (.tup (.cons .str (.cons .v .nil))) .nil))))) (.bin (.bin .v .int) .int)))
  .nil))))))
abbrev s_law_fact:Stmt:=top 27
theorem qa8:FnScope ["_law_script","_law_k","_law_size_here","_law_plan","_law_way","_law_veins","_law_names","_law_floor"] ["_law_script","_law_k","_law_size_here","_law_plan"] (qzq s_law_fact):=⟨rfl,rfl,rfl,by decide +kernel,rfl,by decide +kernel,by decide +kernel⟩
theorem qbn:CkSs ⟨["_law_script","_law_k","_law_size_here","_law_plan","_law_way","_law_veins","_law_names","_law_floor"],qzq s_law_fact,names,glo⟩ qx2 (qzv s_law_fact):=
  (.cons (.st (.gc (.call (.cons .v (.cons .v (.cons .int (.cons .int .nil)))))))
  (.cons (.setC rfl (.inl rfl) (.gc (.compIf (N:=["_law_day","_law_fact_here"]) (.seq .v) (.tup (.cons rfl (.inl rfl) (.cons rfl (.inl rfl) .nil))) (.cmp (.idx .v .int) .str) .v)) ⟨_,_,_,_,rfl⟩ (fun env _=>qkt _ _ _ _ _ _ _ env))
  (.cons (.setC rfl (.inl rfl) (.gc (.compIf (N:=["_law_day","_law_fact_here"]) (.seq .v) (.tup (.cons rfl (.inl rfl) (.cons rfl (.inl rfl) .nil))) (.cmp (.idx .v .int) (.tup (.cons .str (.cons .str .nil)))) .v)) ⟨_,_,_,_,rfl⟩ (fun env _=>qkt _ _ _ _ _ _ _ env))
  (.cons (.ite (.or2 (.cmp .v .int) (.and2 (.cmp .v .int) (.cmp (.bcall (.cons .v .nil)) .int))) (.cons (.ret (.call (.cons .v (.cons .v (.cons .v .nil)))))
  .nil) .nil)
  (.cons (.ite (.and2 (.cmp .v .int) (.cmp (.idx .v .int) .int)) (.cons (.st (.bin .int (.gc (.call (.cons .v (.cons .v (.cons .int (.cons (.idx .v .int) .nil))))))))
  (.cons (.ret (.tup (.cons .str (.cons (.gc (.call (.cons .v (.cons .v (.cons .int (.cons .v .nil)))))) (.cons (.gc (.call (.cons .v (.cons .v (.cons .int (.cons .v .nil)))))) (.cons .v .nil))))))
  .nil)) .nil)
  (.cons (.ite (.or2 (.cmp .v .int) (.and2 (.cmp .v .int) (.cmp (.bcall (.cons .v .nil)) .int))) (.cons (.ret (.bin (.tup (.cons .str (.cons (.gc (.call (.cons .v (.cons .v (.cons .int .nil))))) .nil))) (.gc (.call (.cons .v (.cons .v (.cons .int (.cons (.idx .v .int) (.cons (.idx .v .int) .nil)))))))))
  .nil) .nil)
  (.cons (.ret (.call (.cons .v (.cons .v (.cons (.bin .v .int) (.cons .v (.cons .v .nil)))))))
  .nil)))))))
abbrev s_law_dig:Stmt:=top 28
theorem qdq:FnScope ["_law_script","_law_k","_law_size_here","_law_mouth","_law_spot","_law_worth"] ["_law_script","_law_k","_law_size_here"] (qzq s_law_dig):=⟨rfl,rfl,rfl,by decide +kernel,rfl,by decide +kernel,by decide +kernel⟩
theorem qdi:CkSs ⟨["_law_script","_law_k","_law_size_here","_law_mouth","_law_spot","_law_worth"],qzq s_law_dig,names,glo⟩ qj4 (qzv s_law_dig):=
  (.cons (.st (.gc (.sli (.gc (.call (.cons .v (.cons .v (.cons .int (.cons (.idx .v .int) (.cons (.idx .v .int) .nil))))))) .none (.some .int))))
  (.cons (.st (.bin (.gc (.sli (.gc (.call (.cons .v (.cons .v (.cons .int (.cons (.idx .v .int) (.cons (.idx .v .int) .nil))))))) (.some .int) .none)) (.tup (.cons (.gc (.call (.cons .v (.cons .v (.cons .int (.cons (.bin (.idx .v .int) .int) .nil)))))) .nil))))
  (.cons (.st (.bin .int (.gc (.call (.cons .v (.cons .v (.cons .int (.cons (.idx (.gc (.lst (.cons .int (.cons .int (.cons (.bin .int .int) .nil))))) (.gc (.call (.cons .v (.cons .v (.cons .int (.cons .int .nil))))))) .nil))))))))
  (.cons (.ret (.bin (.bin (.bin (.tup (.cons .str (.cons (.gc (.call (.cons .v (.cons .v (.cons .int .nil))))) .nil))) .v) .v) (.tup (.cons .v .nil))))
  .nil))))
abbrev s_law_pay:Stmt:=top 29
theorem qdz:FnScope ["_law_script","_law_k","_law_giver","_law_taker"] ["_law_script","_law_k"] (qzq s_law_pay):=⟨rfl,rfl,rfl,by decide +kernel,rfl,by decide +kernel,by decide +kernel⟩
theorem qdh:CkSs ⟨["_law_script","_law_k","_law_giver","_law_taker"],qzq s_law_pay,names,glo⟩ qj3 (qzv s_law_pay):=
  (.cons (.st (.gc (.call (.cons .v (.cons .v (.cons .int .nil))))))
  (.cons (.st (.gc (.call (.cons .v (.cons .v (.cons .int .nil))))))
  (.cons (.ite (.cmp .v .v) (.cons (.st (.bin (.bin .v .int) .int))
  .nil) .nil)
  (.cons (.ret (.tup (.cons .str (.cons .v (.cons .v (.cons (.bin .int (.gc (.call (.cons .v (.cons .v (.cons .int (.cons (.idx (.gc (.lst (.cons .int (.cons (.bin .int .int) .nil)))) (.gc (.call (.cons .v (.cons .v (.cons .int (.cons .int .nil))))))) .nil))))))) .nil))))))
  .nil))))
abbrev s_law_bounds:Stmt:=top 30
theorem qwo:FnScope ["_law_size_here","_law_word","_law_day","_law_folk","_law_coins","_law_x","_law_y","_law_rows"] ["_law_size_here","_law_word"] (qzq s_law_bounds):=⟨rfl,rfl,rfl,by decide +kernel,rfl,by decide +kernel,by decide +kernel⟩
theorem qw9:CkSs ⟨["_law_size_here","_law_word","_law_day","_law_folk","_law_coins","_law_x","_law_y","_law_rows"],qzq s_law_bounds,names,glo⟩ qql (qzv s_law_bounds):=
  (.cons (.st (.tup (.cons .int (.cons .int .nil))))
  (.cons (.st (.tup (.cons .int (.cons .int .nil))))
  (.cons (.st (.tup (.cons .int (.cons (.bin .int .int) .nil))))
  (.cons (.st (.tup (.cons .int (.cons (.bin (.idx .v .int) .int) .nil))))
  (.cons (.st (.tup (.cons .int (.cons (.bin (.idx .v .int) .int) .nil))))
  (.cons (.st (.dic (.cons .str (.lst (.cons .v (.cons .v (.cons (.tup (.cons .int (.cons (.idx .v .int) .nil))) .nil)))) (.cons .str (.lst (.cons .v (.cons .v (.cons .v (.cons .v (.cons .v .nil)))))) (.cons .str (.lst (.cons .v .nil)) .nil))) (by decide)))
  (.cons (.dset .v .str (.lst (.cons .v (.cons .v .nil))) (fun _=>rfl))
  (.cons (.dset .v .str (.lst (.cons .v (.cons (.tup (.cons .int (.cons .int .nil))) (.cons (.tup (.cons .int (.cons .int .nil))) (.cons .v .nil))))) (fun _=>rfl))
  (.cons (.dset .v .str (.lst (.cons .v .nil)) (fun _=>rfl))
  (.cons (.dset .v .str (.lst (.cons .v (.cons .v (.cons .v (.cons .v (.cons .v (.cons (.tup (.cons .int (.cons (.idx .v .int) .nil))) (.cons .v .nil)))))))) (fun _=>rfl))
  (.cons (.dset .v .str (.lst (.cons .v (.cons .v (.cons .v .nil)))) (fun _=>rfl))
  (.cons (.ret (.dgt .v .v (fun _=>rfl) rfl (fun _=>rfl)))
  .nil))))))))))))
abbrev s_law_some_fact:Stmt:=top 31
theorem qkl:FnScope ["_law_script","_law_k","_law_size_here","_law_way"] ["_law_script","_law_k","_law_size_here"] (qzq s_law_some_fact):=⟨rfl,rfl,rfl,by decide +kernel,rfl,by decide +kernel,by decide +kernel⟩
theorem qko:CkSs ⟨["_law_script","_law_k","_law_size_here","_law_way"],qzq s_law_some_fact,names,glo⟩ qz3 (qzv s_law_some_fact):=
  (.cons (.st (.gc (.call (.cons .v (.cons .v (.cons .int (.cons .int .nil)))))))
  (.cons (.ite (.cmp .v .int) (.cons (.ret (.call (.cons .v (.cons .v (.cons .v .nil)))))
  .nil) .nil)
  (.cons (.ite (.cmp .v .int) (.cons (.ret (.call (.cons .v (.cons .v .nil))))
  .nil) .nil)
  (.cons (.ret (.call (.cons .v (.cons .v (.cons .v (.cons (.gc (.lst (.cons (.tup (.cons .int (.cons (.tup (.cons .str .nil)) .nil))) (.cons (.tup (.cons (.bin .int (.gc (.call (.cons .v (.cons .v (.cons .int (.cons .int .nil))))))) (.cons (.tup (.cons .str .nil)) .nil))) .nil)))) .nil))))))
  .nil))))
abbrev s_law_number:Stmt:=top 32
theorem qwn:FnScope ["_law_word","_law_many","_law_sign","_law_at"] ["_law_word"] (qzq s_law_number):=⟨rfl,rfl,rfl,by decide +kernel,rfl,by decide +kernel,by decide +kernel⟩
theorem qw8:CkSs ⟨["_law_word","_law_many","_law_sign","_law_at"],qzq s_law_number,names,glo⟩ qqi (qzv s_law_number):=
  (.cons (.ite (.or2 (.cmp .v .str) (.and2 (.cmp (.bcall (.cons .v .nil)) .int) (.cmp (.idx .v .int) .str))) (.cons (.ret .non)
  .nil) .nil)
  (.cons (.st .int)
  (.cons (.forr (.var rfl (.inl rfl)) (.seq .v) (fun _ _=>rfl) (.cons (.st (.find .str .v (fun _=>rfl) rfl))
  (.cons (.ite (.cmp .v .int) (.cons (.ret .non)
  .nil) .nil)
  (.cons (.st (.bin (.bin .v .int) .v))
  .nil))))
  (.cons (.ret .v)
  .nil))))
abbrev s_law_numbers:Stmt:=top 33
theorem qvs:FnScope ["_law_words","_law_found"] ["_law_words"] (qzq s_law_numbers):=⟨rfl,rfl,rfl,by decide +kernel,rfl,by decide +kernel,by decide +kernel⟩
theorem qv1:CkSs ⟨["_law_words","_law_found"],qzq s_law_numbers,names,glo⟩ qqj (qzv s_law_numbers):=
  (.cons (.setC rfl (.inl rfl) (.gc (.comp (N:=["_law_word"]) (.seq .v) (.var rfl (.inl rfl)) (.gc (.call (.cons .v .nil))))) ⟨_,_,_,_,rfl⟩ (fun env _=>qkt _ _ _ _ _ _ _ env))
  (.cons (.ite (.bcall (.cons (.gc (.comp (N:=["_law_one"]) (.seq .v) (.var rfl (.inl rfl)) (.cmp .v .non))) .nil)) (.cons (.ret .non)
  .nil) .nil)
  (.cons (.ret .v)
  .nil)))
abbrev s_law_read_vein:Stmt:=top 34
theorem qkm:FnScope ["_law_words","_law_steps_here","_law_sign","_law_outs_here","_law_word","_law_pair"] ["_law_words"] (qzq s_law_read_vein):=⟨rfl,rfl,rfl,by decide +kernel,rfl,by decide +kernel,by decide +kernel⟩
theorem qkp:CkSs ⟨["_law_words","_law_steps_here","_law_sign","_law_outs_here","_law_word","_law_pair"],qzq s_law_read_vein,names,glo⟩ qz4 (qzv s_law_read_vein):=
  (.cons (.ite (.or2 (.cmp (.bcall (.cons .v .nil)) .int) (.cmp (.idx .v .int) .str)) (.cons (.ret .non)
  .nil) .nil)
  (.cons (.st (.lst .nil))
  (.cons (.ite (.cmp (.idx .v .int) .str) (.cons (.forr (.var rfl (.inl rfl)) (.seq (.idx .v .int)) (fun _ _=>rfl) (.cons (.expr (.append .v (.find .str .v (fun _=>rfl) rfl) rfl) (fun _=>rfl))
  .nil))
  .nil) .nil)
  (.cons (.st (.lst .nil))
  (.cons (.forr (.var rfl (.inl rfl)) (.seq (.gc (.sli .v (.some .int) .none))) (fun _ _=>rfl) (.cons (.st (.gc (.call (.cons (.gc (.split .v .str (fun _=>rfl) rfl)) .nil))))
  (.cons (.ite (.or2 (.cmp .v .non) (.cmp (.bcall (.cons .v .nil)) .int)) (.cons (.ret .non)
  .nil) .nil)
  (.cons (.expr (.append .v (.bcall (.cons .v .nil)) rfl) (fun _=>rfl))
  .nil))))
  (.cons (.ite (.bcall (.cons (.gc (.comp (N:=["_law_step"]) (.seq .v) (.var rfl (.inl rfl)) (.cmp .v .int))) .nil)) (.cons (.ret .non)
  .nil) .nil)
  (.cons (.ret (.tup (.cons .str (.cons (.bcall (.cons .v .nil)) (.cons (.bcall (.cons .v .nil)) .nil)))))
  .nil)))))))
abbrev s_law_read:Stmt:=top 35
theorem qa5:FnScope ["_law_words","_law_bounds_here","_law_numbers_here"] ["_law_words"] (qzq s_law_read):=⟨rfl,rfl,rfl,by decide +kernel,rfl,by decide +kernel,by decide +kernel⟩
theorem qbi:CkSs ⟨["_law_words","_law_bounds_here","_law_numbers_here"],qzq s_law_read,names,glo⟩ qx0 (qzv s_law_read):=
  (.cons (.ite (.cmp (.idx .v .int) .str) (.cons (.ret (.call (.cons .v .nil)))
  .nil) .nil)
  (.cons (.st (.gc (.call (.cons (.tup (.cons .int (.cons .int (.cons .int .nil)))) (.cons (.idx .v .int) .nil)))))
  (.cons (.st (.gc (.call (.cons (.gc (.sli .v (.some .int) .none)) .nil))))
  (.cons (.ite (.orN (.cmp .v .non) (.or2 (.cmp .v .non) (.cmp (.bcall (.cons .v .nil)) (.bcall (.cons .v .nil))))) (.cons (.ret .non)
  .nil) .nil)
  (.cons (.ret (.bin (.tup (.cons (.idx .v .int) .nil)) (.bcall (.cons .v .nil))))
  .nil)))))
abbrev s_law_written:Stmt:=top 36
theorem qvr:FnScope ["_law_fact_here","_law_steps_here"] ["_law_fact_here"] (qzq s_law_written):=⟨rfl,rfl,rfl,by decide +kernel,rfl,by decide +kernel,by decide +kernel⟩
theorem qv0:CkSs ⟨["_law_fact_here","_law_steps_here"],qzq s_law_written,names,glo⟩ qqx (qzv s_law_written):=
  (.cons (.ite (.cmp (.idx .v .int) .str) (.cons (.ret (.join .str (.gc (.bin (.gc (.lst (.cons (.idx .v .int) .nil))) (.gc (.comp (N:=["_law_thing"]) (.seq (.gc (.sli .v (.some .int) .none))) (.var rfl (.inl rfl)) (.bcall (.cons .v .nil)))))) (fun _=>rfl) rfl))
  .nil) .nil)
  (.cons (.st (.join .str (.gc (.comp (N:=["_law_step"]) (.seq (.idx .v .int)) (.var rfl (.inl rfl)) (.bcall (.cons .v .nil)))) (fun _=>rfl) rfl))
  (.cons (.ite (.cmp (.bcall (.cons (.idx .v .int) .nil)) .int) (.cons (.st .str)
  .nil) .nil)
  (.cons (.ret (.join .str (.gc (.bin (.gc (.lst (.cons .str (.cons .v .nil)))) (.gc (.comp (N:=["_law_cell"]) (.seq (.idx .v .int)) (.var rfl (.inl rfl)) (.bin (.bin (.bcall (.cons (.idx .v .int) .nil)) .str) (.bcall (.cons (.idx .v .int) .nil))))))) (fun _=>rfl) rfl))
  .nil))))
abbrev s_law_bent:Stmt:=top 37
theorem qbz:FnScope ["_law_script","_law_k","_law_j","_law_text","_law_at","_law_alphabet","_law_sign","_law_way"] ["_law_script","_law_k","_law_j","_law_text"] (qzq s_law_bent):=⟨rfl,rfl,rfl,by decide +kernel,rfl,by decide +kernel,by decide +kernel⟩
theorem qbp:CkSs ⟨["_law_script","_law_k","_law_j","_law_text","_law_at","_law_alphabet","_law_sign","_law_way"],qzq s_law_bent,names,glo⟩ qx3 (qzv s_law_bent):=
  (.cons (.st (.gc (.call (.cons .v (.cons .v (.cons .v (.cons (.bin (.bcall (.cons .v .nil)) .int) .nil)))))))
  (.cons (.st .str)
  (.cons (.st (.idx .v (.gc (.call (.cons .v (.cons .v (.cons (.bin .v .int) (.cons (.bcall (.cons .v .nil)) .nil))))))))
  (.cons (.st (.gc (.call (.cons .v (.cons .v (.cons (.bin .v .int) (.cons .int .nil)))))))
  (.cons (.ite (.cmp .v .int) (.cons (.ret (.bin (.bin (.gc (.sli .v .none (.some .v))) .v) (.gc (.sli .v (.some .v) .none))))
  .nil) .nil)
  (.cons (.ite (.cmp .v .int) (.cons (.ret (.bin (.gc (.sli .v .none (.some .v))) (.gc (.sli .v (.some (.bin .v .int)) .none))))
  .nil) .nil)
  (.cons (.ite (.cmp .v .int) (.cons (.ret (.bin (.bin (.gc (.sli .v .none (.some .v))) .v) (.gc (.sli .v (.some (.bin .v .int)) .none))))
  .nil) .nil)
  (.cons (.ite (.cmp .v .int) (.cons (.ret (.sli .v .none (.some .v)))
  .nil) .nil)
  (.cons (.ite (.cmp .v .int) (.cons (.ret (.sli .v (.some .v) .none))
  .nil) .nil)
  (.cons (.ret (.bin .v (.idx (.gc (.lst (.cons .str (.cons .str (.cons .str (.cons .str (.cons .str .nil))))))) (.gc (.call (.cons .v (.cons .v (.cons (.bin .v .int) (.cons .int .nil)))))))))
  .nil))))))))))
abbrev s_law_told:Stmt:=top 38
theorem qa1:FnScope ["_law_text","_law_told_here"] ["_law_text"] (qzq s_law_told):=⟨rfl,rfl,rfl,by decide +kernel,rfl,by decide +kernel,by decide +kernel⟩
abbrev s_law:Stmt:=top 39
theorem qiv:FnScope ["_law_script","_law_fact_here","_law_text","_law_odd","_law_k","_law_due","_law_told_here"] ["_law_script"] (qzq s_law):=⟨rfl,rfl,rfl,by decide +kernel,rfl,by decide +kernel,by decide +kernel⟩
theorem qiu:CkSs ⟨["_law_script","_law_fact_here","_law_text","_law_odd","_law_k","_law_due","_law_told_here"],qzq s_law,names,glo⟩ qh7 (qzv s_law):=
  (.cons (.st (.gc (.call (.cons .v (.cons .int (.cons (.gc (.call (.cons .v (.cons .int .nil)))) .nil))))))
  (.cons (.st (.gc (.call (.cons .v .nil))))
  (.cons (.st (.gc (.lst (.cons .str (.cons .str (.cons .str (.cons .str (.cons .str (.cons .str (.cons .str (.cons .str (.cons .str .nil))))))))))))
  (.cons (.st (.gc (.bin .v (.gc (.lst (.cons .str (.cons .str (.cons .str .nil))))))))
  (.cons (.st (.gc (.bin .v (.gc (.lst (.cons .str (.cons .str (.cons .str (.cons .str (.cons .str (.cons .str (.cons .str (.cons .str (.cons .str .nil))))))))))))))
  (.cons (.ite (.cmp (.gc (.call (.cons .v (.cons .int (.cons .int (.cons .int .nil)))))) .int) (.cons (.st (.idx .v (.gc (.call (.cons .v (.cons .int (.cons .int (.cons (.bcall (.cons .v .nil)) .nil))))))))
  .nil) .nil)
  (.cons (.forr (.var rfl (.inl rfl)) (.rng1 rfl (.gc (.call (.cons .v (.cons .int (.cons .int (.cons .int .nil))))))) (fun _ _=>rfl) (.cons (.st (.gc (.call (.cons .v (.cons (.bin .int .v) (.cons .int (.cons .v .nil)))))))
  .nil))
  (.cons (.st (.gc (.call (.cons (.gc (.split .v .str (fun _=>rfl) rfl)) .nil))))
  (.cons (.st (.gc (.call (.cons .v .nil))))
  (.cons (.ite (.cmp .v .non) (.cons (.ret (.cmp .v .non))
  .nil) .nil)
  (.cons (.ret (.call (.cons .v (.cons .v .nil))))
  .nil)))))))))))
theorem ar0{P:List Value→Prop}(h:P []):∀ us:List Value,us.length=0→P us:=fun us e=>by
 cases us with
 |nil=>exact h
 |cons a r=>cases e
theorem arS{n:Nat}{P:List Value→Prop}(h:∀ a,∀ us:List Value,us.length=n→P (a::us)):∀ us:List Value,us.length=n+1→P us:=fun us e=>by
 cases us with
 |nil=>cases e
 |cons a r=>exact h a r (Nat.succ.inj e)
theorem ar1{P:List Value→Prop}(h:∀ a,P [a]):∀ us:List Value,us.length=1→P us:=arS fun a=>ar0 (P:=fun r=>P (a::r)) (h a)
theorem ar2{P:List Value→Prop}(h:∀ a b,P [a,b]):∀ us:List Value,us.length=2→P us:=arS fun a=>ar1 (P:=fun r=>P (a::r)) (h a)
theorem ar3{P:List Value→Prop}(h:∀ a b c,P [a,b,c]):∀ us:List Value,us.length=3→P us:=arS fun a=>ar2 (P:=fun r=>P (a::r)) (h a)
theorem ar4{P:List Value→Prop}(h:∀ a b c d,P [a,b,c,d]):∀ us:List Value,us.length=4→P us:=arS fun a=>ar3 (P:=fun r=>P (a::r)) (h a)
theorem ar5{P:List Value→Prop}(h:∀ a b c d e,P [a,b,c,d,e]):∀ us:List Value,us.length=5→P us:=arS fun a=>ar4 (P:=fun r=>P (a::r)) (h a)
theorem tb{P:Nat→Str→Prop}{n:Nat}{x:Str}{xs:List Str}(h:P n x)(t:∀ f y,xs[f]?=some y→P (n+1+f) y):∀ f y,(x::xs)[f]?=some y→P (n+f) y:=fun f y e=>by
 cases f with
 |zero=>cases e; exact h
 |succ f=>have:=t f y e; rwa [Nat.add_assoc,Nat.add_comm 1 f]at this
theorem tn{P:Nat→Str→Prop}{n:Nat}:∀ f y,([]:List Str)[f]?=some y→P (n+f) y:=fun f y e=>by cases e
theorem all_mk{l0:PySem.W.OpenLaw}{w:World}{K:Qqq}{h:Heap}{mg:Str→Option Value}{fa f0 f1 f2 f3 f4 f5 f6 f7 f8 f9 f10 f11 f12 f13 f14 f15 f16 f17 f18 f19 f20 f21 f22 f23 f24 f25 f26 f27 f28 f29:Addr}{d0 d1 d2 d3 d4 d5 d6 d7 d8 d9 d10 d11 d12 d13 d14 d15 d16 d17 d18 d19 d20 d21 d22 d23 d24 d25 d26 d27 d28 d29:FuncData}{gt0 gt1 gt2 gt3 gt4 gt5 gt6 gt7 gt8 gt9 gt10 gt11 gt12 gt13 gt14 gt15 gt16 gt17 gt18 gt19 gt20 gt21 gt22 gt23 gt24 gt25 gt26 gt27 gt28 gt29 gt30 gt31 gt32 gt33 gt34 gt35:Tok}
  {gA0:Addr}{gN0:Nat}
  {ga0 ga1 ga2 ga3 ga4 ga5 ga6 ga7:Addr}
  (X:K.In h) (G:h.Ns mainGlobals mg) (hfa:mg "law" = some (.ref fa))
  (h0:FnK K "all_figures" s_all_figures f0 d0)
  (h1:FnK K "number" s_number f1 d1)
  (h2:FnK K "read_numbers" s_read_numbers f2 d2)
  (h3:FnK K "read_steps" s_read_steps f3 d3)
  (h4:FnK K "read_cell" s_read_cell f4 d4)
  (h5:FnK K "read_vein" s_read_vein f5 d5)
  (h6:FnK K "read_fact" s_read_fact f6 d6)
  (h7:FnK K "_law_draw" s_law_draw f7 d7)
  (h8:FnK K "_law_same" s_law_same f8 d8)
  (h9:FnK K "_law_size" s_law_size f9 d9)
  (h10:FnK K "_law_rect" s_law_rect f10 d10)
  (h11:FnK K "_law_steps" s_law_steps f11 d11)
  (h12:FnK K "_law_outs" s_law_outs f12 d12)
  (h13:FnK K "_law_who" s_law_who f13 d13)
  (h14:FnK K "_law_pick" s_law_pick f14 d14)
  (h15:FnK K "_law_vein" s_law_vein f15 d15)
  (h16:FnK K "_law_claim_fact" s_law_claim_fact f16 d16)
  (h17:FnK K "_law_fact" s_law_fact f17 d17)
  (h18:FnK K "_law_dig" s_law_dig f18 d18)
  (h19:FnK K "_law_pay" s_law_pay f19 d19)
  (h20:FnK K "_law_bounds" s_law_bounds f20 d20)
  (h21:FnK K "_law_some_fact" s_law_some_fact f21 d21)
  (h22:FnK K "_law_number" s_law_number f22 d22)
  (h23:FnK K "_law_numbers" s_law_numbers f23 d23)
  (h24:FnK K "_law_read_vein" s_law_read_vein f24 d24)
  (h25:FnK K "_law_read" s_law_read f25 d25)
  (h26:FnK K "_law_written" s_law_written f26 d26)
  (h27:FnK K "_law_bent" s_law_bent f27 d27)
  (h28:FnK K "_law_told" s_law_told f28 d28)
  (h29:FnK K "law" s_law f29 d29)
  (gl0:Qqp K mainGlobals "FIGURES" = some (some (.str "0123456789" gt0)))
  (gl1:Qqp K mainGlobals "NO_STEPS" = some (some (.str "-" gt1)))
  (gl2:Qqp K mainGlobals "ASKS" = some (some (.ref gA0)))
  (gO0:K.lookup gA0=some { cls:=.type "dict",data:=.dict #[⟨PyData.keyHash w.params "join",.str "join" gt2,(.ref ga0)⟩,⟨PyData.keyHash w.params "stake",.str "stake" gt6,(.ref ga1)⟩,⟨PyData.keyHash w.params "work",.str "work" gt12,(.ref ga2)⟩,⟨PyData.keyHash w.params "sell",.str "sell" gt14,(.ref ga3)⟩,⟨PyData.keyHash w.params "part",.str "part" gt17,(.ref ga4)⟩,⟨PyData.keyHash w.params "give",.str "give" gt22,(.ref ga5)⟩,⟨PyData.keyHash w.params "dig",.str "dig" gt24,(.ref ga6)⟩,⟨PyData.keyHash w.params "pay",.str "pay" gt32,(.ref ga7)⟩] gN0 })
  (go0:TupK K ga0 #[(.str "day" gt3),(.str "day" gt4),(.str "below" gt5)])
  (go1:TupK K ga1 #[(.str "folk" gt7),(.str "x" gt8),(.str "y" gt9),(.str "x" gt10),(.str "y" gt11)])
  (go2:TupK K ga2 #[(.str "day" gt13)])
  (go3:TupK K ga3 #[(.str "day" gt15),(.str "folk" gt16)])
  (go4:TupK K ga4 #[(.str "day" gt18),(.str "side" gt19),(.str "line" gt20),(.str "folk" gt21)])
  (go5:TupK K ga5 #[(.str "day" gt23)])
  (go6:TupK K ga6 #[(.str "folk" gt25),(.str "x" gt26),(.str "y" gt27),(.str "x" gt28),(.str "y" gt29),(.str "floor" gt30),(.str "coins" gt31)])
  (go7:TupK K ga7 #[(.str "folk" gt33),(.str "folk" gt34),(.str "coins" gt35)])
  (gm0:(gA0==sysModules)=false)
  {bC:Addr}(bad0:Qqp K mainGlobals "BadText" = some (some (.ref bC))) (bad1:Qjx K bC bmV "ValueError.__new__" = true)
  {fC1 fC2:Value}(far1:Qqp K mainGlobals "BadFact" = some (some fC1)) (far2:Qqp K mainGlobals "BadNumber" = some (some fC2)) (far0:PySem.W.exmAny K (.ref bC) [fC1,fC2]=some false)
  (z:NoB K)
  : ∃ fd:FuncData,(∀ (s:Shared) (v:Value),BindsTo s fd ⟨[v],[]⟩ [("_law_script",v)])∧∀ base:Heap,K.In base→base.Ns mainGlobals mg→FnOk l0.prog w K mg base CX0 20 fa fd ["_law_script"] (qgs K):=by
 obtain⟨go0⟩:=go0
 obtain⟨go1⟩:=go1
 obtain⟨go2⟩:=go2
 obtain⟨go3⟩:=go3
 obtain⟨go4⟩:=go4
 obtain⟨go5⟩:=go5
 obtain⟨go6⟩:=go6
 obtain⟨go7⟩:=go7
 have Mg:Mo K mg glo w.params:=z.mo X G (fun x ks ds hm=>by
   simp only[glo,Qqw,Qqo,or_false,Prod.mk.injEq]at hm
   rcases hm with⟨rfl,rfl,rfl⟩
   ·exact⟨_,Qze X G gl2,⟨[(.ref ga0),(.ref ga1),(.ref ga2),(.ref ga3),(.ref ga4),(.ref ga5),(.ref ga6),(.ref ga7)],[(.ref ga0),(.ref ga1),(.ref ga2),(.ref ga3),(.ref ga4),(.ref ga5),(.ref ga6),(.ref ga7)],#[⟨PyData.keyHash w.params "join",.str "join" gt2,(.ref ga0)⟩,⟨PyData.keyHash w.params "stake",.str "stake" gt6,(.ref ga1)⟩,⟨PyData.keyHash w.params "work",.str "work" gt12,(.ref ga2)⟩,⟨PyData.keyHash w.params "sell",.str "sell" gt14,(.ref ga3)⟩,⟨PyData.keyHash w.params "part",.str "part" gt17,(.ref ga4)⟩,⟨PyData.keyHash w.params "give",.str "give" gt22,(.ref ga5)⟩,⟨PyData.keyHash w.params "dig",.str "dig" gt24,(.ref ga6)⟩,⟨PyData.keyHash w.params "pay",.str "pay" gt32,(.ref ga7)⟩],gN0,gO0,(.cons (.cons (.cons (.cons (.cons (.cons (.cons (.cons .nil)))))))),(.cons (show RelV (.ref ga0) (.ref ga0) from rfl) (.cons (show RelV (.ref ga1) (.ref ga1) from rfl) (.cons (show RelV (.ref ga2) (.ref ga2) from rfl) (.cons (show RelV (.ref ga3) (.ref ga3) from rfl) (.cons (show RelV (.ref ga4) (.ref ga4) from rfl) (.cons (show RelV (.ref ga5) (.ref ga5) from rfl) (.cons (show RelV (.ref ga6) (.ref ga6) from rfl) (.cons (show RelV (.ref ga7) (.ref ga7) from rfl) .nil)))))))),fun m H=>(qzw (qxw (xs:=[(.str "day"),(.str "day"),(.str "below")]) (.inr ⟨_,_,_,go0,rfl,rfl,(by show 3≤sizeLine; decide),(.cons ⟨_,rfl⟩ (.cons ⟨_,rfl⟩ (.cons ⟨_,rfl⟩ .nil)))⟩) (qzw (mkStr _) (qzw (mkStr _) (qzw (mkStr _) qz7)))) (qzw (qxw (xs:=[(.str "folk"),(.str "x"),(.str "y"),(.str "x"),(.str "y")]) (.inr ⟨_,_,_,go1,rfl,rfl,(by show 5≤sizeLine; decide),(.cons ⟨_,rfl⟩ (.cons ⟨_,rfl⟩ (.cons ⟨_,rfl⟩ (.cons ⟨_,rfl⟩ (.cons ⟨_,rfl⟩ .nil)))))⟩) (qzw (mkStr _) (qzw (mkStr _) (qzw (mkStr _) (qzw (mkStr _) (qzw (mkStr _) qz7)))))) (qzw (qxw (xs:=[(.str "day")]) (.inr ⟨_,_,_,go2,rfl,rfl,(by show 1≤sizeLine; decide),(.cons ⟨_,rfl⟩ .nil)⟩) (qzw (mkStr _) qz7)) (qzw (qxw (xs:=[(.str "day"),(.str "folk")]) (.inr ⟨_,_,_,go3,rfl,rfl,(by show 2≤sizeLine; decide),(.cons ⟨_,rfl⟩ (.cons ⟨_,rfl⟩ .nil))⟩) (qzw (mkStr _) (qzw (mkStr _) qz7))) (qzw (qxw (xs:=[(.str "day"),(.str "side"),(.str "line"),(.str "folk")]) (.inr ⟨_,_,_,go4,rfl,rfl,(by show 4≤sizeLine; decide),(.cons ⟨_,rfl⟩ (.cons ⟨_,rfl⟩ (.cons ⟨_,rfl⟩ (.cons ⟨_,rfl⟩ .nil))))⟩) (qzw (mkStr _) (qzw (mkStr _) (qzw (mkStr _) (qzw (mkStr _) qz7))))) (qzw (qxw (xs:=[(.str "day")]) (.inr ⟨_,_,_,go5,rfl,rfl,(by show 1≤sizeLine; decide),(.cons ⟨_,rfl⟩ .nil)⟩) (qzw (mkStr _) qz7)) (qzw (qxw (xs:=[(.str "folk"),(.str "x"),(.str "y"),(.str "x"),(.str "y"),(.str "floor"),(.str "coins")]) (.inr ⟨_,_,_,go6,rfl,rfl,(by show 7≤sizeLine; decide),(.cons ⟨_,rfl⟩ (.cons ⟨_,rfl⟩ (.cons ⟨_,rfl⟩ (.cons ⟨_,rfl⟩ (.cons ⟨_,rfl⟩ (.cons ⟨_,rfl⟩ (.cons ⟨_,rfl⟩ .nil)))))))⟩) (qzw (mkStr _) (qzw (mkStr _) (qzw (mkStr _) (qzw (mkStr _) (qzw (mkStr _) (qzw (mkStr _) (qzw (mkStr _) qz7)))))))) (qzw (qxw (xs:=[(.str "folk"),(.str "folk"),(.str "coins")]) (.inr ⟨_,_,_,go7,rfl,rfl,(by show 3≤sizeLine; decide),(.cons ⟨_,rfl⟩ (.cons ⟨_,rfl⟩ (.cons ⟨_,rfl⟩ .nil)))⟩) (qzw (mkStr _) (qzw (mkStr _) (qzw (mkStr _) qz7)))) qz7))))))))⟩,by decide +kernel,gm0⟩
  ) (fun x d hm=>by
   simp only[glo,Qqw,Qqo,or_false,Prod.mk.injEq]at hm
   rcases hm with⟨rfl,rfl⟩|⟨rfl,rfl⟩
   ·exact⟨_,(.str "0123456789"),Qze X G gl0,⟨_,rfl⟩,fun m H=>(mkStr _)⟩
   ·exact⟨_,(.str "-"),Qze X G gl1,⟨_,rfl⟩,fun m H=>(mkStr _)⟩
  )
 have T:∀ f x,names[f]?=some x→0+f≠28→FText K mg fns names glo (0+f) x:=
  tb (P:=fun f x=>f≠28→FText K mg fns names glo f x) (fun _=>h0.text X G qju qvt qv2 rfl rfl rfl fun _ _ _ _ _ _=>ar1 fun _=>rfl) (
  tb (P:=fun f x=>f≠28→FText K mg fns names glo f x) (fun _=>h1.text X G qcm qew qf7 rfl rfl rfl fun _ _ _ _ _ _=>ar1 fun _=>rfl) (
  tb (P:=fun f x=>f≠28→FText K mg fns names glo f x) (fun _=>h2.text X G qx9 qk7 qvm rfl rfl rfl fun _ _ _ _ _ _=>ar1 fun _=>rfl) (
  tb (P:=fun f x=>f≠28→FText K mg fns names glo f x) (fun _=>h3.text X G qqg qwm qw7 rfl rfl rfl fun _ _ _ _ _ _=>ar1 fun _=>rfl) (
  tb (P:=fun f x=>f≠28→FText K mg fns names glo f x) (fun _=>h4.text X G qq4 qye qaa rfl rfl rfl fun _ _ _ _ _ _=>ar1 fun _=>rfl) (
  tb (P:=fun f x=>f≠28→FText K mg fns names glo f x) (fun _=>h5.text X G qq2 qyc qaw rfl rfl rfl fun _ _ _ _ _ _=>ar1 fun _=>rfl) (
  tb (P:=fun f x=>f≠28→FText K mg fns names glo f x) (fun _=>h6.text X G qq3 qyd qay rfl rfl rfl fun _ _ _ _ _ _=>ar1 fun _=>rfl) (
  tb (P:=fun f x=>f≠28→FText K mg fns names glo f x) (fun _=>h7.text X G qwv qa9 qbo rfl rfl rfl fun _ _ _ _ _ _=>ar4 fun _ _ _ _=>rfl) (
  tb (P:=fun f x=>f≠28→FText K mg fns names glo f x) (fun _=>h8.text X G qwk qa3 qbg rfl rfl rfl fun _ _ _ _ _ _=>ar2 fun _ _=>rfl) (
  tb (P:=fun f x=>f≠28→FText K mg fns names glo f x) (fun _=>h9.text X G qkj qa2 qbf rfl rfl rfl fun _ _ _ _ _ _=>ar2 fun _ _=>rfl) (
  tb (P:=fun f x=>f≠28→FText K mg fns names glo f x) (fun _=>h10.text X G qkk qa4 qbh rfl rfl rfl fun _ _ _ _ _ _=>ar5 fun _ _ _ _ _=>rfl) (
  tb (P:=fun f x=>f≠28→FText K mg fns names glo f x) (fun _=>h11.text X G qjy qyf qab rfl rfl rfl fun _ _ _ _ _ _=>ar4 fun _ _ _ _=>rfl) (
  tb (P:=fun f x=>f≠28→FText K mg fns names glo f x) (fun _=>h12.text X G qkw qa7 qbm rfl rfl rfl fun _ _ _ _ _ _=>ar4 fun _ _ _ _=>rfl) (
  tb (P:=fun f x=>f≠28→FText K mg fns names glo f x) (fun _=>h13.text X G qvc qc9 qdg rfl rfl rfl fun _ _ _ _ _ _=>ar3 fun _ _ _=>rfl) (
  tb (P:=fun f x=>f≠28→FText K mg fns names glo f x) (fun _=>h14.text X G qxr qa6 qbl rfl rfl rfl fun _ _ _ _ _ _=>ar4 fun _ _ _ _=>rfl) (
  tb (P:=fun f x=>f≠28→FText K mg fns names glo f x) (fun _=>h15.text X G qkq qa0 qbe rfl rfl rfl fun _ _ _ _ _ _=>ar3 fun _ _ _=>rfl) (
  tb (P:=fun f x=>f≠28→FText K mg fns names glo f x) (fun _=>h16.text X G qz8 qj7 qkc rfl rfl rfl fun _ _ _ _ _ _=>ar5 fun _ _ _ _ _=>rfl) (
  tb (P:=fun f x=>f≠28→FText K mg fns names glo f x) (fun _=>h17.text X G qky qa8 qbn rfl rfl rfl fun _ _ _ _ _ _=>ar4 fun _ _ _ _=>rfl) (
  tb (P:=fun f x=>f≠28→FText K mg fns names glo f x) (fun _=>h18.text X G qve qdq qdi rfl rfl rfl fun _ _ _ _ _ _=>ar3 fun _ _ _=>rfl) (
  tb (P:=fun f x=>f≠28→FText K mg fns names glo f x) (fun _=>h19.text X G qvd qdz qdh rfl rfl rfl fun _ _ _ _ _ _=>ar2 fun _ _=>rfl) (
  tb (P:=fun f x=>f≠28→FText K mg fns names glo f x) (fun _=>h20.text X G qxd qwo qw9 rfl rfl rfl fun _ _ _ _ _ _=>ar2 fun _ _=>rfl) (
  tb (P:=fun f x=>f≠28→FText K mg fns names glo f x) (fun _=>h21.text X G qqy qkl qko rfl rfl rfl fun _ _ _ _ _ _=>ar3 fun _ _ _=>rfl) (
  tb (P:=fun f x=>f≠28→FText K mg fns names glo f x) (fun _=>h22.text X G qxc qwn qw8 rfl rfl rfl fun _ _ _ _ _ _=>ar1 fun _=>rfl) (
  tb (P:=fun f x=>f≠28→FText K mg fns names glo f x) (fun _=>h23.text X G qq6 qvs qv1 rfl rfl rfl fun _ _ _ _ _ _=>ar1 fun _=>rfl) (
  tb (P:=fun f x=>f≠28→FText K mg fns names glo f x) (fun _=>h24.text X G qqa qkm qkp rfl rfl rfl fun _ _ _ _ _ _=>ar1 fun _=>rfl) (
  tb (P:=fun f x=>f≠28→FText K mg fns names glo f x) (fun _=>h25.text X G qkv qa5 qbi rfl rfl rfl fun _ _ _ _ _ _=>ar1 fun _=>rfl) (
  tb (P:=fun f x=>f≠28→FText K mg fns names glo f x) (fun _=>h26.text X G qq5 qvr qv0 rfl rfl rfl fun _ _ _ _ _ _=>ar1 fun _=>rfl) (
  tb (P:=fun f x=>f≠28→FText K mg fns names glo f x) (fun _=>h27.text X G qka qbz qbp rfl rfl rfl fun _ _ _ _ _ _=>ar4 fun _ _ _ _=>rfl) (
  tb (P:=fun f x=>f≠28→FText K mg fns names glo f x) (fun z=>absurd rfl z) (
  tb (P:=fun f x=>f≠28→FText K mg fns names glo f x) (fun _=>h29.text X G qhm qiv qiu rfl rfl rfl fun _ _ _ _ _ _=>ar1 fun _=>rfl) (
  (tn (P:=fun f x=>f≠28→FText K mg fns names glo f x))))))))))))))))))))))))))))))))
 have T:∀ f x,names[f]?=some x→f≠28→FText K mg fns names glo f x:=fun f x h=>Nat.zero_add f▸T f x h
 obtain⟨a,l,c,k⟩:=h29
 have e:=hfa.symm.trans (Qze X G a)
 cases e
 have F:=qy8 (st:=s_law) l c k
 have B:Bad K mg bC:=bad_mk (Qze X G bad0) bad1
 have FA:Far K mg bC "BadFact" "BadNumber" fC1 fC2:=⟨Qze X G far1,Qze X G far2,far0,rfl,rfl⟩
 obtain⟨t1,t2,t3,t4⟩:=h28.fn (ps:=["_law_text"]) X G fun _ _ _ _ _ _=>ar1 fun _=>rfl
 have T0:∀ base:Heap,∀ x,names[28]?=some x→∃ fa fd ps,mg x=some (.ref fa)∧Qzw K (.ref fa)=true∧Binds K fd ps []∧∀ n,FTab l0.prog w K mg base fns names n→XTab l0.prog w K mg base bC fns okF names n→FnOk l0.prog w K mg base CX0 (n+1) fa fd ps (spN K fns (n+1) 28):=fun base x hx=>by
  cases hx
  exact⟨_,_,["_law_text"],t1,t2,t3,fun n ft xt=>MS.told_ok (g:=6) (x:="_law_text") (y:="_law_told_here") (rp:="read_fact") ft xt Mg B t4 qa1 ⟨_,_,_,_,_,_,_,_,_,_,_,_,_,_,_,_,_,_,_,_,_,_,_,_,_,_,rfl⟩ rfl rfl rfl rfl rfl FA rfl rfl rfl rfl rfl rfl rfl (K08.told_eq n)⟩
 refine⟨_,fun s v=>.of_eq rfl,fun base _ _=>(qim (n:=19) (f:=29) (F:=qhm) (qmo T rfl Mg B (T0 base) _).1 Mg rfl F qiv qiu rfl rfl).imp (law_sp K08.law_ok)⟩
end K08
namespace K08
open PySem L2
noncomputable def c0:List Str:=["_law_read","_law_words","vein","_law_read_vein","_law_bounds_here","_law_bounds","_law_numbers_here","_law_numbers","len","tuple","_law_written","_law_fact_here"]
noncomputable def c1:List Str:=[" ","join","str","_law_thing",".0","_law_steps_here","","_law_step","-","_law_cell",",","fast"]
noncomputable def c2:List Str:=["_law_bent","_law_script","_law_k","_law_j","_law_text","_law_at","_law_draw","_law_alphabet"," 0123456789,-+._~aehijknoprstuvwxyz\nA","_law_sign","_law_way","\n"]
noncomputable def c3:List Str:=[" 0","0",",1","_law_told","_law_told_here","read_fact","BadFact","BadNumber","wrong","BadText","DiprightError","law"]
noncomputable def c4:List Str:=["_law_some_fact","_law_size","_law_odd","vein - ","vein 0 1","vein 0","vein - 1,2,3","vein -- 1,2","vein 00 1,","work","Work 3","vein  1,2"]
noncomputable def c5:List Str:=["works 3","work 03","work 3 "," work 3","work  3","work 3 4","give -3","pay 1 2","vein 5 01,2","range","_law_due","split"]
noncomputable def c6:List Str:=["_law_same","_law_size_here","_law_word","_law_day","_law_folk","_law_coins","_law_x","_law_y","_law_rows","stake","sell","part"]
noncomputable def c7:List Str:=["give","dig","pay","get","_law_dig","_law_pay","_law_fact","_law_number","_law_many","0123456789","find","_law_found"]
noncomputable def c8:List Str:=["any","_law_one","append","_law_outs_here","_law_pair","_law_vein","_law_steps","_law_outs","_law_claim_fact","_law_names","_law_claim","_law_pick"]
noncomputable def c9:List Str:=["_law_who_here","_law_who","_law_side","_law_line","min","_law_plan","_law_veins","_law_floor","_law_rect","_law_mouth","_law_spot","_law_worth"]
noncomputable def c10:List Str:=["_law_giver","_law_taker","_law_wide","_law_tall","sorted","_law_deep","_law_count","_law_first","_law_stride","_law_place","text","texts"]
noncomputable def c11:List Str:=["word","read_vein","ASKS","not a word of a fact","numbers","read_numbers","numbers more or fewer than the word asks","__name__","law_dipright_k08_facts_read_or_refused","_law_turn","_law_rest","_law_two"]
noncomputable def c12:List Str:=["isinstance","list","_law_like","all","int","bool","_law_sizes","number","all_figures","not a whole number","read_steps","NO_STEPS"]
noncomputable def c13:List Str:=["steps that are no figures","figure","read_cell","not a cell","a vein without a cell","day","below","folk","x","y","side","line"]
noncomputable def c14:List Str:=["floor","coins","dipright.words","FIGURES","sign","dipright.errors","ValueError","/claim/cut.py","__doc__","__package__","__loader__","__spec__"]
noncomputable def c15:List Str:=["__annotations__","__builtins__","__file__","__cached__","__module__","__firstlineno__","__static_attributes__","__weakref__"]
noncomputable def Al:List (List Str):=[c0,c1,c2,c3,c4,c5,c6,c7,c8,c9,c10,c11,c12,c13,c14,c15]
noncomputable def Af(i j:Nat):Str:=(Al.getD i []).getD j ⟨#[]⟩
noncomputable def b0:String:="dict"
noncomputable def b1:String:="__main__.__loader__#opaque"
noncomputable def b2:String:="tuple"
noncomputable def b3:String:="ValueError"
noncomputable def b4:String:="ValueError.__new__"
noncomputable def b5:String:="type"
noncomputable def b6:String:="Exception"
noncomputable def b7:String:="BaseException"
noncomputable def b8:String:="object"
noncomputable def b9:String:="ExceptionGroup.__weakref__"
noncomputable def b10:String:="getset_descriptor"
noncomputable def b11:String:="code"
noncomputable def b12:String:="function"
lay_quick Af b0 b1 b2 b3 b4 b5 b6 b7 b8 b9 b10 b11 b12
noncomputable def G(a:Nat→Nat→Str):Program:=by
 refine'(?f:(x:Program)→(Str.ofString "_law_read" = a 0 0→Str.ofString "_law_words" = a 0 1→Str.ofString "vein" = a 0 2→Str.ofString "_law_read_vein" = a 0 3→Str.ofString "_law_bounds_here" = a 0 4→Str.ofString "_law_bounds" = a 0 5→Str.ofString "_law_numbers_here" = a 0 6→Str.ofString "_law_numbers" = a 0 7→Str.ofString "len" = a 0 8→Str.ofString "tuple" = a 0 9→Str.ofString "_law_written" = a 0 10→Str.ofString "_law_fact_here" = a 0 11→Str.ofString " " = a 1 0→Str.ofString "join" = a 1 1→Str.ofString "str" = a 1 2→Str.ofString "_law_thing" = a 1 3→Str.ofString ".0" = a 1 4→Str.ofString "_law_steps_here" = a 1 5→Str.ofString "" = a 1 6→Str.ofString "_law_step" = a 1 7→Str.ofString "-" = a 1 8→Str.ofString "_law_cell" = a 1 9→Str.ofString "," = a 1 10→Str.ofString "fast" = a 1 11→Str.ofString "_law_bent" = a 2 0→Str.ofString "_law_script" = a 2 1→Str.ofString "_law_k" = a 2 2→Str.ofString "_law_j" = a 2 3→Str.ofString "_law_text" = a 2 4→Str.ofString "_law_at" = a 2 5→Str.ofString "_law_draw" = a 2 6→Str.ofString "_law_alphabet" = a 2 7→Str.ofString " 0123456789,-+._~aehijknoprstuvwxyz\nA" = a 2 8→Str.ofString "_law_sign" = a 2 9→Str.ofString "_law_way" = a 2 10→Str.ofString "\n" = a 2 11→Str.ofString " 0" = a 3 0→Str.ofString "0" = a 3 1→Str.ofString ",1" = a 3 2→Str.ofString "_law_told" = a 3 3→Str.ofString "_law_told_here" = a 3 4→Str.ofString "read_fact" = a 3 5→Str.ofString "BadFact" = a 3 6→Str.ofString "BadNumber" = a 3 7→Str.ofString "wrong" = a 3 8→Str.ofString "BadText" = a 3 9→Str.ofString "DiprightError" = a 3 10→Str.ofString "law" = a 3 11→Str.ofString "_law_some_fact" = a 4 0→Str.ofString "_law_size" = a 4 1→Str.ofString "_law_odd" = a 4 2→Str.ofString "vein - " = a 4 3→Str.ofString "vein 0 1" = a 4 4→Str.ofString "vein 0" = a 4 5→Str.ofString "vein - 1,2,3" = a 4 6→Str.ofString "vein -- 1,2" = a 4 7→Str.ofString "vein 00 1," = a 4 8→Str.ofString "work" = a 4 9→Str.ofString "Work 3" = a 4 10→Str.ofString "vein  1,2" = a 4 11→Str.ofString "works 3" = a 5 0→Str.ofString "work 03" = a 5 1→Str.ofString "work 3 " = a 5 2→Str.ofString " work 3" = a 5 3→Str.ofString "work  3" = a 5 4→Str.ofString "work 3 4" = a 5 5→Str.ofString "give -3" = a 5 6→Str.ofString "pay 1 2" = a 5 7→Str.ofString "vein 5 01,2" = a 5 8→Str.ofString "range" = a 5 9→Str.ofString "_law_due" = a 5 10→Str.ofString "split" = a 5 11→Str.ofString "_law_same" = a 6 0→Str.ofString "_law_size_here" = a 6 1→Str.ofString "_law_word" = a 6 2→Str.ofString "_law_day" = a 6 3→Str.ofString "_law_folk" = a 6 4→Str.ofString "_law_coins" = a 6 5→Str.ofString "_law_x" = a 6 6→Str.ofString "_law_y" = a 6 7→Str.ofString "_law_rows" = a 6 8→Str.ofString "stake" = a 6 9→Str.ofString "sell" = a 6 10→Str.ofString "part" = a 6 11→Str.ofString "give" = a 7 0→Str.ofString "dig" = a 7 1→Str.ofString "pay" = a 7 2→Str.ofString "get" = a 7 3→Str.ofString "_law_dig" = a 7 4→Str.ofString "_law_pay" = a 7 5→Str.ofString "_law_fact" = a 7 6→Str.ofString "_law_number" = a 7 7→Str.ofString "_law_many" = a 7 8→Str.ofString "0123456789" = a 7 9→Str.ofString "find" = a 7 10→Str.ofString "_law_found" = a 7 11→Str.ofString "any" = a 8 0→Str.ofString "_law_one" = a 8 1→Str.ofString "append" = a 8 2→Str.ofString "_law_outs_here" = a 8 3→Str.ofString "_law_pair" = a 8 4→Str.ofString "_law_vein" = a 8 5→Str.ofString "_law_steps" = a 8 6→Str.ofString "_law_outs" = a 8 7→Str.ofString "_law_claim_fact" = a 8 8→Str.ofString "_law_names" = a 8 9→Str.ofString "_law_claim" = a 8 10→Str.ofString "_law_pick" = a 8 11→Str.ofString "_law_who_here" = a 9 0→Str.ofString "_law_who" = a 9 1→Str.ofString "_law_side" = a 9 2→Str.ofString "_law_line" = a 9 3→Str.ofString "min" = a 9 4→Str.ofString "_law_plan" = a 9 5→Str.ofString "_law_veins" = a 9 6→Str.ofString "_law_floor" = a 9 7→Str.ofString "_law_rect" = a 9 8→Str.ofString "_law_mouth" = a 9 9→Str.ofString "_law_spot" = a 9 10→Str.ofString "_law_worth" = a 9 11→Str.ofString "_law_giver" = a 10 0→Str.ofString "_law_taker" = a 10 1→Str.ofString "_law_wide" = a 10 2→Str.ofString "_law_tall" = a 10 3→Str.ofString "sorted" = a 10 4→Str.ofString "_law_deep" = a 10 5→Str.ofString "_law_count" = a 10 6→Str.ofString "_law_first" = a 10 7→Str.ofString "_law_stride" = a 10 8→Str.ofString "_law_place" = a 10 9→Str.ofString "text" = a 10 10→Str.ofString "texts" = a 10 11→Str.ofString "word" = a 11 0→Str.ofString "read_vein" = a 11 1→Str.ofString "ASKS" = a 11 2→Str.ofString "not a word of a fact" = a 11 3→Str.ofString "numbers" = a 11 4→Str.ofString "read_numbers" = a 11 5→Str.ofString "numbers more or fewer than the word asks" = a 11 6→Str.ofString "__name__" = a 11 7→Str.ofString "law_dipright_k08_facts_read_or_refused" = a 11 8→Str.ofString "_law_turn" = a 11 9→Str.ofString "_law_rest" = a 11 10→Str.ofString "_law_two" = a 11 11→Str.ofString "isinstance" = a 12 0→Str.ofString "list" = a 12 1→Str.ofString "_law_like" = a 12 2→Str.ofString "all" = a 12 3→Str.ofString "int" = a 12 4→Str.ofString "bool" = a 12 5→Str.ofString "_law_sizes" = a 12 6→Str.ofString "number" = a 12 7→Str.ofString "all_figures" = a 12 8→Str.ofString "not a whole number" = a 12 9→Str.ofString "read_steps" = a 12 10→Str.ofString "NO_STEPS" = a 12 11→Str.ofString "steps that are no figures" = a 13 0→Str.ofString "figure" = a 13 1→Str.ofString "read_cell" = a 13 2→Str.ofString "not a cell" = a 13 3→Str.ofString "a vein without a cell" = a 13 4→Str.ofString "day" = a 13 5→Str.ofString "below" = a 13 6→Str.ofString "folk" = a 13 7→Str.ofString "x" = a 13 8→Str.ofString "y" = a 13 9→Str.ofString "side" = a 13 10→Str.ofString "line" = a 13 11→Str.ofString "floor" = a 14 0→Str.ofString "coins" = a 14 1→Str.ofString "dipright.words" = a 14 2→Str.ofString "FIGURES" = a 14 3→Str.ofString "sign" = a 14 4→Str.ofString "dipright.errors" = a 14 5→Str.ofString "ValueError" = a 14 6→Str.ofString "/claim/cut.py" = a 14 7→PySem.Challenge.pw_dipright_k08_facts_read_or_refused=x)→Program) _ ?h
 (case f=>exact fun x _=>x)
 (case h=>intros; delta PySem.Challenge.pw_dipright_k08_facts_read_or_refused; conv=>lhs; simp only[*])
noncomputable abbrev fnD(x y:Str)(s:Stmt):=FuncData.mk x y (qq9 s) (.stmts (qzv s)) (qzq s)
noncomputable abbrev fq(x:Str)(s:Stmt)(m r:Value):=fnD x x s 3 [] .none .none .none m Option.none r .none 0
noncomputable abbrev kh:=PyData.keyHash
noncomputable abbrev de(P:Params)(x:Str)(k:Nat)(v:Value):=DictEntry.mk (kh P x) (.str x k) v
noncomputable abbrev oq(u:String)(x:Array Value):=Obj.mk (.type u) Option.none (.seq x) #[]
noncomputable abbrev cq(u:String)(f x:Str)(k l m:Nat)(i j:Int)(r:Nat)(o:Int)(s:Nat)(v w z:Value)(p:Int)(q:Nat):=Obj.mk (.type u) Option.none (.fields #[.str x k,.str x l,.str f m,.int i 0,.int j 0,.int 0 0,.int 0 0,.int 3 0,.ref r,.bool Bool.true,.int o 0,.ref s,.none,v,w,z,.int p 0,.int i 0,.str f q]) #[]
noncomputable def KG(tp:Nat→Stmt)(a:Nat→Nat→Str)(u0 u1 u2 u3 u4 u5 u6 u7 u8 u9 u10 u11 u12:String)(P:Params):Qqq:=(nat_lit 2,Obj.mk .none Option.none (.dict #[]) #[]) ::
(nat_lit 3,Obj.mk (.type u0) Option.none (.dict #[de P (a 11 7) 165 (.str (a 11 8) 353),de P (a 14 8) 166 .none,de P (a 14 9) 167 .none,de P (a 14 10) 168 (.builtin u1),de P (a 14 11) 169 .none,de P (a 15 0) 170 (.ref 6),de P (a 15 1) 171 (.ref 4),de P (a 15 2) 173 (.str (a 14 7) 172),de P (a 15 3) 174 .none,de P (a 3 10) 206 (.ref 24),de P (a 3 7) 222 (.ref 37),de P (a 3 6) 238 (.ref 49),de P (a 3 9) 254 (.ref 61),de P (a 11 2) 297 (.ref 64),de P (a 14 3) 301 (.str (a 7 9) 300),de P (a 12 11) 303 (.str (a 1 8) 302),de P (a 12 8) 309 (.ref 77),de P (a 12 7) 316 (.ref 84),de P (a 11 5) 322 (.ref 89),de P (a 12 10) 328 (.ref 94),de P (a 13 2) 336 (.ref 101),de P (a 11 1) 342 (.ref 106),de P (a 3 5) 352 (.ref 113),de P (a 2 6) 370 (.ref 120),de P (a 6 0) 376 (.ref 125),de P (a 4 1) 388 (.ref 132),de P (a 9 8) 401 (.ref 139),de P (a 8 6) 407 (.ref 144),de P (a 8 7) 423 (.ref 151),de P (a 9 1) 432 (.ref 158),de P (a 8 11) 442 (.ref 165),de P (a 8 5) 451 (.ref 172),de P (a 8 8) 466 (.ref 179),de P (a 7 6) 472 (.ref 184),de P (a 7 4) 484 (.ref 191),de P (a 7 5) 494 (.ref 198),de P (a 0 5) 508 (.ref 205),de P (a 4 0) 518 (.ref 212),de P (a 7 7) 528 (.ref 219),de P (a 0 7) 534 (.ref 224),de P (a 0 3) 540 (.ref 229),de P (a 0 0) 549 (.ref 236),de P (a 0 10) 555 (.ref 241),de P (a 2 0) 569 (.ref 248),de P (a 3 3) 577 (.ref 255),de P (a 3 11) 590 (.ref 262)] 46) #[]) ::
(nat_lit 15,oq u2 #[.type u3]) ::
(nat_lit 22,oq u2 #[]) ::
(nat_lit 23,Obj.mk (.type u0) Option.none (.dict #[de P (a 15 4) 196 (.str (a 14 5) 187),de P (a 15 5) 200 (.int 2 199),de P (a 15 6) 201 (.ref 22),de P (a 15 7) 203 (.ref 25),de P (a 14 8) 204 .none] 3) #[]) ::
(nat_lit 24,Obj.mk (.type u5) Option.none (.cls (ClassData.mk (a 3 10) [.type u3] [.ref 24,.type u3,.type u6,.type u7,.type u8] 23 (a 3 10) Bool.true [] [.ref 37,.ref 49,.ref 61] Bool.false Option.none Bool.false)) #[Option.some (.ref 15),Option.none,Option.some (.str (a 3 10) 189),Option.some (.str (a 3 10) 197),Option.some (.builtin u4),Option.some (.bool Bool.true)]) ::
(nat_lit 25,Obj.mk (.type u10) Option.none (.fields #[.str (a 15 7) 202,.ref 24,.builtin u9,.none]) #[]) ::
(nat_lit 28,oq u2 #[.ref 24]) ::
(nat_lit 35,oq u2 #[]) ::
(nat_lit 36,Obj.mk (.type u0) Option.none (.dict #[de P (a 15 4) 214 (.str (a 14 5) 187),de P (a 15 5) 218 (.int 4 217),de P (a 15 6) 219 (.ref 35),de P (a 14 8) 220 .none] 2) #[]) ::
(nat_lit 37,Obj.mk (.type u5) Option.none (.cls (ClassData.mk (a 3 7) [.ref 24] [.ref 37,.ref 24,.type u3,.type u6,.type u7,.type u8] 36 (a 3 7) Bool.true [] [] Bool.false Option.none Bool.false)) #[Option.some (.ref 28),Option.none,Option.some (.str (a 3 7) 207),Option.some (.str (a 3 7) 215),Option.some (.builtin u4),Option.some (.bool Bool.true)]) ::
(nat_lit 40,oq u2 #[.ref 24]) ::
(nat_lit 47,oq u2 #[]) ::
(nat_lit 48,Obj.mk (.type u0) Option.none (.dict #[de P (a 15 4) 230 (.str (a 14 5) 187),de P (a 15 5) 234 (.int 6 233),de P (a 15 6) 235 (.ref 47),de P (a 14 8) 236 .none] 2) #[]) ::
(nat_lit 49,Obj.mk (.type u5) Option.none (.cls (ClassData.mk (a 3 6) [.ref 24] [.ref 49,.ref 24,.type u3,.type u6,.type u7,.type u8] 48 (a 3 6) Bool.true [] [] Bool.false Option.none Bool.false)) #[Option.some (.ref 40),Option.none,Option.some (.str (a 3 6) 223),Option.some (.str (a 3 6) 231),Option.some (.builtin u4),Option.some (.bool Bool.true)]) ::
(nat_lit 52,oq u2 #[.ref 24]) ::
(nat_lit 59,oq u2 #[]) ::
(nat_lit 60,Obj.mk (.type u0) Option.none (.dict #[de P (a 15 4) 246 (.str (a 14 5) 187),de P (a 15 5) 250 (.int 8 249),de P (a 15 6) 251 (.ref 59),de P (a 14 8) 252 .none] 2) #[]) ::
(nat_lit 61,Obj.mk (.type u5) Option.none (.cls (ClassData.mk (a 3 9) [.ref 24] [.ref 61,.ref 24,.type u3,.type u6,.type u7,.type u8] 60 (a 3 9) Bool.true [] [] Bool.false Option.none Bool.false)) #[Option.some (.ref 52),Option.none,Option.some (.str (a 3 9) 239),Option.some (.str (a 3 9) 247),Option.some (.builtin u4),Option.some (.bool Bool.true)]) ::
(nat_lit 64,Obj.mk (.type u0) Option.none (.dict #[de P (a 1 1) 255 (.ref 65),de P (a 6 9) 259 (.ref 66),de P (a 4 9) 265 (.ref 67),de P (a 6 10) 267 (.ref 68),de P (a 6 11) 270 (.ref 69),de P (a 7 0) 275 (.ref 70),de P (a 7 1) 277 (.ref 71),de P (a 7 2) 285 (.ref 72)] 8) #[]) ::
(nat_lit 65,oq u2 #[.str (a 13 5) 256,.str (a 13 5) 257,.str (a 13 6) 258]) ::
(nat_lit 66,oq u2 #[.str (a 13 7) 260,.str (a 13 8) 261,.str (a 13 9) 262,.str (a 13 8) 263,.str (a 13 9) 264]) ::
(nat_lit 67,oq u2 #[.str (a 13 5) 266]) ::
(nat_lit 68,oq u2 #[.str (a 13 5) 268,.str (a 13 7) 269]) ::
(nat_lit 69,oq u2 #[.str (a 13 5) 271,.str (a 13 10) 272,.str (a 13 11) 273,.str (a 13 7) 274]) ::
(nat_lit 70,oq u2 #[.str (a 13 5) 276]) ::
(nat_lit 71,oq u2 #[.str (a 13 7) 278,.str (a 13 8) 279,.str (a 13 9) 280,.str (a 13 8) 281,.str (a 13 9) 282,.str (a 14 0) 283,.str (a 14 1) 284]) ::
(nat_lit 72,oq u2 #[.str (a 13 7) 286,.str (a 13 7) 287,.str (a 14 1) 288]) ::
(nat_lit 73,oq u2 #[]) ::
(nat_lit 76,cq u11 (a 14 7) (a 12 8) 304 305 306 14 1 73 181 74 (.none) (.none) (.ref 75) 307 308) ::
(nat_lit 77,Obj.mk (.type u12) Option.none (.func (fq (a 12 8) (tp 9) (.str (a 14 2) 298) (.ref 76))) #[]) ::
(nat_lit 78,oq u2 #[]) ::
(nat_lit 80,oq u2 #[.str (a 10 10) 313]) ::
(nat_lit 81,oq u2 #[]) ::
(nat_lit 83,cq u11 (a 14 7) (a 12 7) 310 311 312 16 1 78 181 79 (.ref 80) (.ref 81) (.ref 82) 314 315) ::
(nat_lit 84,Obj.mk (.type u12) Option.none (.func (fq (a 12 7) (tp 10) (.str (a 14 2) 298) (.ref 83))) #[]) ::
(nat_lit 85,oq u2 #[]) ::
(nat_lit 88,cq u11 (a 14 7) (a 11 5) 317 318 319 22 1 85 181 86 (.none) (.none) (.ref 87) 320 321) ::
(nat_lit 89,Obj.mk (.type u12) Option.none (.func (fq (a 11 5) (tp 11) (.str (a 14 2) 298) (.ref 88))) #[]) ::
(nat_lit 90,oq u2 #[]) ::
(nat_lit 93,cq u11 (a 14 7) (a 12 10) 323 324 325 27 1 90 181 91 (.none) (.none) (.ref 92) 326 327) ::
(nat_lit 94,Obj.mk (.type u12) Option.none (.func (fq (a 12 10) (tp 12) (.str (a 14 2) 298) (.ref 93))) #[]) ::
(nat_lit 95,oq u2 #[]) ::
(nat_lit 97,oq u2 #[.str (a 10 10) 332,.str (a 11 4) 333]) ::
(nat_lit 98,oq u2 #[]) ::
(nat_lit 100,cq u11 (a 14 7) (a 13 2) 329 330 331 33 1 95 181 96 (.ref 97) (.ref 98) (.ref 99) 334 335) ::
(nat_lit 101,Obj.mk (.type u12) Option.none (.func (fq (a 13 2) (tp 13) (.str (a 14 2) 298) (.ref 100))) #[]) ::
(nat_lit 102,oq u2 #[]) ::
(nat_lit 105,cq u11 (a 14 7) (a 11 1) 337 338 339 38 1 102 181 103 (.none) (.none) (.ref 104) 340 341) ::
(nat_lit 106,Obj.mk (.type u12) Option.none (.func (fq (a 11 1) (tp 14) (.str (a 14 2) 298) (.ref 105))) #[]) ::
(nat_lit 107,oq u2 #[]) ::
(nat_lit 109,oq u2 #[.str (a 10 10) 346,.str (a 10 11) 347,.str (a 11 0) 348,.str (a 11 4) 349]) ::
(nat_lit 110,oq u2 #[]) ::
(nat_lit 112,cq u11 (a 14 7) (a 3 5) 343 344 345 42 1 107 181 108 (.ref 109) (.ref 110) (.ref 111) 350 351) ::
(nat_lit 113,Obj.mk (.type u12) Option.none (.func (fq (a 3 5) (tp 15) (.str (a 14 2) 298) (.ref 112))) #[]) ::
(nat_lit 114,oq u2 #[]) ::
(nat_lit 116,oq u2 #[.str (a 2 1) 358,.str (a 2 2) 359,.str (a 2 3) 360,.str (a 7 8) 361,.str (a 1 9) 362,.str (a 11 9) 363,.str (a 11 10) 364,.str (a 1 7) 365,.str (a 8 1) 366,.str (a 11 11) 367]) ::
(nat_lit 117,oq u2 #[]) ::
(nat_lit 119,cq u11 (a 14 7) (a 2 6) 355 356 357 54 4 114 181 115 (.ref 116) (.ref 117) (.ref 118) 368 369) ::
(nat_lit 120,Obj.mk (.type u12) Option.none (.func (fq (a 2 6) (tp 17) (.str (a 11 8) 353) (.ref 119))) #[]) ::
(nat_lit 121,oq u2 #[]) ::
(nat_lit 124,cq u11 (a 14 7) (a 6 0) 371 372 373 69 2 121 181 122 (.none) (.none) (.ref 123) 374 375) ::
(nat_lit 125,Obj.mk (.type u12) Option.none (.func (fq (a 6 0) (tp 18) (.str (a 11 8) 353) (.ref 124))) #[]) ::
(nat_lit 126,oq u2 #[]) ::
(nat_lit 128,oq u2 #[.str (a 2 1) 380,.str (a 2 2) 381,.str (a 10 2) 382,.str (a 10 3) 383,.str (a 10 5) 384,.str (a 12 6) 385]) ::
(nat_lit 129,oq u2 #[]) ::
(nat_lit 131,cq u11 (a 14 7) (a 4 1) 377 378 379 78 2 126 181 127 (.ref 128) (.ref 129) (.ref 130) 386 387) ::
(nat_lit 132,Obj.mk (.type u12) Option.none (.func (fq (a 4 1) (tp 19) (.str (a 11 8) 353) (.ref 131))) #[]) ::
(nat_lit 133,oq u2 #[]) ::
(nat_lit 135,oq u2 #[.str (a 2 1) 392,.str (a 2 2) 393,.str (a 2 3) 394,.str (a 10 2) 395,.str (a 10 3) 396,.str (a 6 6) 397,.str (a 6 7) 398]) ::
(nat_lit 136,oq u2 #[]) ::
(nat_lit 138,cq u11 (a 14 7) (a 9 8) 389 390 391 85 5 133 181 134 (.ref 135) (.ref 136) (.ref 137) 399 400) ::
(nat_lit 139,Obj.mk (.type u12) Option.none (.func (fq (a 9 8) (tp 20) (.str (a 11 8) 353) (.ref 138))) #[]) ::
(nat_lit 140,oq u2 #[]) ::
(nat_lit 143,cq u11 (a 14 7) (a 8 6) 402 403 404 89 4 140 181 141 (.none) (.none) (.ref 142) 405 406) ::
(nat_lit 144,Obj.mk (.type u12) Option.none (.func (fq (a 8 6) (tp 21) (.str (a 11 8) 353) (.ref 143))) #[]) ::
(nat_lit 145,oq u2 #[]) ::
(nat_lit 147,oq u2 #[.str (a 2 1) 411,.str (a 2 2) 412,.str (a 2 3) 413,.str (a 6 1) 414,.str (a 10 6) 415,.str (a 10 7) 416,.str (a 10 8) 417,.str (a 7 11) 418,.str (a 2 5) 419,.str (a 10 9) 420]) ::
(nat_lit 148,oq u2 #[]) ::
(nat_lit 150,cq u11 (a 14 7) (a 8 7) 408 409 410 91 4 145 181 146 (.ref 147) (.ref 148) (.ref 149) 421 422) ::
(nat_lit 151,Obj.mk (.type u12) Option.none (.func (fq (a 8 7) (tp 22) (.str (a 11 8) 353) (.ref 150))) #[]) ::
(nat_lit 152,oq u2 #[]) ::
(nat_lit 154,oq u2 #[.str (a 2 1) 427,.str (a 2 2) 428,.str (a 2 3) 429]) ::
(nat_lit 155,oq u2 #[]) ::
(nat_lit 157,cq u11 (a 14 7) (a 9 1) 424 425 426 101 3 152 181 153 (.ref 154) (.ref 155) (.ref 156) 430 431) ::
(nat_lit 158,Obj.mk (.type u12) Option.none (.func (fq (a 9 1) (tp 23) (.str (a 11 8) 353) (.ref 157))) #[]) ::
(nat_lit 159,oq u2 #[]) ::
(nat_lit 161,oq u2 #[.str (a 2 1) 436,.str (a 2 2) 437,.str (a 2 3) 438,.str (a 8 9) 439]) ::
(nat_lit 162,oq u2 #[]) ::
(nat_lit 164,cq u11 (a 14 7) (a 8 11) 433 434 435 103 4 159 181 160 (.ref 161) (.ref 162) (.ref 163) 440 441) ::
(nat_lit 165,Obj.mk (.type u12) Option.none (.func (fq (a 8 11) (tp 24) (.str (a 11 8) 353) (.ref 164))) #[]) ::
(nat_lit 166,oq u2 #[]) ::
(nat_lit 168,oq u2 #[.str (a 2 1) 446,.str (a 2 2) 447,.str (a 6 1) 448]) ::
(nat_lit 169,oq u2 #[]) ::
(nat_lit 171,cq u11 (a 14 7) (a 8 5) 443 444 445 107 3 166 181 167 (.ref 168) (.ref 169) (.ref 170) 449 450) ::
(nat_lit 172,Obj.mk (.type u12) Option.none (.func (fq (a 8 5) (tp 25) (.str (a 11 8) 353) (.ref 171))) #[]) ::
(nat_lit 173,oq u2 #[]) ::
(nat_lit 175,oq u2 #[.str (a 2 1) 455,.str (a 2 2) 456,.str (a 2 10) 457,.str (a 6 1) 458,.str (a 8 9) 459,.str (a 8 10) 460,.str (a 9 0) 461,.str (a 9 2) 462,.str (a 9 3) 463]) ::
(nat_lit 176,oq u2 #[]) ::
(nat_lit 178,cq u11 (a 14 7) (a 8 8) 452 453 454 109 5 173 181 174 (.ref 175) (.ref 176) (.ref 177) 464 465) ::
(nat_lit 179,Obj.mk (.type u12) Option.none (.func (fq (a 8 8) (tp 26) (.str (a 11 8) 353) (.ref 178))) #[]) ::
(nat_lit 180,oq u2 #[]) ::
(nat_lit 183,cq u11 (a 14 7) (a 7 6) 467 468 469 117 4 180 181 181 (.none) (.none) (.ref 182) 470 471) ::
(nat_lit 184,Obj.mk (.type u12) Option.none (.func (fq (a 7 6) (tp 27) (.str (a 11 8) 353) (.ref 183))) #[]) ::
(nat_lit 185,oq u2 #[]) ::
(nat_lit 187,oq u2 #[.str (a 2 1) 476,.str (a 2 2) 477,.str (a 6 1) 478,.str (a 9 9) 479,.str (a 9 10) 480,.str (a 9 11) 481]) ::
(nat_lit 188,oq u2 #[]) ::
(nat_lit 190,cq u11 (a 14 7) (a 7 4) 473 474 475 129 3 185 181 186 (.ref 187) (.ref 188) (.ref 189) 482 483) ::
(nat_lit 191,Obj.mk (.type u12) Option.none (.func (fq (a 7 4) (tp 28) (.str (a 11 8) 353) (.ref 190))) #[]) ::
(nat_lit 192,oq u2 #[]) ::
(nat_lit 194,oq u2 #[.str (a 2 1) 488,.str (a 2 2) 489,.str (a 10 0) 490,.str (a 10 1) 491]) ::
(nat_lit 195,oq u2 #[]) ::
(nat_lit 197,cq u11 (a 14 7) (a 7 5) 485 486 487 134 2 192 181 193 (.ref 194) (.ref 195) (.ref 196) 492 493) ::
(nat_lit 198,Obj.mk (.type u12) Option.none (.func (fq (a 7 5) (tp 29) (.str (a 11 8) 353) (.ref 197))) #[]) ::
(nat_lit 199,oq u2 #[]) ::
(nat_lit 201,oq u2 #[.str (a 6 1) 498,.str (a 6 2) 499,.str (a 6 3) 500,.str (a 6 4) 501,.str (a 6 5) 502,.str (a 6 6) 503,.str (a 6 7) 504,.str (a 6 8) 505]) ::
(nat_lit 202,oq u2 #[]) ::
(nat_lit 204,cq u11 (a 14 7) (a 0 5) 495 496 497 140 2 199 181 200 (.ref 201) (.ref 202) (.ref 203) 506 507) ::
(nat_lit 205,Obj.mk (.type u12) Option.none (.func (fq (a 0 5) (tp 30) (.str (a 11 8) 353) (.ref 204))) #[]) ::
(nat_lit 206,oq u2 #[]) ::
(nat_lit 208,oq u2 #[.str (a 2 1) 512,.str (a 2 2) 513,.str (a 6 1) 514,.str (a 2 10) 515]) ::
(nat_lit 209,oq u2 #[]) ::
(nat_lit 211,cq u11 (a 14 7) (a 4 0) 509 510 511 153 3 206 181 207 (.ref 208) (.ref 209) (.ref 210) 516 517) ::
(nat_lit 212,Obj.mk (.type u12) Option.none (.func (fq (a 4 0) (tp 31) (.str (a 11 8) 353) (.ref 211))) #[]) ::
(nat_lit 213,oq u2 #[]) ::
(nat_lit 215,oq u2 #[.str (a 6 2) 522,.str (a 7 8) 523,.str (a 2 9) 524,.str (a 2 5) 525]) ::
(nat_lit 216,oq u2 #[]) ::
(nat_lit 218,cq u11 (a 14 7) (a 7 7) 519 520 521 160 1 213 181 214 (.ref 215) (.ref 216) (.ref 217) 526 527) ::
(nat_lit 219,Obj.mk (.type u12) Option.none (.func (fq (a 7 7) (tp 32) (.str (a 11 8) 353) (.ref 218))) #[]) ::
(nat_lit 220,oq u2 #[]) ::
(nat_lit 223,cq u11 (a 14 7) (a 0 7) 529 530 531 170 1 220 181 221 (.none) (.none) (.ref 222) 532 533) ::
(nat_lit 224,Obj.mk (.type u12) Option.none (.func (fq (a 0 7) (tp 33) (.str (a 11 8) 353) (.ref 223))) #[]) ::
(nat_lit 225,oq u2 #[]) ::
(nat_lit 228,cq u11 (a 14 7) (a 0 3) 535 536 537 175 1 225 181 226 (.none) (.none) (.ref 227) 538 539) ::
(nat_lit 229,Obj.mk (.type u12) Option.none (.func (fq (a 0 3) (tp 34) (.str (a 11 8) 353) (.ref 228))) #[]) ::
(nat_lit 230,oq u2 #[]) ::
(nat_lit 232,oq u2 #[.str (a 0 1) 544,.str (a 0 4) 545,.str (a 0 6) 546]) ::
(nat_lit 233,oq u2 #[]) ::
(nat_lit 235,cq u11 (a 14 7) (a 0 0) 541 542 543 191 1 230 181 231 (.ref 232) (.ref 233) (.ref 234) 547 548) ::
(nat_lit 236,Obj.mk (.type u12) Option.none (.func (fq (a 0 0) (tp 35) (.str (a 11 8) 353) (.ref 235))) #[]) ::
(nat_lit 237,oq u2 #[]) ::
(nat_lit 240,cq u11 (a 14 7) (a 0 10) 550 551 552 199 1 237 181 238 (.none) (.none) (.ref 239) 553 554) ::
(nat_lit 241,Obj.mk (.type u12) Option.none (.func (fq (a 0 10) (tp 36) (.str (a 11 8) 353) (.ref 240))) #[]) ::
(nat_lit 242,oq u2 #[]) ::
(nat_lit 244,oq u2 #[.str (a 2 1) 559,.str (a 2 2) 560,.str (a 2 3) 561,.str (a 2 4) 562,.str (a 2 5) 563,.str (a 2 7) 564,.str (a 2 9) 565,.str (a 2 10) 566]) ::
(nat_lit 245,oq u2 #[]) ::
(nat_lit 247,cq u11 (a 14 7) (a 2 0) 556 557 558 206 4 242 181 243 (.ref 244) (.ref 245) (.ref 246) 567 568) ::
(nat_lit 248,Obj.mk (.type u12) Option.none (.func (fq (a 2 0) (tp 37) (.str (a 11 8) 353) (.ref 247))) #[]) ::
(nat_lit 249,oq u2 #[]) ::
(nat_lit 251,oq u2 #[.str (a 2 4) 573,.str (a 3 4) 574]) ::
(nat_lit 252,oq u2 #[]) ::
(nat_lit 254,cq u11 (a 14 7) (a 3 3) 570 571 572 222 1 249 181 250 (.ref 251) (.ref 252) (.ref 253) 575 576) ::
(nat_lit 255,Obj.mk (.type u12) Option.none (.func (fq (a 3 3) (tp 38) (.str (a 11 8) 353) (.ref 254))) #[]) ::
(nat_lit 256,oq u2 #[]) ::
(nat_lit 258,oq u2 #[.str (a 2 1) 581,.str (a 0 11) 582,.str (a 2 4) 583,.str (a 4 2) 584,.str (a 2 2) 585,.str (a 5 10) 586,.str (a 3 4) 587]) ::
(nat_lit 259,oq u2 #[]) ::
(nat_lit 261,cq u11 (a 14 7) (a 3 11) 578 579 580 233 1 256 181 257 (.ref 258) (.ref 259) (.ref 260) 588 589) ::
(nat_lit 262,Obj.mk (.type u12) Option.none (.func (fq (a 3 11) (tp 39) (.str (a 11 8) 353) (.ref 261))) #[])::[]
noncomputable def KF:Params→Qqq:=KG top Af b0 b1 b2 b3 b4 b5 b6 b7 b8 b9 b10 b11 b12
noncomputable def KH(P:Params):Qqq:=by refine'(?f:(x:Qqq)→KF P=x→Qqq) _ ?h; (case f=>exact fun x _=>x); (case h=>conv=>lhs; whnf)
def S0:Stmt:=top 0
def S1:Stmt:=top 1
def S2:Stmt:=top 2
def S3:Stmt:=top 3
def S4:Stmt:=top 4
def S5:Stmt:=top 5
def S6:Stmt:=top 6
def S7:Stmt:=top 7
def S8:Stmt:=top 8
def S9:Stmt:=top 9
def S10:Stmt:=top 10
def S11:Stmt:=top 11
def S12:Stmt:=top 12
def S13:Stmt:=top 13
def S14:Stmt:=top 14
def S15:Stmt:=top 15
def S16:Stmt:=top 16
def S17:Stmt:=top 17
def S18:Stmt:=top 18
def S19:Stmt:=top 19
def S20:Stmt:=top 20
def S21:Stmt:=top 21
def S22:Stmt:=top 22
def S23:Stmt:=top 23
def S24:Stmt:=top 24
def S25:Stmt:=top 25
def S26:Stmt:=top 26
def S27:Stmt:=top 27
def S28:Stmt:=top 28
def S29:Stmt:=top 29
def S30:Stmt:=top 30
def S31:Stmt:=top 31
def S32:Stmt:=top 32
def S33:Stmt:=top 33
def S34:Stmt:=top 34
def S35:Stmt:=top 35
def S36:Stmt:=top 36
def S37:Stmt:=top 37
def S38:Stmt:=top 38
def S39:Stmt:=top 39
def pw:Program:={ PySem.Challenge.pw_dipright_k08_facts_read_or_refused with main:={ PySem.Challenge.pw_dipright_k08_facts_read_or_refused.main with body:=[S0,S1,S2,S3,S4,S5,S6,S7,S8,S9,S10,S11,S12,S13,S14,S15,S16,S17,S18,S19,S20,S21,S22,S23,S24,S25,S26,S27,S28,S29,S30,S31,S32,S33,S34,S35,S36,S37,S38,S39] } }
def rw:PySem.W.OpenLaw:={ PySem.Challenge.rw_dipright_k08_facts_read_or_refused with prog:=pw }
theorem rwE:rw=PySem.Challenge.rw_dipright_k08_facts_read_or_refused:=by kernel_rfl
end K08
namespace PySem.W.Fast
open PySem K08
noncomputable def tw12931493143162697311:Program:=G tw6143227927330978790
theorem qxq:PySem.Challenge.pw_dipright_k08_facts_read_or_refused=tw12931493143162697311:=Eq.trans (b:=G Af) (by kernel_rfl) (congrArg G te6143227927330978790)
noncomputable def qz5(i:Nat):Stmt:=tw12931493143162697311.main.body.getD i (.Pass ⟨0,0,0,0⟩)
theorem qxj:top=qz5:=funext fun i=>congrArg (fun p:Program=>p.main.body.getD i (.Pass ⟨0,0,0,0⟩)) qxq
noncomputable def qxx:Params→Frag:=KG qz5 tw6143227927330978790 tw568149403632508122 tw6580287837728699481 tw15337176723314956914 tw12083613417250456054 tw4747986748106291192 tw9510680529779095049 tw6253572969420265892 tw9199431152112990941 tw203067474751069945 tw2149520512896589332 tw11623673627808299644 tw6365527899049576952 tw9750881616479129137
theorem qyj:KF=qxx:=congr (congr (congr (congr (congr (congr (congr (congr (congr (congr (congr (congr (congr (congr (congrArg KG qxj) te6143227927330978790) te568149403632508122) te6580287837728699481) te15337176723314956914) te12083613417250456054) te4747986748106291192) te9510680529779095049) te6253572969420265892) te9199431152112990941) te203067474751069945) te2149520512896589332) te11623673627808299644) te6365527899049576952) te9750881616479129137
end PySem.W.Fast
open PySem PySem.W PyProof.Rows
set_option maxRecDepth 100000 in
set_option maxHeartbeats 0 in
theorem PySem.Challenge.cw_dipright_k08_facts_read_or_refused_holds : PySem.Challenge.rw_dipright_k08_facts_read_or_refused.Holds := by
 refine(congrArg PySem.W.OpenLaw.Holds K08.rwE).mp ?_
 w_on; o_law; o_head (kHook K08.KF [2,3,15,22,23,24,25,28,35,36,37,40,47,48,49,52,59,60,61,64,65,66,67,68,69,70,71,72,73,76,77,78,80,81,83,84,85,88,89,90,93,94,95,97,98,100,101,102,105,106,107,109,110,112,113,114,116,117,119,120,121,124,125,126,128,129,131,132,133,135,136,138,139,140,143,144,145,147,148,150,151,152,154,155,157,158,159,161,162,164,165,166,168,169,171,172,173,175,176,178,179,180,183,184,185,187,188,190,191,192,194,195,197,198,199,201,202,204,205,206,208,209,211,212,213,215,216,218,219,220,223,224,225,228,229,230,232,233,235,236,237,240,241,242,244,245,247,248,249,251,252,254,255,256,258,259,261,262] (fun _=>by kernel_rfl)); (case hw=>w_witness2)
 refine MS.walk_law (l:=K08.rw) (K:=K08.KH) (k:=20) (x:="_law_script") rfl rfl ⟨rfl,by decide,by decide⟩ (fun w h Y=>PySem.W.kIn_of Y) ?F
 case F=>
  intro w mg fa h KX G hmg
  k_fill
  refine' K08.all_mk KX G hmg (.mk ?a0 ?l0 ?c0 ?k0) (.mk ?a1 ?l1 ?c1 ?k1) (.mk ?a2 ?l2 ?c2 ?k2) (.mk ?a3 ?l3 ?c3 ?k3) (.mk ?a4 ?l4 ?c4 ?k4) (.mk ?a5 ?l5 ?c5 ?k5) (.mk ?a6 ?l6 ?c6 ?k6) (.mk ?a7 ?l7 ?c7 ?k7) (.mk ?a8 ?l8 ?c8 ?k8) (.mk ?a9 ?l9 ?c9 ?k9) (.mk ?a10 ?l10 ?c10 ?k10) (.mk ?a11 ?l11 ?c11 ?k11) (.mk ?a12 ?l12 ?c12 ?k12) (.mk ?a13 ?l13 ?c13 ?k13) (.mk ?a14 ?l14 ?c14 ?k14) (.mk ?a15 ?l15 ?c15 ?k15) (.mk ?a16 ?l16 ?c16 ?k16) (.mk ?a17 ?l17 ?c17 ?k17) (.mk ?a18 ?l18 ?c18 ?k18) (.mk ?a19 ?l19 ?c19 ?k19) (.mk ?a20 ?l20 ?c20 ?k20) (.mk ?a21 ?l21 ?c21 ?k21) (.mk ?a22 ?l22 ?c22 ?k22) (.mk ?a23 ?l23 ?c23 ?k23) (.mk ?a24 ?l24 ?c24 ?k24) (.mk ?a25 ?l25 ?c25 ?k25) (.mk ?a26 ?l26 ?c26 ?k26) (.mk ?a27 ?l27 ?c27 ?k27) (.mk ?a28 ?l28 ?c28 ?k28) (.mk ?a29 ?l29 ?c29 ?k29) ?gl0 ?gl1 ?gl2 ?gO0 (.mk ?go0) (.mk ?go1) (.mk ?go2) (.mk ?go3) (.mk ?go4) (.mk ?go5) (.mk ?go6) (.mk ?go7) ?gm0 ?bad0 ?bad1 ?far1 ?far2 ?far0 (.mk ?z0 ?z1 ?z2 ?z3 ?z4 ?z5 ?z6 ?z7 ?z8 ?z9 ?z10 ?z11 ?z12 ?z13 ?z14 ?z15 ?z16 ?z17 ?z18)
  (case a0=>k_is)
  (case l0=>k_is)
  (case c0=>k_is)
  (case k0=>k_is)
  (case a1=>k_is)
  (case l1=>k_is)
  (case c1=>k_is)
  (case k1=>k_is)
  (case a2=>k_is)
  (case l2=>k_is)
  (case c2=>k_is)
  (case k2=>k_is)
  (case a3=>k_is)
  (case l3=>k_is)
  (case c3=>k_is)
  (case k3=>k_is)
  (case a4=>k_is)
  (case l4=>k_is)
  (case c4=>k_is)
  (case k4=>k_is)
  (case a5=>k_is)
  (case l5=>k_is)
  (case c5=>k_is)
  (case k5=>k_is)
  (case a6=>k_is)
  (case l6=>k_is)
  (case c6=>k_is)
  (case k6=>k_is)
  (case a7=>k_is)
  (case l7=>k_is)
  (case c7=>k_is)
  (case k7=>k_is)
  (case a8=>k_is)
  (case l8=>k_is)
  (case c8=>k_is)
  (case k8=>k_is)
  (case a9=>k_is)
  (case l9=>k_is)
  (case c9=>k_is)
  (case k9=>k_is)
  (case a10=>k_is)
  (case l10=>k_is)
  (case c10=>k_is)
  (case k10=>k_is)
  (case a11=>k_is)
  (case l11=>k_is)
  (case c11=>k_is)
  (case k11=>k_is)
  (case a12=>k_is)
  (case l12=>k_is)
  (case c12=>k_is)
  (case k12=>k_is)
  (case a13=>k_is)
  (case l13=>k_is)
  (case c13=>k_is)
  (case k13=>k_is)
  (case a14=>k_is)
  (case l14=>k_is)
  (case c14=>k_is)
  (case k14=>k_is)
  (case a15=>k_is)
  (case l15=>k_is)
  (case c15=>k_is)
  (case k15=>k_is)
  (case a16=>k_is)
  (case l16=>k_is)
  (case c16=>k_is)
  (case k16=>k_is)
  (case a17=>k_is)
  (case l17=>k_is)
  (case c17=>k_is)
  (case k17=>k_is)
  (case a18=>k_is)
  (case l18=>k_is)
  (case c18=>k_is)
  (case k18=>k_is)
  (case a19=>k_is)
  (case l19=>k_is)
  (case c19=>k_is)
  (case k19=>k_is)
  (case a20=>k_is)
  (case l20=>k_is)
  (case c20=>k_is)
  (case k20=>k_is)
  (case a21=>k_is)
  (case l21=>k_is)
  (case c21=>k_is)
  (case k21=>k_is)
  (case a22=>k_is)
  (case l22=>k_is)
  (case c22=>k_is)
  (case k22=>k_is)
  (case a23=>k_is)
  (case l23=>k_is)
  (case c23=>k_is)
  (case k23=>k_is)
  (case a24=>k_is)
  (case l24=>k_is)
  (case c24=>k_is)
  (case k24=>k_is)
  (case a25=>k_is)
  (case l25=>k_is)
  (case c25=>k_is)
  (case k25=>k_is)
  (case a26=>k_is)
  (case l26=>k_is)
  (case c26=>k_is)
  (case k26=>k_is)
  (case a27=>k_is)
  (case l27=>k_is)
  (case c27=>k_is)
  (case k27=>k_is)
  (case a28=>k_is)
  (case l28=>k_is)
  (case c28=>k_is)
  (case k28=>k_is)
  (case a29=>k_is)
  (case l29=>k_is)
  (case c29=>k_is)
  (case k29=>k_is)
  (case gl0=>k_is)
  (case gl1=>k_is)
  (case gl2=>k_is)
  (case gO0=>k_is)
  (case go0=>k_is)
  (case go1=>k_is)
  (case go2=>k_is)
  (case go3=>k_is)
  (case go4=>k_is)
  (case go5=>k_is)
  (case go6=>k_is)
  (case go7=>k_is)
  (case bad0=>k_is)
  (case bad1=>k_exc)
  (case far1=>k_is)
  (case far2=>k_is)
  (case far0=>kernel_rfl)
  (case z0=>k_is)
  (case z1=>k_is)
  (case z2=>k_is)
  (case z3=>k_is)
  (case z4=>k_is)
  (case z5=>k_is)
  (case z6=>k_is)
  (case z7=>k_is)
  (case z8=>k_is)
  (case z9=>k_is)
  (case z10=>k_is)
  (case z11=>k_is)
  (case z12=>k_is)
  (case z13=>k_is)
  (case z14=>k_is)
  (case z15=>k_is)
  (case z16=>k_is)
  (case z17=>k_is)
  (case z18=>k_is)
  (case gm0=>rfl)
