import PyProof.Rows.All
import Wide.All
import OpenK.AllK
import Wide.FinOn
import Lean
import PyProof.EqAt
import PyProof.EqKinds
import PyProof.TupleCall
import PyProof.NeKinds
import PyProof.ZipIter
import PyProof.StrLoop
import PyProof.StrWalks
import PyProof.StrCalls
import PyProof.StrCalls2
import PyProof.StrLawsIn
import PyProof.SliceStr2
import PyProof.StrBlock
import PyProof.Rows.StrFirst
import KE.KIntText
import PyProof.StrLawsChain
import PyProof.StrLawsTight
import PyProof.CallStr
import PyProof.Rows.FStr
import PySem.SetTable
import PyProof.TupleKey
import PyProof.SetKind
import PyProof.IsRules
import PyProof.Rows.SetFrom
import PyProof.WalksMore
import PyProof.TupleIter
import KE.KSortTup
import PySem.Challenge.RW_dipright_k34_papers_read_or_refused
set_option Elab.async false
set_option backward.eqns.nonrecursive false
set_option linter.all false
set_option maxRecDepth 100000
set_option maxHeartbeats 4000000
section
universe u v
theorem oBs{α:Type u}{β:Type v}(a:α)(f:α→Option β):(some a).bind f=f a:=rfl
theorem oMs{α:Type u}{β:Type v}(a:α)(f:α→β):(some a).map f=some (f a):=rfl
end
section
namespace L2
open PySem PySem.Spec PyProof.Rows
abbrev Key:=Sum Int Str
noncomputable def keyIs:Key→Value→Bool
 |.inl k,v=>Value.isInt k v
 |.inr x,v=>Value.isStrOf x v
noncomputable def keyH(w:World):Key→Int
 |.inl k=>hashInt k
 |.inr x=>hashStr w x
theorem keyIs_shape:∀ {k:Key}{v:Value},keyIs k v=true→(∃ i t,k=Sum.inl i∧v=Value.int i t)∨(∃ x t,k=Sum.inr x∧v=Value.str x t)
 |.inl i,v,h=>by
  obtain⟨t,e⟩:=Value.isInt_shape (k:=i) (v:=v) h
  exact .inl ⟨i,t,rfl,e⟩
 |.inr x,v,h=>by
  obtain⟨t,e⟩:=Value.isStrOf_shape (x:=x) (v:=v) h
  exact .inr ⟨x,t,rfl,e⟩
theorem key_ll(a b:Int):decide ((Sum.inl a:Key)=Sum.inl b)=(a==b):=by
 by_cases e:a=b
 ·subst e; simp
 ·have h:¬ (Sum.inl a:Key)=Sum.inl b:=fun q=>e (Sum.inl.inj q)
  rw[decide_eq_false h]
  exact(beq_eq_false_iff_ne.mpr e).symm
theorem key_rr(a b:Str):decide ((Sum.inr a:Key)=Sum.inr b)=decide (a=b):=by
 by_cases e:a=b
 ·subst e; simp
 ·have h:¬ (Sum.inr a:Key)=Sum.inr b:=fun q=>e (Sum.inr.inj q)
  rw[decide_eq_false h,decide_eq_false e]
theorem key_lr(a:Int)(b:Str):decide ((Sum.inl a:Key)=Sum.inr b)=false:=decide_eq_false (fun q=>nomatch q)
theorem key_rl(a:Str)(b:Int):decide ((Sum.inr a:Key)=Sum.inl b)=false:=decide_eq_false (fun q=>nomatch q)
noncomputable def mixKind(prog:Program)(w:World):PySem.KeyKind prog w Key where
 is:=keyIs
 hash:=keyH w
 inj:=fun v a b ha hb=>by
  rcases keyIs_shape ha with⟨i,t,rfl,rfl⟩|⟨x,t,rfl,rfl⟩
  ·rcases keyIs_shape hb with⟨j,u,rfl,e⟩|⟨y,u,rfl,e⟩
   ·injection e with e1 _; rw[e1]
   ·exact nomatch e
  ·rcases keyIs_shape hb with⟨j,u,rfl,e⟩|⟨y,u,rfl,e⟩
   ·exact nomatch e
   ·injection e with e1 _; rw[e1]
 byValue:=fun k v h=>by
  rcases keyIs_shape h with⟨i,t,rfl,rfl⟩|⟨x,t,rfl,rfl⟩<;>rfl
 pyHash:=fun hv h=>by
  rcases keyIs_shape hv with⟨i,t,rfl,rfl⟩|⟨x,t,rfl,rfl⟩
  ·exact wpAny_pyHash_int h
  ·exact wpAny_pyHash_str h
 eqBool:=fun hu hv h=>by
  rcases keyIs_shape hu with⟨i,t,rfl,rfl⟩|⟨x,t,rfl,rfl⟩
  ·rcases keyIs_shape hv with⟨j,u,rfl,rfl⟩|⟨y,u,rfl,rfl⟩
   ·rw[key_ll]at h; exact wpAny_eqBool_int h
   ·rw[key_lr]at h; exact SeqAt.EqAt.int_str i t y u _ _ _ _ h
  ·rcases keyIs_shape hv with⟨j,u,rfl,rfl⟩|⟨y,u,rfl,rfl⟩
   ·rw[key_rl]at h; exact SeqAt.EqAt.str_int x t j u _ _ _ _ h
   ·rw[key_rr]at h; exact wpAny_eqBool_str h
 «strs»:=fun k x t v h=>by
  rcases keyIs_shape h with⟨i,u,rfl,e⟩|⟨y,u,rfl,e⟩
  ·exact nomatch e
  ·injection e with e1 _
   subst e1
   cases v<;>rfl
end L2
namespace L2
open PySem PySem.Spec PyProof.Rows
inductive V where
 |non|bl (b:Bool)|int (i:Int)|str (x:Str)|byt (b:Array UInt8)|flt (b:UInt64)|ref (a:Addr)|ty (n:String)
 deriving DecidableEq
noncomputable def RelV:V→Value→Prop
 |.non,u=>u=Value.none
 |.bl b,u=>u=Value.bool b
 |.int i,u=>∃ t,u=Value.int i t
 |.str x,u=>∃ t,u=Value.str x t
 |.byt b,u=>∃ t,u=Value.bytes b t
 |.flt b,u=>∃ t,u=Value.float b t
 |.ref a,u=>u=Value.ref a
 |.ty n,u=>u=Value.type n
abbrev Vals:List V→List Value→Prop:=Paired RelV
theorem Vals.length{xs:List V}{us:List Value}(r:Vals xs us):xs.length=us.length:=Paired.length r
theorem Vals.get:∀ {xs:List V}{us:List Value}{i:Nat}{x:V},Vals xs us→xs[i]?=some x→∃ u,us[i]?=some u∧RelV x u
 |_,_,_,_,.nil,e=>by simp at e
 |_,_,0,_,.cons r _,e=>by simp at e; subst e; exact⟨_,rfl,r⟩
 |_,_,i+1,x,.cons _ t,e=>by
  obtain⟨u,h1,h2⟩:=Vals.get (i:=i) (x:=x) t (by simpa using e)
  exact⟨u,by simpa using h1,h2⟩
theorem Vals.set{x:V}{u:Value}(r:RelV x u):∀ {xs:List V}{us:List Value}(i:Nat),Vals xs us→Vals (xs.set i x) (us.set i u)
 |_,_,_,.nil=>.nil
 |_,_,0,.cons _ t=>.cons r t
 |_,_,i+1,.cons q t=>.cons q (Vals.set r i t)
theorem Vals.append:∀ {xs ys:List V}{us ws:List Value},Vals xs us→Vals ys ws→Vals (xs++ys) (us++ws)
 |_,_,_,_,.nil,s=>s
 |_,_,_,_,.cons r t,s=>.cons r (Vals.append t s)
theorem Vals.take:∀ {xs:List V}{us:List Value}(n:Nat),Vals xs us→Vals (xs.take n) (us.take n)
 |_,_,0,_=>.nil
 |_,_,_+1,.nil=>.nil
 |_,_,n+1,.cons r t=>.cons r (Vals.take n t)
theorem Vals.drop:∀ {xs:List V}{us:List Value}(n:Nat),Vals xs us→Vals (xs.drop n) (us.drop n)
 |_,_,0,r=>r
 |_,_,_+1,.nil=>.nil
 |_,_,n+1,.cons _ t=>Vals.drop n t
noncomputable def RelO:Option V→Option Value→Prop
 |some v,some u=>RelV v u
 |none,none=>True
 |_,_=>False
def KV{κ:Type}:List (κ×V)→List (κ×Value)→Prop:=Paired fun(p:κ×V) (q:κ×Value)=>p.1=q.1∧RelV p.2 q.2
noncomputable def kV:Key→V
 |.inl i=>.int i
 |.inr x=>.str x
inductive HO where
 /-- a list -/
 |lst (xs:List V)
 /-- a tuple (never changes) -/
 |tup (xs:List V)
 /-- a dict whose keys are ints and texts; one whose keys are tuples of ints and texts (the empty one is both) -/
 |dK (kvs:List (Key×V))|dT (kvs:List (List Key×V))
 /-- a set of ints: its members,its size -/
 |set (S:Int→Bool) (n:Nat)
 /-- an instance of the class at C,its dict at dx,its attributes -/
 |ins (C dx:Addr) (fs:List (Str×V))
 /-- the dict of the instance at x -/
 |own (x:Addr)
 /-- the dict of an exception -/
 |xd (fs:List (Str×V))
 /-- a bound method,f of x -/
 |met (f x:Addr)
 /-- a range object lo,lo+1,.. below hi -/
 |rng (lo hi:Int)
 /-- a thing that is known to the object (the script; a dict while a loop walks it): read,never written while it is so -/
 |frz (o:Obj) (u:HO)
 /-- a code object's table -/
 |tbl (ps:Array Value)
 /-- any other thing,by what is true of its one object (a def of one's own: SetO a S n:=HO.ext fun h=>..) -/
 |ext (φ:Heap→Prop)
abbrev Hp:=Addr→Option HO
noncomputable def upd(H:Hp)(a:Addr)(o:HO):Hp:=fun b=>if b=a then some o else H b
theorem upd_same{H:Hp}{a:Addr}{o:HO}:upd H a o a=some o:=by unfold upd; rw[if_pos rfl]
theorem upd_ne{H:Hp}{a b:Addr}{o:HO}(h:b≠a):upd H a o b=H b:=by unfold upd; rw[if_neg h]
theorem ne_of{H:Hp}{a b:Addr}{o u:HO}(h:H a=some o)(h':H b=some u)(d:o≠u):a≠b:=by
 intro e; subst e; rw[h]at h'; exact d (Option.some.inj h')
theorem ne_of_none{H:Hp}{a b:Addr}{o:HO}(h:H a=some o)(h':H b=none):a≠b:=by
 intro e; subst e; rw[h]at h'; cases h'
section
variable (P:Program)(w:World)
noncomputable def ObjOk(H:Hp)(h:Heap)(a:Addr):HO→Prop
 |.lst xs=>xs.length≤sizeLine∧∃ (its:List Value) (n:Nat),Vals xs its∧h.get? a=some { cls:=.type "list",data:=.seq its.toArray n }
 |.tup xs=>xs.length≤sizeLine∧∃ its:List Value,Vals xs its∧IsTup h a its.toArray
 |.dK kvs=>kvs.length≤sizeLine∧(a==sysModules)=false∧∃ vs,KV kvs vs∧h.DictOf (mixKind P w) a vs
 |.dT kvs=>kvs.length≤sizeLine∧(a==sysModules)=false∧∃ xs:List (List Key×Addr×Value),
   Paired (fun(p:List Key×V) (q:List Key×Addr×Value)=>p.1=q.1∧H q.2.1=some (.tup (p.1.map kV))∧RelV p.2 q.2.2) kvs xs∧
   ∃ o es ep,h.get? a=some o∧o.ExactDict∧o.data=.dict es ep∧es.toList=xs.map (entryOfKey (tupleKind (mixKind P w)))∧(xs.map (·.1)).Nodup
 |.set S n=>h.SetOf (intKind P w) a S n
 |.ins C dx fs=>H dx=some (.own a)∧fs.length≤1000∧dx≠a∧h.get? a=some (PySem.W.instObj C dx)∧
   ∃ mA,h.Ns1 dx mA∧(∀ f,RelO (fs.lookup f) (mA f))∧PySem.Within mA (fs.map (·.1))
 |.own _=>∃ o,h.get? a=some o
 |.xd fs=>∃ mA,h.Ns1 a mA∧∀ f,RelO (fs.lookup f) (mA f)
 |.rng lo hi=>∃ t u v,h.get? a=some { cls:=.type "range",data:=.fields #[.int lo t,.int hi u,.int 1 v] }
 |.frz o u=>h.get? a=some o∧ObjOk H h a u
 |.tbl ps=>h.get? a=some { cls:=.none,data:=.fields ps }
 |.met f x=>h.get? a=some (PySem.W.methodObj (.ref f) (.ref x))
 |.ext φ=>φ h∧(∃ o,h.get? a=some o)∧∀ h1 h2:Heap,φ h1→(∀ o,h1.get? a=some o→h2.get? a=some o)→φ h2
def HOk(H:Hp)(h:Heap):Prop:=∀ a o,H a=some o→ObjOk P w H h a o
end
section
variable {P:Program}{w:World}{H H':Hp}{h h':Heap}{a:Addr}{o:HO}
theorem ObjOk.lt(x:ObjOk P w H h a o):a<h.objs.size:=by
 cases o with
 |lst xs=>obtain⟨_,_,_,_,e⟩:=x; exact Heap.lt_size e
 |tup xs=>obtain⟨_,_,_,p⟩:=x; exact p.lt
 |dK kvs=>obtain⟨_,_,_,_,o,_,_,e,_⟩:=x; exact Heap.lt_size e
 |dT kvs=>obtain⟨_,_,_,_,o,_,_,e,_⟩:=x; exact Heap.lt_size e
 |set S n=>obtain⟨o,_,_,_,e,_⟩:=x; exact Heap.lt_size e
 |ins C dx fs=>obtain⟨_,_,_,e,_⟩:=x; exact Heap.lt_size e
 |own y=>obtain⟨_,e⟩:=x; exact Heap.lt_size e
 |xd fs=>obtain⟨_,⟨_,_,_,e,_⟩,_⟩:=x; exact Heap.lt_size e
 |rng lo hi=>obtain⟨_,_,_,e⟩:=x; exact Heap.lt_size e
 |frz ob u=>obtain⟨e,_⟩:=x; exact Heap.lt_size e
 |tbl ps=>exact Heap.lt_size (show h.get? a=some _ from x)
 |met f y=>exact Heap.lt_size (show h.get? a=some _ from x)
 |ext φ=>obtain⟨_,⟨_,e⟩,_⟩:=x; exact Heap.lt_size e
theorem Paired.mapP{α β:Type}{F G:α→β→Prop}:∀ {l₁:List α}{l₂:List β},Paired F l₁ l₂→(∀ a b,F a b→G a b)→Paired G l₁ l₂
 |_,_,.nil,_=>.nil
 |_,_,.cons r t,f=>.cons (f _ _ r) (Paired.mapP t f)
theorem ObjOk.stay(x:ObjOk P w H h a o)(k:∀ b u,(b=a∨H b=some (.own a))→h.get? b=some u→h'.get? b=some u)
  (ho:∀ b,H b=some (.own a)→H' b=some (.own a)) (ht:∀ b xs,H b=some (.tup xs)→H' b=some (.tup xs)):ObjOk P w H' h' a o:=by
 induction o with
 |lst xs=>obtain⟨z,its,n,r,e⟩:=x; exact⟨z,its,n,r,k _ _ (.inl rfl) e⟩
 |tup xs=>obtain⟨z,its,r,ob,e,c⟩:=x; exact⟨z,its,r,ob,k _ _ (.inl rfl) e,c⟩
 |dK kvs=>obtain⟨z,y,vs,r,ob,es,ep,e,c⟩:=x; exact⟨z,y,vs,r,ob,es,ep,k _ _ (.inl rfl) e,c⟩
 |dT kvs=>
  obtain⟨z,y,xs,r,ob,es,ep,e,c⟩:=x
  exact⟨z,y,xs,Paired.mapP r fun p q z=>⟨z.1,ht _ _ z.2.1,z.2.2⟩,ob,es,ep,k _ _ (.inl rfl) e,c⟩
 |set S n=>obtain⟨ob,es,ep,t,e,c⟩:=x; exact⟨ob,es,ep,t,k _ _ (.inl rfl) e,c⟩
 |ins C dx fs=>
  obtain⟨d,z,ne,e,mA,⟨od,es,ep,e2,c⟩,r⟩:=x
  exact⟨ho _ d,z,ne,k _ _ (.inl rfl) e,mA,⟨od,es,ep,k _ _ (.inr d) e2,c⟩,r⟩
 |own y=>obtain⟨ob,e⟩:=x; exact⟨ob,k _ _ (.inl rfl) e⟩
 |xd fs=>obtain⟨mA,⟨od,es,ep,e,c⟩,r⟩:=x; exact⟨mA,⟨od,es,ep,k _ _ (.inl rfl) e,c⟩,r⟩
 |rng lo hi=>obtain⟨t,u,v,e⟩:=x; exact⟨t,u,v,k _ _ (.inl rfl) e⟩
 |frz ob u ih=>obtain⟨e,q⟩:=x; exact⟨k _ _ (.inl rfl) e,ih q⟩
 |tbl ps=>
  have e:h.get? a=some { cls:=.none,data:=.fields ps }:=x
  show h'.get? a=some { cls:=.none,data:=.fields ps }
  exact k a _ (.inl rfl) e
 |met f y=>
  have e:h.get? a=some (PySem.W.methodObj (.ref f) (.ref y)):=x
  show h'.get? a=some (PySem.W.methodObj (.ref f) (.ref y))
  exact k a _ (.inl rfl) e
 |ext φ=>obtain⟨p,⟨o,e⟩,st⟩:=x; exact⟨st _ _ p fun o q=>k _ _ (.inl rfl) q,⟨o,k _ _ (.inl rfl) e⟩,st⟩
theorem HOk.lt(x:HOk P w H h)(e:H a=some o):a<h.objs.size:=(x a o e).lt
theorem HOk.fresh(x:HOk P w H h)(e:h.objs.size≤a):H a=none:=by
 cases q:H a with
 |none=>rfl
 |some u=>exact absurd (Nat.lt_of_lt_of_le (x.lt q) e) (Nat.lt_irrefl _)
theorem HOk.kept(x:HOk P w H h)(k:∀ b u,h.get? b=some u→h'.get? b=some u):HOk P w H h':=fun a o e=>
 (x a o e).stay (fun b u _ q=>k b u q) (fun _ q=>q) fun _ _ q=>q
theorem HOk.laid(x:HOk P w H h)(k:∀ b u,h.get? b=some u→h'.get? b=some u)(hp:h.objs.size≤a)(new:ObjOk P w (upd H a o) h' a o):HOk P w (upd H a o) h':=fun b u e=>by
 have hn:=x.fresh hp
 by_cases hb:b=a
 ·subst hb; rw[upd_same]at e; cases e; exact new
 ·rw[upd_ne hb]at e
  exact(x b u e).stay (fun c v _ q=>k c v q) (fun c q=>by rw[upd_ne (ne_of_none q hn)]; exact q) fun c xs q=>by rw[upd_ne (ne_of_none q hn)]; exact q
end
def Rd(H:Hp)(a:Addr)(u:HO):Prop:=H a=some u∨∃ o,H a=some (.frz o u)
theorem Rd.of{H:Hp}{a:Addr}{u:HO}(h:H a=some u):Rd H a u:=.inl h
theorem Rd.ok{P:Program}{w:World}{H:Hp}{h:Heap}{a:Addr}{u:HO}(r:Rd H a u)(x:HOk P w H h):ObjOk P w H h a u:=by
 rcases r with r|⟨o,r⟩
 ·exact x a u r
 ·obtain⟨_,q⟩:=x a _ r
  exact q
noncomputable def Mut:Option HO→Prop
 |some (.lst _)=>True
 |some (.dK _)=>True
 |some (.dT _)=>True
 |some (.set _ _)=>True
 |some (.ins _ _ _)=>True
 |some (.ext _)=>True
 |_=>False
section
variable {P:Program}{w:World}{H:Hp}{h h':Heap}{x e:Addr}{o':HO}
theorem HOk.write(ok:HOk P w H h)(mu:Mut (H x))(he:e=x∨H e=some (.own x))(k:∀ b u,b≠e→h.get? b=some u→h'.get? b=some u)(heo:∃ u,h'.get? e=some u)
  (new:ObjOk P w (upd H x o') h' x o'):HOk P w (upd H x o') h':=fun b u q=>by
 have nown:∀ c y,H c=some (.own y)→c≠x:=fun c y r z=>by subst z; rw[r]at mu; exact mu
 have ntup:∀ c xs,H c=some (.tup xs)→c≠x:=fun c xs r z=>by subst z; rw[r]at mu; exact mu
 by_cases hb:b=x
 ·subst hb; rw[upd_same]at q; cases q; exact new
 ·rw[upd_ne hb]at q
  by_cases hbe:b=e
  ·have q':H b=some (.own x):=by
    rcases he with z|z
    ·exact absurd (hbe.trans z) hb
    ·rw[hbe]; exact z
   rw[q]at q'; cases q'
   obtain⟨v,hv⟩:=heo
   exact⟨v,by rw[hbe]; exact hv⟩
  ·refine(ok b u q).stay (fun c v hc r=>k c v ?_ r) (fun c r=>by rw[upd_ne (nown c b r)]; exact r) fun c xs r=>by rw[upd_ne (ntup c xs r)]; exact r
   rcases hc with rfl|hc
   ·exact hbe
   ·rintro rfl
    rcases he with z|z
    ·exact nown c b hc z
    ·rw[hc]at z; cases z; exact hb rfl
end
structure Un (fs ex:List Addr) (H H':Hp) (h h':Heap):Prop where
 keep:∀ b o,h.get? b=some o→H b=none→b ∉ fs→b ∉ ex→h'.get? b=some o
 slot:∀ b o,h.get? b=some o→H b=none→b∈fs→b ∉ ex→∃ sl,h'.get? b=some { o with slots:=sl }
 free:∀ b o,h.get? b=some o→H b=none→b ∉ ex→H' b=none
 there:∀ b o,h.get? b=some o→b ∉ ex→∃ o',h'.get? b=some o'
 tups:∀ b xs,H b=some (.tup xs)→H' b=some (.tup xs)
 frzs:∀ b o u,H b=some (.frz o u)→H' b=some (.frz o u)
 tbls:∀ b ps,H b=some (.tbl ps)→∃ more,H' b=some (.tbl (ps++more))
section
variable {fs fs' ex ex':List Addr}{H H1 H2:Hp}{h h1 h2 h':Heap}{a x e:Addr}{o:HO}
theorem Un.any(u:Un fs ex H H1 h h1){b:Addr}{ob:Obj}(q:h.get? b=some ob)(n:H b=none)(hx:b ∉ ex):∃ sl,h1.get? b=some { ob with slots:=sl }:=by
 by_cases hb:b∈fs
 ·exact u.slot b ob q n hb hx
 ·exact⟨ob.slots,u.keep b ob q n hb hx⟩
theorem Un.trans(a:Un fs ex H H1 h h1)(b:Un fs ex H1 H2 h1 h2):Un fs ex H H2 h h2 where
 keep:=fun c ob q n hc hx=>b.keep c ob (a.keep c ob q n hc hx) (a.free c ob q n hx) hc hx
 slot:=fun c ob q n hc hx=>by
  obtain⟨sl,e1⟩:=a.slot c ob q n hc hx
  obtain⟨sl',e2⟩:=b.slot c _ e1 (a.free c ob q n hx) hc hx
  exact⟨sl',e2⟩
 free:=fun c ob q n hx=>by
  obtain⟨o',e1⟩:=a.there c ob q hx
  exact b.free c o' e1 (a.free c ob q n hx) hx
 there:=fun c ob q hx=>by
  obtain⟨o',e1⟩:=a.there c ob q hx
  exact b.there c o' e1 hx
 tups:=fun c xs q=>b.tups c xs (a.tups c xs q)
 frzs:=fun c ob xs q=>b.frzs c ob xs (a.frzs c ob xs q)
 tbls:=fun c ps q=>by
  obtain⟨m1,e1⟩:=a.tbls c ps q
  obtain⟨m2,e2⟩:=b.tbls c _ e1
  exact⟨m1++m2,by rw[e2,Array.append_assoc]⟩
theorem Un.kept(k:∀ b u,h.get? b=some u→h'.get? b=some u):Un fs ex H H h h':=
 ⟨fun b ob q _ _ _=>k b ob q,fun b ob q _ _ _=>⟨ob.slots,k b ob q⟩,fun _ _ _ n _=>n,fun b ob q _=>⟨ob,k b ob q⟩,fun _ _ q=>q,fun _ _ _ q=>q,fun _ ps q=>⟨#[],by rw[q]; simp⟩⟩
theorem Un.refl:Un fs ex H H h h:=Un.kept fun _ _ q=>q
theorem Un.laid(k:∀ b u,h.get? b=some u→h'.get? b=some u)(hp:h.objs.size≤a)(hn:H a=none):Un fs ex H (upd H a o) h h' where
 keep:=fun b u q _ _ _=>k b u q
 slot:=fun b u q _ _ _=>⟨u.slots,k b u q⟩
 free:=fun b u q n _=>by rw[upd_ne (Nat.ne_of_lt (Nat.lt_of_lt_of_le (Heap.lt_size q) hp))]; exact n
 there:=fun b u q _=>⟨u,k b u q⟩
 tups:=fun b xs q=>by rw[upd_ne (ne_of_none q hn)]; exact q
 frzs:=fun b u xs q=>by rw[upd_ne (ne_of_none q hn)]; exact q
 tbls:=fun b ps q=>⟨#[],by rw[upd_ne (ne_of_none q hn),q]; simp⟩
theorem Un.write(mu:Mut (H x))(he:e=x∨H e=some (.own x))(k:∀ b u,b≠e→h.get? b=some u→h'.get? b=some u)(heo:∃ u,h'.get? e=some u):Un fs ex H (upd H x o) h h':=by
 have hx:∀ b,H b=none→b≠x:=fun b n z=>by subst z; rw[n]at mu; exact mu
 have hb:∀ b,H b=none→b≠e:=fun b n z=>by
  subst z
  rcases he with r|r
  ·exact hx b n r
  ·rw[n]at r; cases r
 have hm:∀ b u,H b=some u→¬ Mut (some u)→b≠x:=fun b u q nm z=>by subst z; rw[q]at mu; exact nm mu
 refine⟨fun b u q n _ _=>k b u (hb b n) q,fun b u q n _ _=>⟨u.slots,k b u (hb b n) q⟩,fun b u q n _=>by rw[upd_ne (hx b n)]; exact n,fun b u q _=>?_,
  fun b xs q=>by rw[upd_ne (hm b _ q fun z=>z)]; exact q,fun b u xs q=>by rw[upd_ne (hm b _ q fun z=>z)]; exact q,fun b ps q=>⟨#[],by rw[upd_ne (hm b _ q fun z=>z),q]; simp⟩⟩
 by_cases hbe:b=e
 ·subst hbe; exact heo
 ·exact⟨u,k b u hbe q⟩
theorem Un.mono(u:Un fs ex H H1 h h1)(hs:∀ b∈fs,b∈fs')(hx:∀ b∈ex,b∈ex'):Un fs' ex' H H1 h h1:=
 ⟨fun b ob q n hb he=>u.keep b ob q n (fun z=>hb (hs b z)) fun z=>he (hx b z),fun _ _ q n _ he=>u.any q n fun z=>he (hx _ z),fun b ob q n he=>u.free b ob q n fun z=>he (hx b z),fun b ob q he=>u.there b ob q fun z=>he (hx b z),u.tups,u.frzs,u.tbls⟩
end
noncomputable def trk(h:Heap)(H:Hp):List Addr:=(List.range h.objs.size).filter fun a=>(H a).isSome
noncomputable def hidT(h:Heap)(H:Hp):Heap:=PySem.W.hideAll h (trk h H)
theorem hidT_size(h:Heap)(H:Hp):(hidT h H).objs.size=h.objs.size:=PySem.W.hideAll_size _ _
theorem hidT_get{h:Heap}{H:Hp}{b:Addr}{o:Obj}(e:h.get? b=some o)(n:H b=none):(hidT h H).get? b=some o:=
 PySem.W.hideAll_get _ e fun hm=>by
  have q:(H b).isSome=true:=(List.mem_filter.mp hm).2
  rw[n]at q; simp at q
theorem of_hidT{h:Heap}{H:Hp}{b:Addr}{o:Obj}(e:(hidT h H).get? b=some o):h.get? b=some o∧H b=none:=by
 have e':h.get? b=some o:=PySem.W.of_hideAll (trk h H) e
 refine⟨e',?_⟩
 cases q:H b with
 |none=>rfl
 |some x=>
  have hm:b∈trk h H:=List.mem_filter.mpr ⟨List.mem_range.mpr (Heap.lt_size e'),by simp[q]⟩
  have z:(hidT h H).get? b=none:=PySem.W.hideAll_none (trk h H) hm
  rw[z]at e; cases e
noncomputable def allNews(g h:Heap)(L:Addr):List (Addr×Obj):=(List.range h.objs.size).filterMap fun a=>if a=L∨(g.get? a).isSome=true then none else(h.get? a).map fun o=>(a,o)
noncomputable def rest(g h:Heap)(L d:Addr):List (Addr×Obj):=(allNews g h L).filter fun p=>decide (p.1≠d)
end L2
namespace L2
open PySem PySem.Spec PyProof.Rows
structure Mod (K:PySem.W.Frag) (mg:Str→Option Value) (base:Heap):Prop where
 kin:K.In base
 glob:base.Ns mainGlobals mg
 blt:∃ mb,base.Ns builtinsNs mb∧∀ x:Str,x ≠ "__name__"→mb x=bootBuiltins x
 nolimit:base.NoLimit
structure Cx where
 prog:Program
 w:World
 K:PySem.W.Frag
 mg:Str→Option Value
 base:Heap
 A:Around
 N:List Str
 s₀:Shared
 H₀:Hp
 env:Env
 outer:List Env
 stack:List Env
 ex:List Addr
 fn:Str→Bool
 calm:Bool
 pn:List (Addr×Obj)
 xe:Value→Shared→Prop
noncomputable def frs(l:List Env):List Addr:=l.filterMap (·.frame)
noncomputable abbrev Cx.fs(X:Cx):List Addr:=frs X.outer
def Vis(sc:Scope)(x:Str):Prop:=sc.names.lookup x=some .local∨sc.names.lookup x=some .cell∨sc.names.lookup x=some .free
def Loc(sc:Scope)(x:Str):Prop:=sc.names.lookup x=some .local∨sc.names.lookup x=some .cell
def Look(env:Env)(h:Heap)(m:Str→Option Value)(x:Str)(u:Value):Prop:=
 (env.kindOf x=some .local∧m x=some u)∨((env.kindOf x=some .cell∨env.kindOf x=some .free)∧∃ c,env.cells.lookup x=some c∧h.IsCell c (some u))
structure Cx.Ok (X:Cx):Prop where
 mod:Mod X.K X.mg X.base
 kind:X.env.scope.kind=.function
 glob:X.env.globals=mainGlobals
 blt:X.env.builtins=builtinsNs
 above:X.s₀.heap.objs.size≤X.env.locals
 inj:∀ x y c,X.env.cells.lookup x=some c→X.env.cells.lookup y=some c→x=y
 has:∀ x,(X.env.kindOf x=some .cell∨X.env.kindOf x=some .free)→∃ c,X.env.cells.lookup x=some c
 cab:∀ x c,X.fn x=true→X.env.cells.lookup x=some c→X.s₀.heap.objs.size≤c
 hd:X.calm=true→X.A.handled=none
 frames:X.A.frames=some X.stack
 stk:X.stack=X.outer∨(X.stack=X.env::X.outer∧X.env.frame=some X.env.locals)
 exf:∀ b∈X.ex,b≠X.env.locals∧∀ x c,X.env.cells.lookup x=some c→c≠b
 bs:∀ b o,X.base.get? b=some o→X.s₀.heap.get? b=some o∧X.H₀ b=none
 bsz:X.base.objs.size≤X.s₀.heap.objs.size
 noex:∀ b o,X.base.get? b=some o→b ∉ X.ex
 exfs:∀ b∈X.ex,b ∉ X.fs
 funs:X.s₀.heap.FunFrames X.base X.outer
 frf:∀ b∈X.fs,X.H₀ b=none
structure Inv (X:Cx) (pins:List (Addr×Obj)) (σ:List (Option V)) (H:Hp) (s:Shared):Prop where
 ok:X.Ok
 os:s.os=X.s₀.os
 bare:AllBare s.gens
 base:Un X.fs X.ex X.H₀ H X.s₀.heap s.heap
 loc:∃ m,s.heap.Ns X.env.locals m∧∀ (i:Nat) (x:Str) (v:V),X.N[i]?=some x→σ[i]?=some (some v)→Vis X.env.scope x→∃ u,RelV v u∧Look X.env s.heap m x u
 cell:∀ x c,X.env.cells.lookup x=some c→∃ v,s.heap.IsCell c v
 free:H X.env.locals=none
 freeC:∀ x c,X.env.cells.lookup x=some c→H c=none
 pin:∀ p∈X.pn++pins,s.heap.get? p.1=some p.2∧H p.1=none∧p.1≠X.env.locals∧p.1 ∉ X.fs∧∀ v,p.2.data≠.cell v
 hok:HOk X.prog X.w H s.heap
 len:σ.length=X.N.length
section
variable {X:Cx}{pins:List (Addr×Obj)}{σ:List (Option V)}{H H':Hp}{s:Shared}{h':Heap}
theorem Cx.Ok.nofr(ok:X.Ok){b:Addr}{o:Obj}(e:X.base.get? b=some o):b ∉ X.fs:=fun hb=>by
 have:=(ok.funs.mem hb).1
 rw[e]at this; cases this
theorem Inv.bs(I:Inv X pins σ H s):∀ b o,X.base.get? b=some o→s.heap.get? b=some o∧H b=none:=fun b o e=>
 ⟨I.base.keep b o (I.ok.bs b o e).1 (I.ok.bs b o e).2 (I.ok.nofr e) (I.ok.noex b o e),I.base.free b o (I.ok.bs b o e).1 (I.ok.bs b o e).2 (I.ok.noex b o e)⟩
theorem Inv.bk(I:Inv X pins σ H s):∀ b o,X.base.get? b=some o→s.heap.get? b=some o:=fun b o e=>(I.bs b o e).1
theorem Inv.mod(I:Inv X pins σ H s):Mod X.K X.mg X.base:=I.ok.mod
theorem Inv.kIn(I:Inv X pins σ H s):X.K.In s.heap:=I.ok.mod.kin.keeps I.bk
theorem Inv.nolimit(I:Inv X pins σ H s):s.heap.NoLimit:=I.ok.mod.nolimit.keeps I.bk
theorem Inv.fr(I:Inv X pins σ H s):∃ m,Fr X.base X.env.locals s.heap m:=
 let ⟨m,hn,_⟩:=I.loc
 ⟨m,hn,I.bk,Nat.le_trans I.ok.bsz I.ok.above⟩
theorem Inv.lt(I:Inv X pins σ H s):X.env.locals<s.heap.objs.size:=let ⟨_,hn,_⟩:=I.loc; hn.lt
theorem Inv.sz(I:Inv X pins σ H s):X.s₀.heap.objs.size≤s.heap.objs.size:=Nat.le_trans I.ok.above (Nat.le_of_lt I.lt)
theorem Inv.nofs(I:Inv X pins σ H s){a:Addr}(h:s.heap.objs.size≤a):a ∉ X.fs:=fun hb=>by
 obtain⟨_,o,ho,_⟩:=I.ok.funs.mem hb
 exact absurd (Nat.lt_of_lt_of_le (Heap.lt_size ho) (Nat.le_trans I.sz h)) (Nat.lt_irrefl _)
theorem Inv.cne(I:Inv X pins σ H s):∀ x c,X.env.cells.lookup x=some c→c≠X.env.locals:=fun x c e z=>by
 obtain⟨v,o,ho,hd⟩:=I.cell x c e
 obtain⟨m,⟨o',es,ep,ho',hd',_⟩,_⟩:=I.loc
 rw[z,ho']at ho; cases ho; rw[hd']at hd; cases hd
theorem Inv.funs(I:Inv X pins σ H s):s.heap.FunFrames X.base X.outer:=by
 have all:∀ (l:List Env),(∀ b∈frs l,b∈X.fs)→X.s₀.heap.FunFrames X.base l→s.heap.FunFrames X.base l:=by
  intro l
  induction l with
  |nil=>intro _ _; trivial
  |cons env r ih=>
   intro hs hl
   obtain⟨hk,⟨L,o,hf,hn,ho,hd⟩,hr⟩:=hl
   have hL:L∈X.fs:=hs L (by unfold frs; rw[List.filterMap_cons,hf]; exact List.mem_cons_self)
   obtain⟨sl,e⟩:=I.base.slot L o ho (I.ok.frf L hL) hL fun z=>I.ok.exfs L z hL
   exact⟨hk,⟨L,_,hf,hn,e,hd⟩,ih (fun b hb=>hs b (by unfold frs; rw[List.filterMap_cons,hf]; exact List.mem_cons_of_mem _ hb)) hr⟩
 exact all X.outer (fun _ hb=>hb) I.ok.funs
theorem Inv.stack(I:Inv X pins σ H s):s.heap.FunFrames X.base X.stack:=by
 rcases I.ok.stk with e|⟨e,hf⟩
 ·rw[e]; exact I.funs
 ·rw[e]
  obtain⟨m,hn,_⟩:=I.loc
  refine .cons (by rw[I.ok.kind]; decide) hf hn ?_ I.funs
  exact Heap.get?_none_of_le (Nat.le_trans I.ok.bsz I.ok.above)
theorem Inv.stkSub(I:Inv X pins σ H s):∀ b∈frs X.stack,b∈X.env.locals::X.fs:=fun b hb=>by
 rcases I.ok.stk with e|⟨e,hf⟩
 ·rw[e]at hb; exact List.mem_cons_of_mem _ hb
 ·rw[e]at hb
  unfold frs at hb
  rw[List.filterMap_cons,hf]at hb
  exact hb
theorem Inv.stkFree(I:Inv X pins σ H s):∀ b∈frs X.stack,H b=none:=fun b hb=>by
 rcases List.mem_cons.mp (I.stkSub b hb) with e|hb
 ·rw[e]; exact I.free
 ·obtain⟨_,o,ho,_⟩:=I.ok.funs.mem hb
  exact I.base.free b o ho (I.ok.frf b hb) fun z=>I.ok.exfs b z hb
theorem Inv.step{g':Array GenState}{t':Nat}{d':Drawn}{ch:List Addr}(I:Inv X pins σ H s)
  (hch:∀ b∈ch,(b∈X.ex∨X.s₀.heap.objs.size≤b)∧b≠X.env.locals∧(∀ x c,X.env.cells.lookup x=some c→c≠b)∧∀ p∈X.pn++pins,p.1≠b)
  (keep:∀ b o,b≠X.env.locals→b ∉ X.fs→b ∉ ch→s.heap.get? b=some o→H b=none→h'.get? b=some o)
  (slot:∀ b o,b≠X.env.locals→b∈X.fs→b ∉ ch→s.heap.get? b=some o→H b=none→∃ sl,h'.get? b=some { o with slots:=sl }) (free:∀ b o,b ∉ ch→s.heap.get? b=some o→H b=none→H' b=none)
  (there:∀ b o,b ∉ ch→s.heap.get? b=some o→∃ o',h'.get? b=some o')
  (tups:∀ b xs,H b=some (.tup xs)→H' b=some (.tup xs)) (frzs:∀ b o u,H b=some (.frz o u)→H' b=some (.frz o u)) (tbls:∀ b ps,H b=some (.tbl ps)→∃ more,H' b=some (.tbl (ps++more)))
  (ns:∀ m,s.heap.Ns X.env.locals m→h'.Ns X.env.locals m) (hok:HOk X.prog X.w H' h') (hg:AllBare g') :
  Inv X pins σ H' { s with heap:=h',gens:=g',drawn:=d',toks:=t' }:=by
 have neL:∀ b o,X.s₀.heap.get? b=some o→b≠X.env.locals:=fun b o e=>Nat.ne_of_lt (Nat.lt_of_lt_of_le (Heap.lt_size e) I.ok.above)
 have neC:∀ b o,X.s₀.heap.get? b=some o→b ∉ X.ex→b ∉ ch:=fun b o e hx hb=>by
  rcases (hch b hb).1 with z|z
  ·exact hx z
  ·exact absurd (Nat.lt_of_lt_of_le (Heap.lt_size e) z) (Nat.lt_irrefl _)
 have cellK:∀ x c,X.env.cells.lookup x=some c→∀ v,s.heap.IsCell c v→h'.IsCell c v:=fun x c e v ⟨o,ho,hd⟩=>by
  have nch:c ∉ ch:=fun z=>(hch c z).2.2.1 x c e rfl
  by_cases hc:c∈X.fs
  ·obtain⟨sl,q⟩:=slot c o (I.cne x c e) hc nch ho (I.freeC x c e)
   exact⟨_,q,hd⟩
  ·exact⟨o,keep c o (I.cne x c e) hc nch ho (I.freeC x c e),hd⟩
 refine⟨I.ok,I.os,hg,⟨fun b o e n hb hx=>?_,fun b o e n hb hx=>?_,fun b o e n hx=>?_,fun b o e hx=>?_,fun b xs e=>tups b xs (I.base.tups b xs e),fun b o xs e=>frzs b o xs (I.base.frzs b o xs e),fun b ps e=>?_⟩,?_,fun x c e=>?_,?_,fun x c e=>?_,fun p hp=>?_,hok,I.len⟩
 ·exact keep b o (neL b o e) hb (neC b o e hx) (I.base.keep b o e n hb hx) (I.base.free b o e n hx)
 ·obtain⟨sl,e1⟩:=I.base.slot b o e n hb hx
  obtain⟨sl',e2⟩:=slot b _ (neL b o e) hb (neC b o e hx) e1 (I.base.free b o e n hx)
  exact⟨sl',e2⟩
 ·obtain⟨o',e1⟩:=I.base.there b o e hx
  exact free b o' (neC b o e hx) e1 (I.base.free b o e n hx)
 ·obtain⟨o',e1⟩:=I.base.there b o e hx
  exact there b o' (neC b o e hx) e1
 ·obtain⟨m1,e1⟩:=I.base.tbls b ps e
  obtain⟨m2,e2⟩:=tbls b _ e1
  exact⟨m1++m2,by rw[e2,Array.append_assoc]⟩
 ·obtain⟨m,hn,hl⟩:=I.loc
  refine⟨m,ns m hn,fun i x v e1 e2 e3=>?_⟩
  obtain⟨u,r,l⟩:=hl i x v e1 e2 e3
  refine⟨u,r,?_⟩
  rcases l with l|⟨k,c,e,z⟩
  ·exact .inl l
  ·exact .inr ⟨k,c,e,cellK x c e _ z⟩
 ·obtain⟨v,z⟩:=I.cell x c e
  exact⟨v,cellK x c e v z⟩
 ·obtain⟨m,⟨o,_,_,ho,_⟩,_⟩:=I.loc
  exact free _ o (fun z=>(hch _ z).2.1 rfl) ho I.free
 ·obtain⟨v,o,ho,hd⟩:=I.cell x c e
  exact free c o (fun z=>(hch c z).2.2.1 x c e rfl) ho (I.freeC x c e)
 ·obtain⟨e,n,ne,nf,d⟩:=I.pin p hp
  have nch:p.1 ∉ ch:=fun z=>(hch p.1 z).2.2.2 p hp rfl
  exact⟨keep p.1 p.2 ne nf nch e n,free p.1 p.2 nch e n,ne,nf,d⟩
theorem Inv.un{t':Nat}(I:Inv X pins σ H s)(u:Un X.fs [] H H' s.heap h')(hok:HOk X.prog X.w H' h'):Inv X pins σ H' { s with heap:=h',toks:=t' }:=by
 obtain⟨m,⟨o,es,ep,ho,r⟩,_⟩:=id I.loc
 obtain⟨sl,hL⟩:=u.any ho I.free (by simp)
 exact I.step (g':=s.gens) (d':=s.drawn) (ch:=[]) (fun _ z=>nomatch z) (fun b o _ hb _ e n=>u.keep b o e n hb (by simp)) (fun b o _ hb _ e n=>u.slot b o e n hb (by simp)) (fun b o _ e n=>u.free b o e n (by simp)) (fun b o _ e=>u.there b o e (by simp)) u.tups u.frzs u.tbls (fun m' hm=>by
  obtain⟨o',es',ep',ho',r'⟩:=hm
  rw[ho]at ho'; cases ho'
  exact⟨_,es',ep',hL,r'⟩) hok I.bare
theorem Inv.call{g':Array GenState}{t':Nat}{d':Drawn}{ch:List Addr}(I:Inv X pins σ H s)(u:Un (frs X.stack) ch H H' s.heap h')(hok:HOk X.prog X.w H' h')(hg:AllBare g')
  (hch:∀ b∈ch,(b∈X.ex∨X.s₀.heap.objs.size≤b)∧b≠X.env.locals∧(∀ x c,X.env.cells.lookup x=some c→c≠b)∧∀ p∈X.pn++pins,p.1≠b) :
  Inv X pins σ H' { s with heap:=h',gens:=g',drawn:=d',toks:=t' }:=by
 obtain⟨m,⟨o,es,ep,ho,r⟩,_⟩:=id I.loc
 obtain⟨sl,hL⟩:=u.any ho I.free fun z=>(hch _ z).2.1 rfl
 exact I.step (ch:=ch) hch (fun b o hL hb hc e n=>u.keep b o e n (fun z=>(List.mem_cons.mp (I.stkSub b z)).elim hL hb) hc) (fun b o _ _ hc e n=>u.any e n hc) (fun b o hc e n=>u.free b o e n hc) (fun b o hc e=>u.there b o e hc) u.tups u.frzs u.tbls (fun m' hm=>by
  obtain⟨o',es',ep',ho',r'⟩:=hm
  rw[ho]at ho'; cases ho'
  exact⟨_,es',ep',hL,r'⟩) hok hg
theorem Inv.turned{t':Nat}{it:Addr}(I:Inv X pins σ H s)(k:∀ b o,b≠it→s.heap.get? b=some o→h'.get? b=some o)(hn:H it=none)(hL:it≠X.env.locals)
  (h1:it∈X.ex∨X.s₀.heap.objs.size≤it) (h2:∀ x c,X.env.cells.lookup x=some c→c≠it) (h3:∀ p∈X.pn++pins,p.1≠it):Inv X pins σ H { s with heap:=h',toks:=t' }:=by
 have nit:∀ b u,H b=some u→b≠it:=fun b u e z=>by rw[z,hn]at e; cases e
 refine I.step (g':=s.gens) (d':=s.drawn) (ch:=[it]) (fun b hb=>?_) (fun b o _ _ hc e _=>k b o (fun z=>hc (by simp[z])) e) (fun b o _ _ hc e _=>⟨o.slots,k b o (fun z=>hc (by simp[z])) e⟩) (fun _ _ _ _ n=>n)
  (fun b o hc e=>⟨o,k b o (fun z=>hc (by simp[z])) e⟩) (fun _ _ e=>e) (fun _ _ _ e=>e) (fun b ps e=>⟨#[],by rw[e]; simp⟩) (fun m hm=>?_) (fun b u e=>?_) I.bare
 ·have e:b=it:=by simpa using hb
  subst e
  exact⟨h1,hL,h2,h3⟩
 ·obtain⟨o,es,ep,ho,r⟩:=hm
  exact⟨o,es,ep,k _ o (Ne.symm hL) ho,r⟩
 ·refine(I.hok b u e).stay (fun c v hc q=>k c v ?_ q) (fun _ q=>q) fun _ _ q=>q
  rcases hc with z|z
  ·rw[z]; exact nit b u e
  ·exact nit c _ z
theorem Inv.tok(I:Inv X pins σ H s)(t:Nat):Inv X pins σ H { s with toks:=t }:=I.un (h':=s.heap) (t':=t) Un.refl I.hok
theorem Inv.kept{t':Nat}(I:Inv X pins σ H s)(k:∀ b u,s.heap.get? b=some u→h'.get? b=some u):Inv X pins σ H { s with heap:=h',toks:=t' }:=I.un (Un.kept k) (I.hok.kept k)
theorem Inv.laid{a:Addr}{o:HO}{t':Nat}(I:Inv X pins σ H s)(k:∀ b u,s.heap.get? b=some u→h'.get? b=some u)(hp:s.heap.objs.size≤a)(new:ObjOk X.prog X.w (upd H a o) h' a o):
  Inv X pins σ (upd H a o) { s with heap:=h',toks:=t' }:=I.un (Un.laid k hp (I.hok.fresh hp)) (I.hok.laid k hp new)
theorem Inv.write{x e:Addr}{o:HO}{t':Nat}(I:Inv X pins σ H s)(mu:Mut (H x))(he:e=x∨H e=some (.own x))(k:∀ b u,b≠e→s.heap.get? b=some u→h'.get? b=some u)(heo:∃ u,h'.get? e=some u)
  (new:ObjOk X.prog X.w (upd H x o) h' x o):Inv X pins σ (upd H x o) { s with heap:=h',toks:=t' }:=I.un (Un.write mu he k heo) (I.hok.write mu he k heo new)
theorem Inv.pins_of{pins':List (Addr×Obj)}(I:Inv X pins σ H s)(h:∀ p∈pins',s.heap.get? p.1=some p.2∧H p.1=none∧p.1≠X.env.locals∧p.1 ∉ X.fs∧∀ v,p.2.data≠.cell v):Inv X pins' σ H s:=
 ⟨I.ok,I.os,I.bare,I.base,I.loc,I.cell,I.free,I.freeC,fun p hp=>(List.mem_append.mp hp).elim (fun z=>I.pin p (List.mem_append_left _ z)) (h p),I.hok,I.len⟩
theorem nodup_ix{N:List Str}(hN:N.Nodup){i j:Nat}{x:Str}(a:N[i]?=some x)(b:N[j]?=some x):i=j:=by
 obtain⟨h1,e1⟩:=List.getElem?_eq_some_iff.mp a
 obtain⟨h2,e2⟩:=List.getElem?_eq_some_iff.mp b
 exact(List.getElem_inj hN).mp (e1.trans e2.symm)
theorem store_ok2{M:Model}{A:Around}{E:Value→Shared→Prop}{i:Nat}{x:Str}{v:V}{u:Value}{Q:Unit→Shared→Prop}(I:Inv X pins σ H s)(hN:X.N.Nodup)(hi:X.N[i]?=some x)(hx:Loc X.env.scope x)(r:RelV v u)
  (h:∀ s',Inv X pins (σ.set i (some v)) H s'→(∃ a,Heap.SameBut a s.heap s'.heap∧(a=X.env.locals∨X.env.cells.lookup x=some a))→Q () s') (hf:X.fn x=true∨X.env.scope.names.lookup x=some .local):wpAny M A (storeName X.env x u) Q E s:=by
 obtain⟨m,hn,hl⟩:=id I.loc
 have hcls:(X.env.scope.kind==.class||(X.env.scope.kind==.module&&X.env.locals != X.env.globals))=false:=by rw[I.ok.kind]; rfl
 have hiσ:i<σ.length:=by rw[I.len]; exact(List.getElem?_eq_some_iff.mp hi).1
 have cne:=I.cne
 have tracked:∀ {a:Addr}{h':Heap},(∃ o,s.heap.get? a=some o∧H a=none)→Heap.SameBut a s.heap h'→HOk X.prog X.w H h':=fun {a h'} ha hs b ob e=>by
  obtain⟨_,_,hfree⟩:=ha
  refine(I.hok b ob e).stay (fun c w' hc q=>(hs.2 c ?_).trans q) (fun _ q=>q) fun _ _ q=>q
  rintro rfl
  rcases hc with rfl|hc
  ·rw[hfree]at e; cases e
  ·rw[hfree]at hc; cases hc
 rcases hx with hk|hk
 ·refine wpAny_storeName_local hk hn (fun h' hn' hs=>?_) hcls
  obtain⟨oL,_,_,hoL,_⟩:=id hn
  refine h _ ⟨I.ok,I.os,I.bare,⟨fun b o e n hb hx=>?_,fun b o e n hb hx=>?_,I.base.free,fun b o e hx=>?_,I.base.tups,I.base.frzs,I.base.tbls⟩,⟨_,hn',fun j y v' e1 e2 e3=>?_⟩,fun y c e=>?_,I.free,I.freeC,fun p hp=>?_,tracked ⟨oL,hoL,I.free⟩ hs,by simpa using I.len⟩ ⟨_,hs,.inl rfl⟩
  ·exact(hs.2 b (Nat.ne_of_lt (Nat.lt_of_lt_of_le (Heap.lt_size e) I.ok.above))).trans (I.base.keep b o e n hb hx)
  ·obtain⟨sl,e1⟩:=I.base.slot b o e n hb hx
   exact⟨sl,(hs.2 b (Nat.ne_of_lt (Nat.lt_of_lt_of_le (Heap.lt_size e) I.ok.above))).trans e1⟩
  ·obtain⟨o',e1⟩:=I.base.there b o e hx
   exact⟨o',(hs.2 b (Nat.ne_of_lt (Nat.lt_of_lt_of_le (Heap.lt_size e) I.ok.above))).trans e1⟩
  ·by_cases hj:j=i
   ·subst hj
    rw[hi]at e1; cases e1
    rw[List.getElem?_set_self hiσ]at e2
    cases e2
    exact⟨u,r,.inl ⟨hk,by simp⟩⟩
   ·rw[List.getElem?_set_ne (Ne.symm hj)]at e2
    obtain⟨u',r',q⟩:=hl j y v' e1 e2 e3
    refine⟨u',r',?_⟩
    rcases q with⟨k,e⟩|⟨k,c,e,z⟩
    ·refine .inl ⟨k,?_⟩
     have:y≠x:=fun e=>hj (nodup_ix hN e1 (e▸hi))
     simp[this,e]
    ·exact .inr ⟨k,c,e,z.sameBut hs (cne y c e)⟩
  ·obtain⟨w',z⟩:=I.cell y c e
   exact⟨w',z.sameBut hs (cne y c e)⟩
  ·obtain⟨e,n,ne,nf,d⟩:=I.pin p hp
   exact⟨(hs.2 p.1 ne).trans e,n,ne,nf,d⟩
 ·have hfn:X.fn x=true:=by
   rcases hf with z|z
   ·exact z
   ·rw[z]at hk; cases hk
  obtain⟨c,hc⟩:=I.ok.has x (.inl hk)
  obtain⟨w',z⟩:=I.cell x c hc
  refine wpAny_storeName_cell I.ok.kind hk hc z (fun h' hc' hs=>?_)
  obtain⟨oc,hoc,hocd⟩:=id z
  refine h { s with heap:=h' } ⟨I.ok,I.os,I.bare,⟨fun b o e n hb hx=>?_,fun b o e n hb hx=>?_,I.base.free,fun b o e hx=>?_,I.base.tups,I.base.frzs,I.base.tbls⟩,⟨m,hn.sameBut hs (Ne.symm (cne x c hc)),fun j y v' e1 e2 e3=>?_⟩,fun y c' e=>?_,I.free,I.freeC,fun p hp=>?_,tracked ⟨oc,hoc,I.freeC x c hc⟩ hs,by simpa using I.len⟩ ⟨c,hs,.inr hc⟩
  ·exact(hs.2 b (Nat.ne_of_lt (Nat.lt_of_lt_of_le (Heap.lt_size e) (I.ok.cab x c hfn hc)))).trans (I.base.keep b o e n hb hx)
  ·obtain⟨sl,e1⟩:=I.base.slot b o e n hb hx
   exact⟨sl,(hs.2 b (Nat.ne_of_lt (Nat.lt_of_lt_of_le (Heap.lt_size e) (I.ok.cab x c hfn hc)))).trans e1⟩
  ·obtain⟨o',e1⟩:=I.base.there b o e hx
   exact⟨o',(hs.2 b (Nat.ne_of_lt (Nat.lt_of_lt_of_le (Heap.lt_size e) (I.ok.cab x c hfn hc)))).trans e1⟩
  ·by_cases hj:j=i
   ·subst hj
    rw[hi]at e1; cases e1
    rw[List.getElem?_set_self hiσ]at e2
    cases e2
    exact⟨u,r,.inr ⟨.inl hk,c,hc,hc'⟩⟩
   ·rw[List.getElem?_set_ne (Ne.symm hj)]at e2
    obtain⟨u',r',q⟩:=hl j y v' e1 e2 e3
    refine⟨u',r',?_⟩
    rcases q with q|⟨k,c',e,z'⟩
    ·exact .inl q
    ·refine .inr ⟨k,c',e,z'.sameBut hs ?_⟩
     rintro rfl
     exact hj (nodup_ix hN e1 (I.ok.inj _ _ _ e hc▸hi))
  ·by_cases hcc:c'=c
   ·subst hcc; exact⟨_,hc'⟩
   ·obtain⟨w2,z2⟩:=I.cell y c' e
    exact⟨w2,z2.sameBut hs hcc⟩
  ·obtain⟨e,n,ne,nf,d⟩:=I.pin p hp
   refine⟨(hs.2 p.1 ?_).trans e,n,ne,nf,d⟩
   intro q
   rw[q,hoc]at e
   have q':oc=p.2:=Option.some.inj e
   exact d w' (by rw[← q']; exact hocd)
theorem store_ok{M:Model}{A:Around}{E:Value→Shared→Prop}{i:Nat}{x:Str}{v:V}{u:Value}{Q:Unit→Shared→Prop}(I:Inv X pins σ H s)(hN:X.N.Nodup)(hi:X.N[i]?=some x)(hx:Loc X.env.scope x)(r:RelV v u)
  (h:∀ s',Inv X pins (σ.set i (some v)) H s'→Q () s') (hf:X.fn x=true∨X.env.scope.names.lookup x=some .local):wpAny M A (storeName X.env x u) Q E s:=
 store_ok2 I hN hi hx r (fun s' I' _=>h s' I') hf
theorem Inv.call'{s':Shared}{ch:List Addr}(I:Inv X pins σ H s)(ho:s'.os=s.os)(u:Un (frs X.stack) ch H H' s.heap s'.heap)(hok:HOk X.prog X.w H' s'.heap)(hg:AllBare s'.gens)
  (hch:∀ b∈ch,(b∈X.ex∨X.s₀.heap.objs.size≤b)∧b≠X.env.locals∧(∀ x c,X.env.cells.lookup x=some c→c≠b)∧∀ p∈X.pn++pins,p.1≠b):Inv X pins σ H' s':=by
 obtain⟨h',g',d',t',o'⟩:=s'
 have e:o'=s.os:=ho
 subst e
 exact I.call (g':=g') (t':=t') (d':=d') u hok hg hch
end
abbrev XK:=Value→Option Addr→Hp→Prop
abbrev St:=List (Option V)
abbrev VK:=V→Hp→Prop
abbrev TE:=St→Hp→VK→Prop
abbrev TT:=St→Hp→(Bool→Hp→Prop)→Prop
abbrev TA:=St→Hp→(List V→Hp→Prop)→Prop
structure Ends where
 nx:St→Hp→Prop
 rt:VK
 bk:St→Hp→Prop:=fun _ _=>False
 ct:St→Hp→Prop:=fun _ _=>False
abbrev TS:=Ends→St→Hp→Prop
def EP(X:Cx)(pins:List (Addr×Obj))(σ:St)(Q:VK)(u:Value)(s':Shared):Prop:=∃ v H',Inv X pins σ H' s'∧RelV v u∧Q v H'
def TP(X:Cx)(pins:List (Addr×Obj))(σ:St)(Q:Bool→Hp→Prop)(b:Bool)(s':Shared):Prop:=∃ H',Inv X pins σ H' s'∧Q b H'
def AP(X:Cx)(pins:List (Addr×Obj))(σ:St)(Q:List V→Hp→Prop)(us:List Value)(s':Shared):Prop:=∃ vs H',Inv X pins σ H' s'∧Vals vs us∧Q vs H'
def SP(X:Cx)(pins:List (Addr×Obj))(D:Ends)(f:Flow)(s':Shared):Prop:=
 match f with
 |.next=>∃ σ' H',Inv X pins σ' H' s'∧D.nx σ' H'
 |.brk=>∃ σ' H',Inv X pins σ' H' s'∧D.bk σ' H'
 |.cont=>∃ σ' H',Inv X pins σ' H' s'∧D.ct σ' H'
 |.ret u=>∃ v σ' H',Inv X pins σ' H' s'∧RelV v u∧D.rt v H'
def PE(X:Cx)(e:Expr)(t:TE):Prop:=
 ∀ (pins:List (Addr×Obj)) (s:Shared) (σ:St) (H:Hp) (Q:VK),Inv X pins σ H s→t σ H Q→wpAny (model X.prog X.w) X.A (eval e X.env) (EP X pins σ Q) X.xe s
def PT(X:Cx)(e:Expr)(t:TT):Prop:=
 ∀ (pins:List (Addr×Obj)) (s:Shared) (σ:St) (H:Hp) (Q:Bool→Hp→Prop),Inv X pins σ H s→t σ H Q→wpAny (model X.prog X.w) X.A (isTrue e X.env (eval e X.env)) (TP X pins σ Q) X.xe s
def PW(X:Cx)(e:Expr)(t:TT):Prop:=
 ∀ (whole:Sem Value) (pins:List (Addr×Obj)) (s:Shared) (σ:St) (H:Hp) (Q:Bool→Hp→Prop),Inv X pins σ H s→t σ H Q→wpAny (model X.prog X.w) X.A (isTrue e X.env whole) (TP X pins σ Q) X.xe s
theorem PW.pt{X:Cx}{e:Expr}{t:TT}(h:PW X e t):PT X e t:=h _
def PA(X:Cx)(es:List Expr)(t:TA):Prop:=
 ∀ (pos:Pos) (pins:List (Addr×Obj)) (s:Shared) (σ:St) (H:Hp) (Q:List V→Hp→Prop),Inv X pins σ H s→t σ H Q→wpAny (model X.prog X.w) X.A (spliced (backTo pos (starEach es X.env))) (AP X pins σ Q) X.xe s
def PS(X:Cx)(st:Stmt)(t:TS):Prop:=
 ∀ (pins:List (Addr×Obj)) (s:Shared) (σ:St) (H:Hp) (D:Ends),Inv X pins σ H s→t D σ H→wpAny (model X.prog X.w) X.A (exec st X.env) (SP X pins D) X.xe s
def PSs(X:Cx)(st:List Stmt)(t:TS):Prop:=
 ∀ (pins:List (Addr×Obj)) (s:Shared) (σ:St) (H:Hp) (D:Ends),Inv X pins σ H s→t D σ H→wpAny (model X.prog X.w) X.A (execs st X.env) (SP X pins D) X.xe s
theorem thn{α:Type}{t:Sem α}{Q Q':α→Shared→Prop}{M:Model}{A:Around}{E:Value→Shared→Prop}{s:Shared}(h:wpAny M A t Q E s)(hQ:∀ a s,Q a s→Q' a s):wpAny M A t Q' E s:=wpAny_mono h hQ fun _ _ x=>x
end L2
namespace L2
open PySem PySem.Spec PyProof.Rows
section
variable {X:Cx}
theorem bin{a b:Expr}{ta tb:TE}(ha:PE X a ta)(hb:PE X b tb){pins:List (Addr×Obj)}{s:Shared}{σ:St}{H:Hp}{R:V→V→Hp→Prop}(I:Inv X pins σ H s)(h:ta σ H fun x H1=>tb σ H1 fun y H2=>R x y H2)
  {α:Type}{Q:α→Shared→Prop}{f:Value→Value→Sem α}
  (hf:∀ v u s2 x y H2,Inv X pins σ H2 s2→RelV x v→RelV y u→R x y H2→wpAny (model X.prog X.w) X.A (f v u) Q X.xe s2) :
  wpAny (model X.prog X.w) X.A (eval a X.env) (fun v s₁=>wpAny (model X.prog X.w) X.A (eval b X.env) (fun u s₂=>wpAny (model X.prog X.w) X.A (f v u) Q X.xe s₂) X.xe s₁) X.xe s:=by
 refine thn (ha pins s σ H _ I h) fun v s1 ⟨x,H1,I1,r1,q1⟩=>?_
 refine thn (hb pins s1 σ H1 _ I1 q1) fun u s2 ⟨y,H2,I2,r2,q2⟩=>?_
 exact hf v u s2 x y H2 I2 r1 r2 q2
noncomputable def tVar(i:Nat):TE:=fun σ H Q=>∃ v,σ[i]?=some (some v)∧Q v H
noncomputable def tC(v:V):TE:=fun _ H Q=>Q v H
theorem pe_var{i:Nat}{x:Str}{pos:Pos}(hN:X.N[i]?=some x)(hv:Vis X.env.scope x)(hd:(x==("__debug__" : Str))=false:=by decide)(hcd:(x==("__classdict__" : Str))=false:=by decide):PE X (.Name x pos) (tVar i):=by
 intro pins s σ H Q I h
 obtain⟨v,e,h⟩:=h
 obtain⟨m,hn,hl⟩:=I.loc
 obtain⟨u,r,l⟩:=hl i x v hN e hv
 have fin:EP X pins σ Q u s:=⟨v,H,I,r,h⟩
 rcases l with⟨hk,hm⟩|⟨hk,c,hc,hcell⟩
 ·exact wpAny_Name (wpAny_loadName_local I.ok.kind hk hn hm fin) hd
 ·rcases hk with hk|hk
  ·exact wpAny_Name (wpAny_loadName_cell I.ok.kind hk hc hcell fin) hd
  ·exact wpAny_Name (wpAny_loadName_free I.ok.kind hk hc hcell fin hcd) hd
theorem pe_int{i j pos}:PE X (.Constant (.int i) j pos) (tC (.int i)):=fun _ _ _ H _ I h=>wpAny_Constant_int ⟨.int i,H,I.tok _,⟨_,rfl⟩,h⟩
theorem pe_bl{b j pos}:PE X (.Constant (.bool b) j pos) (tC (.bl b)):=fun _ _ _ H _ I h=>Constant_bool ⟨.bl b,H,I,rfl,h⟩
theorem pe_non{j pos}:PE X (.Constant .none j pos) (tC .non):=fun _ _ _ H _ I h=>Constant_none ⟨.non,H,I,rfl,h⟩
theorem pe_str{x j pos}:PE X (.Constant (.str x) j pos) (tC (.str x)):=fun _ _ _ H _ I h=>Calls.Constant_str ⟨.str x,H,I.tok _,⟨_,rfl⟩,h⟩
def Gl(X:Cx)(x:Str):Prop:=X.env.kindOf x=some .globalImplicit
theorem ld_glob{E:Value→Shared→Prop}{pins:List (Addr×Obj)}{s:Shared}{σ:St}{H:Hp}{x:Str}{u:Value}{pos:Pos}{Q:Value→Shared→Prop}(I:Inv X pins σ H s)(hg:Gl X x)(hm:X.mg x=some u)(h:Q u s)
  (hd:(x==("__debug__" : Str))=false:=by decide):wpAny (model X.prog X.w) X.A (eval (.Name x pos) X.env) Q E s:=
 Calls.Name_function_global I.ok.kind hg (Calls.loadGlobal_global (by rw[I.ok.glob]; exact I.mod.glob.keeps I.bk) hm h) hd
theorem ld_blt{E:Value→Shared→Prop}{pins:List (Addr×Obj)}{s:Shared}{σ:St}{H:Hp}{x:Str}{u:Value}{pos:Pos}{Q:Value→Shared→Prop}(I:Inv X pins σ H s)(hg:Gl X x)(hm:X.mg x=none)(hv:bootBuiltins x=some u)(h:Q u s)
  (hn:x ≠ "__name__":=by decide) (hd:(x==("__debug__" : Str))=false:=by decide):wpAny (model X.prog X.w) X.A (eval (.Name x pos) X.env) Q E s:=by
 obtain⟨mb,h1,h2⟩:=I.mod.blt
 exact Calls.Name_function_global I.ok.kind hg (Calls.loadGlobal_builtin (by rw[I.ok.glob]; exact I.mod.glob.keeps I.bk) hm (by rw[I.ok.blt]; exact h1.keeps I.bk) ((h2 x hn).trans hv) h) hd
theorem pe_glob{x:Str}{v:V}{u:Value}{pos:Pos}(hg:Gl X x)(hm:X.mg x=some u)(r:RelV v u)(hd:(x==("__debug__" : Str))=false:=by decide):PE X (.Name x pos) (tC v):=
 fun _ _ _ H _ I h=>ld_glob I hg hm ⟨v,H,I,r,h⟩ hd
theorem pe_bltn{x:Str}{v:V}{u:Value}{pos:Pos}(hg:Gl X x)(hm:X.mg x=none)(hv:bootBuiltins x=some u)(r:RelV v u)(hn:x ≠ "__name__":=by decide)(hd:(x==("__debug__" : Str))=false:=by decide):PE X (.Name x pos) (tC v):=
 fun _ _ _ H _ I h=>ld_blt I hg hm hv ⟨v,H,I,r,h⟩ hn hd
def t2I(ta tb:TE)(k:Int→Int→Hp→Prop):St→Hp→Prop:=fun σ H=>ta σ H fun x H1=>tb σ H1 fun y H2=>∃ i j,x=.int i∧y=.int j∧k i j H2
variable {a b:Expr}{ta tb:TE}{pos:Pos}
noncomputable def tCmp(p:Int→Int→Bool)(ta tb:TE):TE:=fun σ H Q=>t2I ta tb (fun i j H2=>Q (.bl (p i j)) H2) σ H
variable {tA tB':TT}{rest:List Expr}
noncomputable def tAnd(t u:TT):TT:=fun σ H Q=>t σ H fun c H1=>if c=true then u σ H1 Q else Q false H1
noncomputable def tOr(t u:TT):TT:=fun σ H Q=>t σ H fun c H1=>if c=true then Q true H1 else u σ H1 Q
noncomputable def tNot(t:TT):TT:=fun σ H Q=>t σ H fun c H1=>Q (!c) H1
theorem pw_and1(ha:PT X a tA):PW X (.BoolOp .And [a] pos) tA:=by
 intro wh pins s σ H Q I h
 refine isTrue_and (thn (ha pins s σ H Q I h) fun c s1 e=>?_)
 cases c with
 |true=>exact isTrue_and_nil e
 |false=>exact e
theorem pw_or1(ha:PT X a tA):PW X (.BoolOp .Or [a] pos) tA:=by
 intro wh pins s σ H Q I h
 refine isTrue_or (thn (ha pins s σ H Q I h) fun c s1 e=>?_)
 cases c with
 |false=>exact isTrue_or_nil e
 |true=>exact e
theorem pw_and(ha:PT X a tA)(hb:PW X (.BoolOp .And (b::rest) pos) tB'):PW X (.BoolOp .And (a::b::rest) pos) (tAnd tA tB'):=by
 intro wh pins s σ H Q I h
 refine isTrue_and (thn (ha pins s σ H _ I h) fun c s1 ⟨H1,I1,q1⟩=>?_)
 cases c with
 |true=>exact hb wh pins s1 σ H1 Q I1 q1
 |false=>exact⟨H1,I1,q1⟩
theorem pw_or(ha:PT X a tA)(hb:PW X (.BoolOp .Or (b::rest) pos) tB'):PW X (.BoolOp .Or (a::b::rest) pos) (tOr tA tB'):=by
 intro wh pins s σ H Q I h
 refine isTrue_or (thn (ha pins s σ H _ I h) fun c s1 ⟨H1,I1,q1⟩=>?_)
 cases c with
 |true=>exact⟨H1,I1,q1⟩
 |false=>exact hb wh pins s1 σ H1 Q I1 q1
theorem pt_not(ha:PT X a tA):PT X (.UnaryOp .Not a pos) (tNot tA):=by
 intro pins s σ H Q I h
 exact isTrue_not (ha pins s σ H (fun c H1=>Q (!c) H1) I h)
noncomputable def tAndV(ta tb:TE):TE:=fun σ H Q=>ta σ H fun x H1=>∃ c,x=.bl c∧if c=true then tb σ H1 Q else Q (.bl false) H1
noncomputable def tOrV(ta tb:TE):TE:=fun σ H Q=>ta σ H fun x H1=>∃ c,x=.bl c∧if c=true then Q (.bl true) H1 else tb σ H1 Q
noncomputable def tNotV(ta:TE):TE:=fun σ H Q=>ta σ H fun x H1=>∃ c,x=.bl c∧Q (.bl (!c)) H1
theorem pe_one{op}{t:TE}(h:PE X a t):PE X (.BoolOp op [a] pos) t:=fun pins s σ H Q I hw=>BoolOp_one (h pins s σ H Q I hw)
theorem pe_and(ha:PE X a ta)(hb:PE X (.BoolOp .And (b::rest) pos) tb):PE X (.BoolOp .And (a::b::rest) pos) (tAndV ta tb):=by
 intro pins s σ H Q I h
 refine BoolOp_and (thn (ha pins s σ H _ I h) fun v s1 ⟨x,H1,I1,r1,q1⟩=>?_)
 obtain⟨c,rfl,q1⟩:=q1
 cases r1
 refine wpAny_truthy_bool ?_
 cases c with
 |true=>exact hb pins s1 σ H1 Q I1 q1
 |false=>exact⟨.bl false,H1,I1,rfl,q1⟩
theorem pe_or(ha:PE X a ta)(hb:PE X (.BoolOp .Or (b::rest) pos) tb):PE X (.BoolOp .Or (a::b::rest) pos) (tOrV ta tb):=by
 intro pins s σ H Q I h
 refine BoolOp_or (thn (ha pins s σ H _ I h) fun v s1 ⟨x,H1,I1,r1,q1⟩=>?_)
 obtain⟨c,rfl,q1⟩:=q1
 cases r1
 refine wpAny_truthy_bool ?_
 cases c with
 |false=>exact hb pins s1 σ H1 Q I1 q1
 |true=>exact⟨.bl true,H1,I1,rfl,q1⟩
theorem pe_not(ha:PE X a ta):PE X (.UnaryOp .Not a pos) (tNotV ta):=by
 intro pins s σ H Q I h
 refine UnaryOp_ (thn (ha pins s σ H _ I h) fun v s1 ⟨x,H1,I1,r1,q1⟩=>?_)
 obtain⟨c,rfl,q1⟩:=q1
 cases r1
 exact not_of (wpAny_truthy_bool ⟨.bl (!c),H1,I1,rfl,q1⟩)
noncomputable def tIf(t:TT)(ta tb:TE):TE:=fun σ H Q=>t σ H fun c H1=>if c=true then ta σ H1 Q else tb σ H1 Q
theorem pe_ifExp{c:Expr}(hc:PT X c tA)(ha:PE X a ta)(hb:PE X b tb):PE X (.IfExp c a b pos) (tIf tA ta tb):=by
 intro pins s σ H Q I h
 refine wpAny_IfExp (thn (hc pins s σ H _ I h) fun d s1 ⟨H1,I1,q1⟩=>?_)
 cases d with
 |true=>exact ha pins s1 σ H1 Q I1 q1
 |false=>exact hb pins s1 σ H1 Q I1 q1
end
end L2
namespace L2
open PySem PySem.Spec PyProof.Rows
def SqL(K:PySem.W.Frag)(H:Hp)(a:Addr)(xs:List V):Prop:=
 Rd H a (.lst xs)∨
  ∃ (o:Obj) (its:Array Value) (n:Nat),K.lookup a=some o∧o.cls=.type "list"∧o.dict=none∧o.data=.seq its n∧its.size≤sizeLine∧Vals xs its.toList
def SqT(K:PySem.W.Frag)(H:Hp)(a:Addr)(xs:List V):Prop:=
 Rd H a (.tup xs)∨
  ∃ (o:Obj) (its:Array Value) (n:Nat),K.lookup a=some o∧o.cls=.type "tuple"∧o.data=.seq its n∧its.size≤sizeLine∧Vals xs its.toList
noncomputable def absV:Value→Option V
 |.none=>some .non
 |.bool b=>some (.bl b)
 |.int i _=>some (.int i)
 |.str x _=>some (.str x)
 |.bytes b _=>some (.byt b)
 |.float b _=>some (.flt b)
 |.ref a=>some (.ref a)
 |.type n=>some (.ty n)
 |_=>none
theorem RelV.abs{x:V}{u:Value}(r:RelV x u):absV u=some x:=by
 cases x with
 |non=>cases r; rfl
 |bl _=>cases r; rfl
 |int _=>obtain⟨t,rfl⟩:=r; rfl
 |str _=>obtain⟨t,rfl⟩:=r; rfl
 |byt _=>obtain⟨t,rfl⟩:=r; rfl
 |flt _=>obtain⟨t,rfl⟩:=r; rfl
 |ref _=>cases r; rfl
 |ty _=>cases r; rfl
theorem RelV.inj{x y:V}{u:Value}(r:RelV x u)(q:RelV y u):x=y:=Option.some.inj (r.abs.symm.trans q.abs)
theorem Vals.inj:∀ {xs ys:List V}{us:List Value},Vals xs us→Vals ys us→xs=ys
 |_,_,_,.nil,.nil=>rfl
 |_,_,_,.cons r t,.cons r' t'=>by rw[r.inj r',Vals.inj t t']
section
variable {X:Cx}{pins:List (Addr×Obj)}{σ:St}{H:Hp}{s:Shared}{a:Addr}{xs ys:List V}
theorem SqL.of{K:PySem.W.Frag}(h:H a=some (.lst xs)):SqL K H a xs:=.inl (.inl h)
theorem SqT.of{K:PySem.W.Frag}(h:H a=some (.tup xs)):SqT K H a xs:=.inl (.inl h)
theorem Inv.list(I:Inv X pins σ H s)(h:SqL X.K H a xs):∃ its:List Value,Vals xs its∧PlainL s.heap a its.toArray∧xs.length≤sizeLine:=by
 rcases h with h|⟨o,its,n,hk,hc,hd,hs,hz,r⟩
 ·obtain⟨z,its,n,r,e⟩:=h.ok I.hok
  exact⟨its,r,⟨_,n,e,rfl,rfl,rfl⟩,z⟩
 ·refine⟨its.toList,r,⟨o,n,I.kIn a o hk,hc,hd,by simpa using hs⟩,?_⟩
  have e:=r.length
  simp only[Array.length_toList]at e
  omega
theorem Inv.tuple(I:Inv X pins σ H s)(h:SqT X.K H a xs):∃ its:List Value,Vals xs its∧IsTup s.heap a its.toArray∧xs.length≤sizeLine:=by
 rcases h with h|⟨o,its,n,hk,hc,hs,hz,r⟩
 ·obtain⟨z,its,r,p⟩:=h.ok I.hok
  exact⟨its,r,p,z⟩
 ·refine⟨its.toList,r,⟨o,I.kIn a o hk,hc,n,by simpa using hs⟩,?_⟩
  have e:=r.length
  simp only[Array.length_toList]at e
  omega
theorem Inv.list_inj(I:Inv X pins σ H s)(h:SqL X.K H a xs)(h':SqL X.K H a ys):xs=ys:=by
 obtain⟨its,r,⟨o,n,e,_,_,d⟩,_⟩:=I.list h
 obtain⟨its',r',⟨o',n',e',_,_,d'⟩,_⟩:=I.list h'
 rw[e]at e'; cases e'
 rw[d]at d'
 injection d' with d1 _
 have:its=its':=by simpa using congrArg Array.toList d1
 subst this
 exact r.inj r'
theorem Inv.tuple_inj(I:Inv X pins σ H s)(h:SqT X.K H a xs)(h':SqT X.K H a ys):xs=ys:=by
 obtain⟨its,r,⟨o,e,_,n,d⟩,_⟩:=I.tuple h
 obtain⟨its',r',⟨o',e',_,n',d'⟩,_⟩:=I.tuple h'
 rw[e]at e'; cases e'
 rw[d]at d'
 injection d' with d1 _
 have:its=its':=by simpa using congrArg Array.toList d1
 subst this
 exact r.inj r'
end
noncomputable abbrev Cx.wish(X:Cx)(E:Value→Shared→Prop):Cx:={ X with xe:=E }
noncomputable abbrev Cx.nox(X:Cx):Cx:=X.wish fun _ _=>False
theorem Cx.Ok.wish{X:Cx}(ok:X.Ok)(E:Value→Shared→Prop):(X.wish E).Ok:=
 ⟨ok.mod,ok.kind,ok.glob,ok.blt,ok.above,ok.inj,ok.has,ok.cab,ok.hd,ok.frames,ok.stk,ok.exf,ok.bs,ok.bsz,ok.noex,ok.exfs,ok.funs,ok.frf⟩
theorem Cx.Ok.unwish{X:Cx}{E:Value→Shared→Prop}(ok:(X.wish E).Ok):X.Ok:=
 ⟨ok.mod,ok.kind,ok.glob,ok.blt,ok.above,ok.inj,ok.has,ok.cab,ok.hd,ok.frames,ok.stk,ok.exf,ok.bs,ok.bsz,ok.noex,ok.exfs,ok.funs,ok.frf⟩
section
variable {X:Cx}{pins:List (Addr×Obj)}{σ:St}{H:Hp}{s:Shared}{E:Value→Shared→Prop}
theorem Inv.wish(I:Inv X pins σ H s)(E:Value→Shared→Prop):Inv (X.wish E) pins σ H s:=⟨I.ok.wish E,I.os,I.bare,I.base,I.loc,I.cell,I.free,I.freeC,I.pin,I.hok,I.len⟩
theorem Inv.unwish(I:Inv (X.wish E) pins σ H s):Inv X pins σ H s:=⟨I.ok.unwish,I.os,I.bare,I.base,I.loc,I.cell,I.free,I.freeC,I.pin,I.hok,I.len⟩
theorem SP.unwish{D:Ends}{f:Flow}{s':Shared}(h:SP (X.wish E) pins D f s'):SP X pins D f s':=by
 cases f with
 |next=>obtain⟨σ',H',I,q⟩:=h; exact⟨σ',H',I.unwish,q⟩
 |brk=>obtain⟨σ',H',I,q⟩:=h; exact⟨σ',H',I.unwish,q⟩
 |cont=>obtain⟨σ',H',I,q⟩:=h; exact⟨σ',H',I.unwish,q⟩
 |ret u=>obtain⟨v,σ',H',I,r,q⟩:=h; exact⟨v,σ',H',I.unwish,r,q⟩
theorem PE.nox{e:Expr}{t:TE}(h:PE X.nox e t):PE X e t:=fun pins s σ H Q I hw=>
 wpAny_mono (h pins s σ H Q (I.wish _) hw) (fun _ _ ⟨v,H',I',r,q⟩=>⟨v,H',I'.unwish,r,q⟩) fun _ _ z=>False.elim z
theorem PT.nox{e:Expr}{t:TT}(h:PT X.nox e t):PT X e t:=fun pins s σ H Q I hw=>
 wpAny_mono (h pins s σ H Q (I.wish _) hw) (fun _ _ ⟨H',I',q⟩=>⟨H',I'.unwish,q⟩) fun _ _ z=>False.elim z
theorem PSs.nox{st:List Stmt}{t:TS}(h:PSs X.nox st t):PSs X st t:=fun pins s σ H D I hw=>
 wpAny_mono (h pins s σ H D (I.wish _) hw) (fun _ _ q=>q.unwish) fun _ _ z=>False.elim z
end
section
variable {X:Cx}{st:Stmt}{rest:List Stmt}{t u:TS}{e:Expr}{te:TE}{pos:Pos}
noncomputable def tNext:TS:=fun D σ H=>D.nx σ H
noncomputable def tSeq(t u:TS):TS:=fun D σ H=>t { D with nx:=u D } σ H
theorem pss_nil:PSs X [] tNext:=fun _ _ σ H _ I h=>wpAny_execs_nil ⟨σ,H,I,h⟩
theorem pss_cons(h1:PS X st t)(h2:PSs X rest u):PSs X (st::rest) (tSeq t u):=by
 intro pins s σ H D I h
 refine wpAny_execs_cons (thn (h1 pins s σ H { D with nx:=u D } I h) fun f s1 q=>?_)
 cases f with
 |next=>
  obtain⟨σ',H',I',q⟩:=q
  exact h2 pins s1 σ' H' D I' q
 |ret v=>exact q
 |brk=>exact q
 |cont=>exact q
theorem pss_one(h1:PS X st t):PSs X [st] t:=by
 intro pins s σ H D I h
 refine wpAny_execs_cons (thn (h1 pins s σ H D I h) fun f s1 q=>?_)
 cases f with
 |next=>exact wpAny_execs_nil q
 |ret v=>exact q
 |brk=>exact q
 |cont=>exact q
theorem Inv.quiet{pins:List (Addr×Obj)}{σ:St}{H:Hp}{s:Shared}(I:Inv X pins σ H s):interactive X.env=false:=by simp[interactive,I.ok.kind]
theorem ps_doc{x j pos pos'}:PS X (.Expr (.Constant (.str x) j pos) pos') tNext:=fun _ s σ H _ I h=>wpAny_Expr (Calls.Constant_str (show SP X _ _ .next { s with toks:=s.toks+1 } from⟨σ,H,I.tok _,h⟩)) I.quiet
noncomputable def tDrop(te:TE):TS:=fun D σ H=>te σ H fun _ H1=>D.nx σ H1
theorem ps_expr(he:PE X e te)(hs:swapsWith e none pos.line X.env=pure false):PS X (.Expr e pos) (tDrop te):=by
 intro pins s σ H D I h
 exact wpAny_Expr_any (thn (he pins s σ H _ I h) fun v s1 ⟨x,H1,I1,r1,q1⟩=>⟨σ,H1,I1,q1⟩) I.quiet hs
noncomputable def tRet(te:TE):TS:=fun D σ H=>te σ H D.rt
theorem ps_ret(he:PE X e te):PS X (.Return (some e) pos) (tRet te):=by
 intro pins s σ H D I h
 exact wpAny_Return_some (thn (he pins s σ H _ I h) fun v s1 ⟨x,H1,I1,r1,q1⟩=>⟨x,σ,H1,I1,r1,q1⟩)
noncomputable def tIfS(c:TT)(t u:TS):TS:=fun D σ H=>c σ H fun b H1=>if b=true then t D σ H1 else u D σ H1
theorem ps_if{c:Expr}{a b:List Stmt}{tc:TT}(hc:PT X c tc)(ha:PSs X a t)(hb:PSs X b u):PS X (.If c a b pos) (tIfS tc t u):=by
 intro pins s σ H D I h
 refine wpAny_If (thn (hc pins s σ H _ I h) fun d s1 ⟨H1,I1,q1⟩=>?_)
 cases d with
 |true=>exact ha pins s1 σ H1 D I1 q1
 |false=>exact hb pins s1 σ H1 D I1 q1
end
abbrev TG:=V→St→Hp→(St→Hp→Prop)→Prop
abbrev TGs:=List V→St→Hp→(St→Hp→Prop)→Prop
def PG(X:Cx)(target:Expr)(t:TG):Prop:=
 ∀ (pins:List (Addr×Obj)) (s:Shared) (σ:St) (H:Hp) (v:V) (u:Value) (Q:St→Hp→Prop),Inv X pins σ H s→RelV v u→t v σ H Q→
  wpAny (model X.prog X.w) X.A (assign target X.env u) (fun _ s'=>∃ σ' H',Inv X pins σ' H' s'∧Q σ' H') X.xe s
def PGs(X:Cx)(ts:List Expr)(t:TGs):Prop:=
 ∀ (pins:List (Addr×Obj)) (s:Shared) (σ:St) (H:Hp) (vs:List V) (us:List Value) (Q:St→Hp→Prop),Inv X pins σ H s→Vals vs us→t vs σ H Q→
  wpAny (model X.prog X.w) X.A (assignInOrder ((assignEach ts X.env).map (·.2)) us) (fun _ s'=>∃ σ' H',Inv X pins σ' H' s'∧Q σ' H') X.xe s
section
variable {X:Cx}{pos:Pos}
noncomputable def gName(i:Nat):TG:=fun v σ H Q=>Q (σ.set i (some v)) H
theorem pg_name{i:Nat}{x:Str}(hN:X.N.Nodup)(hi:X.N[i]?=some x)(hx:Loc X.env.scope x)(hf:X.fn x=true∨X.env.scope.names.lookup x=some .local):PG X (.Name x pos) (gName i):=by
 intro pins s σ H v u Q I r h
 exact wpAny_assign_Name (store_ok I hN hi hx r (fun s' I'=>⟨_,H,I',h⟩) hf)
noncomputable def gNil:TGs:=fun vs σ H Q=>vs=[]∧Q σ H
noncomputable def gCons(t:TG)(u:TGs):TGs:=fun vs σ H Q=>∃ v r,vs=v::r∧t v σ H fun σ' H'=>u r σ' H' Q
theorem pgs_nil:PGs X [] gNil:=by
 intro pins s σ H vs us Q I r h
 obtain⟨e,h⟩:=h
 subst e
 cases r
 exact assignInOrder_nil ⟨σ,H,I,h⟩
theorem pgs_cons{e:Expr}{es:List Expr}{t:TG}{u:TGs}(h1:PG X e t)(h2:PGs X es u)
  (hs:(assignEach (e::es) X.env).map (·.2)=assign e X.env::(assignEach es X.env).map (·.2):=by rfl):PGs X (e::es) (gCons t u):=by
 intro pins s σ H vs us Q I r h
 obtain⟨v,vr,e1,h⟩:=h
 subst e1
 cases r with
 |cons r rr=>
  rw[hs]
  refine assignInOrder_cons (thn (h1 pins s σ H _ _ _ I r h) fun _ s1 ⟨σ1,H1,I1,q1⟩=>?_)
  exact h2 pins s1 σ1 H1 _ _ Q I1 rr q1
noncomputable def gTup(K:PySem.W.Frag)(n:Nat)(t:TGs):TG:=fun v σ H Q=>∃ a xs,v=.ref a∧SqT K H a xs∧xs.length=n∧t xs σ H Q
theorem pg_tup{es:List Expr}{k:Nat}{t:TGs}{n:Nat}(hc:X.calm=true)(h:PGs X es t)
  (hn:(assignEach es X.env).length=n:=by rfl) (hst:(assignEach es X.env).findIdx? (·.1)=none:=by rfl):PG X (.Tuple es k pos) (gTup X.K n t):=by
 intro pins s σ H v u Q I r hw
 obtain⟨a,xs,e1,hq,hl,hw⟩:=hw
 subst e1
 cases r
 obtain⟨its,rv,ht,hz⟩:=I.tuple hq
 refine assign_Tuple_tuple (I.ok.hd hc) ht (by simp[hn,← hl,rv.length]) hst fun h' hx=>?_
 have I1:Inv X pins σ H { s with heap:=h' }:=I.kept (t':=s.toks) fun b o e=>hx b o (Nat.ne_of_lt (Heap.lt_size e)) e
 exact h pins _ σ H xs _ Q I1 (by simpa using rv) hw
noncomputable def tAsg(te:TE)(g:TG):TS:=fun D σ H=>te σ H fun x H1=>g x σ H1 D.nx
theorem ps_asg{tg e:Expr}{te:TE}{g:TG}(he:PE X e te)(hg:PG X tg g)(hs:swapsWithSole [tg] e pos.line X.env=pure false:=by rfl)(hw:swappedStores [tg] e X.env=pure none:=by rfl)
  (h1:(assignEach [tg] X.env).map (·.2)=[assign tg X.env]:=by rfl):PS X (.Assign [tg] e pos) (tAsg te g):=by
 intro pins s σ H D I h
 refine wpAny_Assign_stores (thn (he pins s σ H _ I h) fun v s1 ⟨x,H1,I1,r1,q1⟩=>?_) hs hw
 rw[h1]
 exact thn (hg pins s1 σ H1 x v _ I1 r1 q1) fun _ s2 q=>q
theorem ps_set{i:Nat}{x:Str}{e:Expr}{te:TE}{pos':Pos}(hN:X.N.Nodup)(hi:X.N[i]?=some x)(hx:Loc X.env.scope x)(he:PE X e te)(hs:swapsWith e (some (.Name x pos')) pos.line X.env=pure false:=by rfl)(hf:X.fn x=true∨X.env.scope.names.lookup x=some .local):
  PS X (.Assign [.Name x pos'] e pos) (tAsg te (gName i)):=by
 intro pins s σ H D I h
 refine wpAny_Assign_Name (thn (he pins s σ H _ I h) fun v s1 ⟨y,H1,I1,r1,q1⟩=>?_) hs
 exact store_ok I1 hN hi hx r1 (fun s2 I2=>⟨_,H1,I2,q1⟩) hf
end
section
variable {X:Cx}{pos:Pos}
end
structure It where
 go:Nat→Hp→Prop
 yld:Nat→Hp→V→Hp→Prop
 stop:Nat→Hp→Prop
def FpOk(X:Cx)(pins:List (Addr×Obj))(H:Hp)(b:Addr):Prop:=
 H b=none∧b≠X.env.locals∧b ∉ X.fs∧(b∈X.ex∨X.s₀.heap.objs.size≤b)∧(∀ x c,X.env.cells.lookup x=some c→c≠b)∧∀ p∈X.pn++pins,p.1≠b
theorem Inv.fpOk{X:Cx}{pins:List (Addr×Obj)}{σ:St}{H H':Hp}{s:Shared}{b:Addr}(I:Inv X pins σ H s)(hb:s.heap.objs.size≤b)(hn:H' b=none):FpOk X pins H' b:=by
 refine⟨hn,Nat.ne_of_gt (Nat.lt_of_lt_of_le I.lt hb),I.nofs hb,.inr (Nat.le_trans I.sz hb),fun x c e z=>?_,fun p hp z=>?_⟩
 ·obtain⟨v,q⟩:=I.cell x c e
  exact absurd (Nat.lt_of_lt_of_le q.lt (by rw[z]; exact hb)) (Nat.lt_irrefl _)
 ·exact absurd (Nat.lt_of_lt_of_le (Heap.lt_size (I.pin p hp).1) (by rw[z]; exact hb)) (Nat.lt_irrefl _)
structure Turn (P:Program) (w:World) (K:PySem.W.Frag) (tg:Expr) (J:It) (fp:List Addr) (it:Addr) (tn:Nat→Heap→Prop):Prop where
 mem:it∈fp
 obj:∀ i h,tn i h→∀ b∈fp,∃ o,h.get? b=some o∧∀ v,o.data≠.cell v
 keep:∀ i h h',tn i h→(∀ b∈fp,∀ o,h.get? b=some o→h'.get? b=some o)→tn i h'
 item:∀ (X:Cx),X.prog=P→X.w=w→X.K=K→X.calm=true→∀ (i:Nat) (pins:List (Addr×Obj)) (s:Shared) (σ:St) (H:Hp) (E:Value→Shared→Prop),Inv X pins σ H s→(∀ b∈fp,FpOk X pins H b)→tn i s.heap→J.go i H→
  wpAny (model P w) X.A (pyNext (.ref it)) (fun r s1=>∃ u,r=some u∧
   wpAny (model P w) X.A (letOwnedTupleGo tg (.ref it) u) (fun _ s2=>∃ x H',Inv X pins σ H' s2∧RelV x u∧J.yld i H x H'∧tn (i+1) s2.heap∧∀ b∈fp,H' b=none) E s1) E s
 done:∀ (X:Cx),X.prog=P→X.w=w→X.K=K→X.calm=true→∀ (i:Nat) (pins:List (Addr×Obj)) (s:Shared) (σ:St) (H:Hp) (E:Value→Shared→Prop),Inv X pins σ H s→(∀ b∈fp,FpOk X pins H b)→tn i s.heap→J.stop i H→
  wpAny (model P w) X.A (pyNext (.ref it)) (fun r s1=>r=none∧Inv X pins σ H s1) E s
 self:∀ (A:Around) (i:Nat) (s:Shared) (Q:Value→Shared→Prop) (E:Value→Shared→Prop),tn i s.heap→Q (.ref it) s→wpAny (model P w) A (pyIter (.ref it)) Q E s
abbrev TI:=St→Hp→(It→Hp→Prop)→Prop
def PIE(X:Cx)(pins:List (Addr×Obj))(σ:St)(tg:Expr)(R:It→Hp→Prop)(itv:Value)(s2:Shared):Prop:=
 ∃ (it:Addr) (fp:List Addr) (tn:Nat→Heap→Prop) (J:It) (H':Hp),itv=.ref it∧Inv X pins σ H' s2∧Turn X.prog X.w X.K tg J fp it tn∧tn 0 s2.heap∧(∀ b∈fp,FpOk X pins H' b)∧R J H'
def PI(X:Cx)(tg iter:Expr)(wi:TI):Prop:=
 ∀ (pins:List (Addr×Obj)) (s:Shared) (σ:St) (H:Hp) (R:It→Hp→Prop),Inv X pins σ H s→wi σ H R→
  wpAny (model X.prog X.w) X.A (eval iter X.env) (fun v s1=>wpAny (model X.prog X.w) X.A (pyIter v) (PIE X pins σ tg R) X.xe s1) X.xe s
theorem go_of{M:Model}{A:Around}{E:Value→Shared→Prop}{s:Shared}{tg:Expr}{it:Addr}{u:Value}{o:Obj}{n:String}{vs:Array Value}{Q:Unit→Shared→Prop}(ho:s.heap.get? it=some o)(hc:o.cls=.type n)(hd:o.data=.fields vs)
  (hn:["enumerate","zip","dict_itemiterator","dict_reverseitemiterator","odict_iterator","itertools.zip_longest","itertools.pairwise"].contains n=false) (hQ:Q () s):wpAny M A (letOwnedTupleGo tg (.ref it) u) Q E s:=by
 unfold letOwnedTupleGo
 cases tg<;>first
  |exact wpAny_pure hQ
  |(cases u<;>first
    |exact wpAny_pure hQ
    |(refine wpAny_bind (wpAny_load ho ?_)
      rw[hc,hd]
      show wpAny M A (if (["enumerate","zip","dict_itemiterator","dict_reverseitemiterator","odict_iterator","itertools.zip_longest","itertools.pairwise"].contains n&&vs[0]?==some (rawInt _))=true then _ else _) Q E s
      rw[if_neg (by intro h; rw[hn,Bool.false_and]at h; cases h)]
      exact wpAny_pure hQ))
noncomputable def Itl(K:PySem.W.Frag)(a:Addr):It:=
 ⟨fun i H=>∃ xs x,SqL K H a xs∧xs[i]?=some x,fun i H x H'=>H'=H∧∀ xs,SqL K H a xs→xs[i]?=some x,fun i H=>∃ xs,SqL K H a xs∧xs.length≤i⟩
noncomputable def Itt(K:PySem.W.Frag)(a:Addr):It:=
 ⟨fun i H=>∃ xs x,SqT K H a xs∧xs[i]?=some x,fun i H x H'=>H'=H∧∀ xs,SqT K H a xs→xs[i]?=some x,fun i H=>∃ xs,SqT K H a xs∧xs.length≤i⟩
noncomputable def Itr(lo:Int)(n:Nat):It:=⟨fun i _=>i<n,fun i H x H'=>H'=H∧x=.int (lo+i),fun i _=>n≤i⟩
theorem turn_list{P:Program}{w:World}{K:PySem.W.Frag}{tg:Expr}(a it:Addr):Turn P w K tg (Itl K a) [it] it (fun i h=>h.IsListIter it a i) where
 mem:=by simp
 obj:=fun i h st b hb=>by
  have e:b=it:=by simpa using hb
  subst e
  obtain⟨o,e,c,d⟩:=st
  exact⟨o,e,fun v z=>by rw[d]at z; cases z⟩
 keep:=fun i h h' st k=>st.at fun o e=>k it (by simp) o e
 item:=by
  intro X hP hw hK hc i pins s σ H E I hf st hg
  subst hP hw hK
  obtain⟨xs,x,hq,hx⟩:=hg
  obtain⟨its,rv,p,hz⟩:=I.list hq
  obtain⟨u,hu,ru⟩:=rv.get hx
  obtain⟨f0,f1,f2,f3,f4,f5⟩:=hf it (by simp)
  refine wpAny_pyNext_list_item st p.isList (x:=u) (by simpa using hu) fun h' st' sb=>?_
  have I1:Inv X pins σ H { s with heap:=h' }:=I.turned (t':=s.toks) (fun b o hb e=>(sb.2 b hb).trans e) f0 f1 f3 f4 f5
  obtain⟨o,e,c,d⟩:=id st'
  exact⟨u,rfl,go_of (s:={ s with heap:=h' }) e c d (by decide) ⟨x,H,I1,ru,⟨rfl,fun ys hy=>by rw[I.list_inj hy hq]; exact hx⟩,st',fun b hb=>(hf b hb).1⟩⟩
 done:=by
  intro X hP hw hK hc i pins s σ H E I hf st hg
  subst hP hw hK
  obtain⟨xs,hq,hx⟩:=hg
  obtain⟨its,rv,p,hz⟩:=I.list hq
  obtain⟨f0,f1,f2,f3,f4,f5⟩:=hf it (by simp)
  have hl:=rv.length
  exact wpAny_pyNext_list_end (I.ok.hd hc) st p.isList (by simp; omega) fun h' eb=>⟨rfl,I.turned (t':=s.toks) (fun b o hb e=>eb b o hb e) f0 f1 f3 f4 f5⟩
 self:=fun _ _ _ _ _ st h=>wpAny_pyIter_listiter st h
theorem turn_tuple{P:Program}{w:World}{K:PySem.W.Frag}{tg:Expr}(a it:Addr):Turn P w K tg (Itt K a) [it] it (fun i h=>h.IsTupleIter it a i) where
 mem:=by simp
 obj:=fun i h st b hb=>by
  have e:b=it:=by simpa using hb
  subst e
  obtain⟨o,e,c,d⟩:=st
  exact⟨o,e,fun v z=>by rw[d]at z; cases z⟩
 keep:=fun i h h' st k=>st.at fun o e=>k it (by simp) o e
 item:=by
  intro X hP hw hK hc i pins s σ H E I hf st hg
  subst hP hw hK
  obtain⟨xs,x,hq,hx⟩:=hg
  obtain⟨its,rv,p,hz⟩:=I.tuple hq
  obtain⟨u,hu,ru⟩:=rv.get hx
  obtain⟨f0,f1,f2,f3,f4,f5⟩:=hf it (by simp)
  refine wpAny_pyNext_tuple_item st (show s.heap.IsTuple a its.toArray from p) (x:=u) (by simpa using hu) fun h' st' sb=>?_
  have I1:Inv X pins σ H { s with heap:=h' }:=I.turned (t':=s.toks) (fun b o hb e=>(sb.2 b hb).trans e) f0 f1 f3 f4 f5
  obtain⟨o,e,c,d⟩:=id st'
  exact⟨u,rfl,go_of (s:={ s with heap:=h' }) e c d (by decide) ⟨x,H,I1,ru,⟨rfl,fun ys hy=>by rw[I.tuple_inj hy hq]; exact hx⟩,st',fun b hb=>(hf b hb).1⟩⟩
 done:=by
  intro X hP hw hK hc i pins s σ H E I hf st hg
  subst hP hw hK
  obtain⟨xs,hq,hx⟩:=hg
  obtain⟨its,rv,p,hz⟩:=I.tuple hq
  obtain⟨f0,f1,f2,f3,f4,f5⟩:=hf it (by simp)
  have hl:=rv.length
  exact wpAny_pyNext_tuple_end (I.ok.hd hc) st (show s.heap.IsTuple a its.toArray from p) (by simp; omega) fun h' eb=>⟨rfl,I.turned (t':=s.toks) (fun b o hb e=>eb b o hb e) f0 f1 f3 f4 f5⟩
 self:=fun _ _ _ _ _ st h=>wpAny_pyIter_tupleiter st h
theorem turn_range{P:Program}{w:World}{K:PySem.W.Frag}{tg:Expr}(it:Addr)(lo:Int)(n:Nat):Turn P w K tg (Itr lo n) [it] it (fun i h=>IsRangeIter h it (lo+(i:Nat)*1) ((n:Int) - (i:Nat)) 1) where
 mem:=by simp
 obj:=fun i h st b hb=>by
  have e:b=it:=by simpa using hb
  subst e
  exact⟨_,st,fun v z=>by
   have z':Data.fields _=Data.cell v:=z
   cases z'⟩
 keep:=fun i h h' st k=>k it (by simp) _ st
 item:=by
  intro X hP hw hK hc i pins s σ H E I hf st hg
  subst hP hw hK
  obtain⟨f0,f1,f2,f3,f4,f5⟩:=hf it (by simp)
  have W:=Walks.range (prog:=X.prog) (w:=X.w) (I.ok.hd hc) it lo 1 n
  refine W.item i s _ _ hg st fun v h' tk hv st' kk=>?_
  obtain⟨t,rfl⟩:=hv
  have I1:Inv X pins σ H { s with heap:=h',toks:=tk }:=I.turned (fun b o hb e=>kk b o (by simpa using hb) e) f0 f1 f3 f4 f5
  refine⟨_,rfl,go_of (s:={ s with heap:=h',toks:=tk }) (n:="range_iterator") st' rfl rfl (by decide) ⟨.int (lo+i),H,I1,⟨t,?_⟩,⟨rfl,rfl⟩,st',fun b hb=>(hf b hb).1⟩⟩
  rw[Int.mul_one]
 done:=by
  intro X hP hw hK hc i pins s σ H E I hf st hg
  subst hP hw hK
  obtain⟨f0,f1,f2,f3,f4,f5⟩:=hf it (by simp)
  exact wpAny_pyNext_range_end (I.ok.hd hc) st (by have:n≤i:=hg; omega) fun h' eb=>⟨rfl,I.turned (t':=s.toks) (fun b o hb e=>eb b o hb e) f0 f1 f3 f4 f5⟩
 self:=fun _ _ _ _ _ st h=>wpAny_pyIter_rangeiter st h
end L2
namespace L2
open PySem PySem.Spec PyProof.Rows
section
variable {X:Cx}{tg:Expr}
theorem range_it{pins:List (Addr×Obj)}{σ:St}{H:Hp}{s:Shared}{R:It→Hp→Prop}{E:Value→Shared→Prop}{lo hi:Int}{t u v:Tok}{tk:Nat}(I:Inv X pins σ H s)(h1:-(2 ^ 62)≤lo)(h2:lo<2 ^ 62)(h3:-(2 ^ 62)≤hi)(h4:hi<2 ^ 62)
  (q:R (Itr lo (hi - lo).toNat) H):wpAny (model X.prog X.w) X.A (pyIter (.ref s.heap.objs.size)) (PIE X pins σ tg R) E { s with heap:=s.heap.push { cls:=.type "range",data:=.fields #[.int lo t,.int hi u,.int 1 v] },toks:=tk }:=by
 refine wpAny_pyIter_range (IsRange.new ..) (small_one h1 h2 h3 h4) ?_
 have I1:Inv X pins σ H { s with heap:=s.heap.push { cls:=.type "range",data:=.fields #[.int lo t,.int hi u,.int 1 v] },toks:=tk }:=I.kept fun b o e=>Heap.get?_push_of_some _ e
 refine⟨(s.heap.push { cls:=.type "range",data:=.fields #[.int lo t,.int hi u,.int 1 v] }).objs.size,[(s.heap.push { cls:=.type "range",data:=.fields #[.int lo t,.int hi u,.int 1 v] }).objs.size],_,_,H,rfl,
  I1.kept (t':=tk) fun b o e=>Heap.get?_push_of_some _ e,turn_range _ lo (hi - lo).toNat,?_,fun b hb=>?_,q⟩
 ·have e1:lo+((0:Nat):Int)*1=lo:=by simp
  have e2:(((hi - lo).toNat:Nat):Int) - ((0:Nat):Int)=Builtin.Range.rangeSize lo hi 1:=by rw[rangeSize_one]; split<;>omega
  show IsRangeIter _ _ (lo+((0:Nat):Int)*1) ((((hi - lo).toNat:Nat):Int) - ((0:Nat):Int)) 1
  rw[e1,e2]
  exact Heap.get?_push_size _ rfl
 ·have e:b=(s.heap.push { cls:=.type "range",data:=.fields #[.int lo t,.int hi u,.int 1 v] }).objs.size:=by simpa using hb
  subst e
  exact I1.fpOk (Nat.le_refl _) (I1.hok.fresh (Nat.le_refl _))
noncomputable def iRng1(ta:TA):TI:=fun σ H R=>ta σ H fun vs H1=>∃ j:Int,vs=[.int j]∧-(2 ^ 62)≤j∧j<2 ^ 62∧R (Itr 0 j.toNat) H1
theorem pi_range1{a:Expr}{ta:TA}{p pos:Pos}(hg:Gl X "range")(hm:X.mg "range" = none)(ha:PA X [a] ta)(hs:starEach [a] X.env=[(false,eval a X.env)]:=by rfl):PI X tg (.Call (.Name "range" p) [a] [] pos) (iRng1 ta):=by
 intro pins s σ H R I h
 refine Call_ (ld_blt I hg hm boot_range (PyProof.Rows.callWith_type1 (thn (ha pos pins s σ H _ I h) fun us s1 ⟨vs,H1,I1,r1,q1⟩=>?_) hs rfl))
 obtain⟨j,e,q1,q2,q⟩:=q1
 subst e
 cases r1 with
 |cons r rr=>
  cases rr
  obtain⟨t,rfl⟩:=r
  exact call_range_1 (range_it I1 (by omega) (by omega) q1 q2 (by simpa using q))
noncomputable def tFor(wi:TI)(g:TG)(tb:TS):TS:=fun D σ H=>wi σ H fun J H1=>∃ W:Nat→Nat→St→Hp→Prop,(∃ m,W 0 m σ H1)∧∀ i m σ H,W i m σ H→
 (J.stop i H∧D.nx σ H)∨(J.go i H∧∃ N:St→Hp→Prop,(∀ σ' H',N σ' H'→∃ m',m'<m∧W (i+1) m' σ' H')∧∀ x H',J.yld i H x H'→g x σ H' fun σ2 H2=>tb { D with nx:=N,ct:=N,bk:=D.nx } σ2 H2)
noncomputable def pinsAt(fp:List Addr)(h:Heap):List (Addr×Obj):=fp.filterMap fun b=>(h.get? b).map fun o=>(b,o)
theorem mem_pinsAt{fp:List Addr}{h:Heap}{b:Addr}{o:Obj}(hb:b∈fp)(e:h.get? b=some o):(b,o)∈pinsAt fp h:=List.mem_filterMap.mpr ⟨b,hb,by rw[e]; rfl⟩
theorem of_pinsAt{fp:List Addr}{h:Heap}{p:Addr×Obj}(hp:p∈pinsAt fp h):p.1∈fp∧h.get? p.1=some p.2:=by
 obtain⟨b,hb,e⟩:=List.mem_filterMap.mp hp
 cases q:h.get? b with
 |none=>rw[q]at e; cases e
 |some o=>
  rw[q]at e
  have e':(b,o)=p:=Option.some.inj e
  subst e'
  exact⟨hb,q⟩
theorem Inv.pinned{pins:List (Addr×Obj)}{σ:St}{H:Hp}{s:Shared}{fp:List Addr}(I:Inv X pins σ H s)(hf:∀ b∈fp,FpOk X pins H b)(ho:∀ b∈fp,∃ o,s.heap.get? b=some o∧∀ v,o.data≠.cell v):Inv X (pins++pinsAt fp s.heap) σ H s:=
 I.pins_of fun p hp=>(List.mem_append.mp hp).elim (fun z=>I.pin p (List.mem_append_right _ z)) fun z=>by
  obtain⟨hb,e⟩:=of_pinsAt z
  obtain⟨f0,f1,f2,_⟩:=hf p.1 hb
  obtain⟨o,e',d⟩:=ho p.1 hb
  rw[e]at e'; cases e'
  exact⟨e,f0,f1,f2,d⟩
theorem Inv.unpinned{pins pl:List (Addr×Obj)}{σ:St}{H:Hp}{s:Shared}(I:Inv X (pins++pl) σ H s):Inv X pins σ H s:=I.pins_of fun p hp=>I.pin p (List.mem_append_right _ (List.mem_append_left _ hp))
theorem ps_for{iter:Expr}{body:List Stmt}{wi:TI}{g:TG}{tb:TS}{pos:Pos}(hp:PassesOwn (model X.prog X.w) X.A X.env X.xe)(hc:X.calm=true)(hi:PI X tg iter wi)(hg:PG X tg g)(hb:PSs X body tb)
  (hs:∀ x,foldedSetIterable iter X.env x=pure x):PS X (.For tg iter body [] pos) (tFor wi g tb):=by
 intro pins s σ H D I h
 refine wpAny_For (thn (hi pins s σ H _ I h) fun v s1 h1=>thn h1 fun itv s2 h2=>?_) hs
 obtain⟨it,fp,tn,J,H2,e,I2,T,st2,f2,W,⟨m0,w0⟩,turn⟩:=h2
 subst e
 have stat:∀ {H':Hp},(∀ b∈fp,H' b=none)→∀ b∈fp,FpOk X pins H' b:=fun hn b hb=>⟨hn b hb,(f2 b hb).2⟩
 refine codeAny_forLoop_any (fun n s'=>∃ i σ' H',Inv X pins σ' H' s'∧tn i s'.heap∧(∀ b∈fp,H' b=none)∧W i n σ' H') ?_ m0 ⟨0,σ,H2,I2,st2,fun b hb=>(f2 b hb).1,w0⟩
 rintro n s3 ⟨i,σ3,H3,I3,st3,fr3,w3⟩
 rcases turn i n σ3 H3 w3 with⟨stop,qn⟩|⟨go,N,hN,step⟩
 ·refine wpAny_passesOwn hp (thn (T.done X rfl rfl rfl hc i pins s3 σ3 H3 X.xe I3 (stat fr3) st3 stop) fun r s4 ⟨hr,I4⟩=>?_)
  subst hr
  exact wpAny_execs_nil ⟨σ3,H3,I4,qn⟩
 ·refine wpAny_passesOwn hp (thn (T.item X rfl rfl rfl hc i pins s3 σ3 H3 X.xe I3 (stat fr3) st3 go) fun r s4 ⟨u,hr,h4⟩=>?_)
  subst hr
  refine wpAny_passesOwn hp (thn h4 fun _ s5 ⟨x,H5,I5,r5,y5,st5,fr5⟩=>?_)
  have I5':=I5.pinned (stat fr5) (T.obj _ _ st5)
  refine wpAny_passesOwn hp (thn (hg _ s5 σ3 H5 x u _ I5' r5 (step x H5 y5)) fun _ s6 ⟨σ6,H6,I6,q6⟩=>?_)
  refine wpAny_passesOwn hp (thn (hb _ s6 σ6 H6 _ I6 q6) fun f s7 q7=>?_)
  have again:∀ {σ7:St}{H7:Hp},Inv X (pins++pinsAt fp s5.heap) σ7 H7 s7→N σ7 H7→∃ m,m<n∧∃ i σ' H',Inv X pins σ' H' s7∧tn i s7.heap∧(∀ b∈fp,H' b=none)∧W i m σ' H':=fun {σ7 H7} I7 n7=>by
   obtain⟨m',hm,w7⟩:=hN σ7 H7 n7
   refine⟨m',hm,i+1,σ7,H7,I7.unpinned,T.keep _ _ _ st5 fun b hb o e=>(I7.pin (b,o) (List.mem_append_right _ (List.mem_append_right _ (mem_pinsAt hb e)))).1,fun b hb=>?_,w7⟩
   obtain⟨o,e,d⟩:=T.obj _ _ st5 b hb
   exact(I7.pin (b,o) (List.mem_append_right _ (List.mem_append_right _ (mem_pinsAt hb e)))).2.1
  cases f with
  |next=>obtain⟨σ7,H7,I7,n7⟩:=q7; exact again I7 n7
  |cont=>obtain⟨σ7,H7,I7,n7⟩:=q7; exact again I7 n7
  |brk=>obtain⟨σ7,H7,I7,q7⟩:=q7; exact⟨σ7,H7,I7.unpinned,q7⟩
  |ret v=>obtain⟨x7,σ7,H7,I7,r7,q7⟩:=q7; exact⟨x7,σ7,H7,I7.unpinned,r7,q7⟩
end
end L2
namespace L2
open PySem PySem.Spec PyProof.Rows
abbrev R2:=V→V→Hp→VK→Prop
def OpR(X:Cx)(f:Value→Value→Sem Value)(r:R2):Prop:=
 ∀ (pins:List (Addr×Obj)) (s:Shared) (σ:St) (H:Hp) (x y:V) (v u:Value) (Q:VK),Inv X pins σ H s→RelV x v→RelV y u→r x y H Q→
  wpAny (model X.prog X.w) X.A (f v u) (EP X pins σ Q) X.xe s
def UnR(X:Cx)(f:Value→Sem Value)(r:V→Hp→VK→Prop):Prop:=
 ∀ (pins:List (Addr×Obj)) (s:Shared) (σ:St) (H:Hp) (x:V) (v:Value) (Q:VK),Inv X pins σ H s→RelV x v→r x H Q→
  wpAny (model X.prog X.w) X.A (f v) (EP X pins σ Q) X.xe s
def CallR(X:Cx)(f:Value)(r:List V→Hp→VK→Prop):Prop:=
 ∀ (pins:List (Addr×Obj)) (s:Shared) (σ:St) (H:Hp) (xs:List V) (us:List Value) (Q:VK),Inv X pins σ H s→Vals xs us→r xs H Q→
  wpAny (model X.prog X.w) X.A (call f us) (EP X pins σ Q) X.xe s
def TruR(X:Cx)(r:V→Hp→(Bool→Hp→Prop)→Prop):Prop:=
 ∀ (pins:List (Addr×Obj)) (s:Shared) (σ:St) (H:Hp) (x:V) (v:Value) (Q:Bool→Hp→Prop),Inv X pins σ H s→RelV x v→r x H Q→
  wpAny (model X.prog X.w) X.A (truthy v) (TP X pins σ Q) X.xe s
noncomputable def tOp(r:R2)(ta tb:TE):TE:=fun σ H Q=>ta σ H fun x H1=>tb σ H1 fun y H2=>r x y H2 Q
noncomputable def tUn(r:V→Hp→VK→Prop)(ta:TE):TE:=fun σ H Q=>ta σ H fun x H1=>r x H1 Q
noncomputable def rI(C:Int→Int→Prop)(g:Int→Int→V):R2:=fun x y H Q=>∃ i j,x=.int i∧y=.int j∧C i j∧Q (g i j) H
noncomputable def rI0(g:Int→Int→V):R2:=fun x y H Q=>∃ i j,x=.int i∧y=.int j∧Q (g i j) H
def rU(g:Int→V):V→Hp→VK→Prop:=fun x H Q=>∃ i,x=.int i∧Q (g i) H
section
variable {X:Cx}{a b c:Expr}{ta tb tc:TE}{pos:Pos}
theorem binT(ha:PE X a ta)(hb:PE X b tb){pins:List (Addr×Obj)}{s:Shared}{σ:St}{H:Hp}{R:V→V→Hp→Prop}(I:Inv X pins σ H s)
  (h:ta σ H fun x H1=>tb σ H1 fun y H2=>R x y H2){Q:Value→Shared→Prop}{f:Value→Value→Sem Value}
  (hf:∀ v u s2 x y H2,Inv X pins σ H2 s2→RelV x v→RelV y u→R x y H2→wpAny (model X.prog X.w) X.A (f v u) Q X.xe s2) :
  wpAny (model X.prog X.w) X.A (eval a X.env) (fun v s₁=>wpAny (model X.prog X.w) X.A (eval b X.env) (fun u s₂=>wpAny (model X.prog X.w) X.A (f v u) Q X.xe s₂) X.xe s₁) X.xe s:=by
 refine thn (ha pins s σ H _ I h) fun v s1 ⟨x,H1,I1,r1,q1⟩=>?_
 refine thn (hb pins s1 σ H1 _ I1 q1) fun u s2 ⟨y,H2,I2,r2,q2⟩=>?_
 exact hf v u s2 x y H2 I2 r1 r2 q2
theorem pe_op{op:Operator}{r:R2}(ho:OpR X (binaryOp op) r)(ha:PE X a ta)(hb:PE X b tb):PE X (.BinOp a op b pos) (tOp r ta tb):=by
 intro pins s σ H Q I h
 exact wpAny_BinOp (binT ha hb I h fun v u s2 x y H2 I2 rx ry q=>ho pins s2 σ H2 x y v u Q I2 rx ry q)
theorem pe_un{op:UnaryOp}{r:V→Hp→VK→Prop}(ho:UnR X (unaryOp op) r)(ha:PE X a ta):PE X (.UnaryOp op a pos) (tUn r ta):=by
 intro pins s σ H Q I h
 exact UnaryOp_ (thn (ha pins s σ H _ I h) fun v s1 ⟨x,H1,I1,r1,q1⟩=>ho pins s1 σ H1 x v Q I1 r1 q1)
theorem opI{f:Value→Value→Sem Value}{C:Int→Int→Prop}{g:Int→Int→Int}
  (rule:∀ (i j:Int) (t u:Tok) (s:Shared) (Q:Value→Shared→Prop) (E:Value→Shared→Prop),C i j→Q (.int (g i j) s.toks) { s with toks:=s.toks+1 }→wpAny (model X.prog X.w) X.A (f (.int i t) (.int j u)) Q E s) :
  OpR X f (rI C fun i j=>.int (g i j)):=by
 intro pins s σ H x y v u Q I rx ry h
 obtain⟨i,j,rfl,rfl,hc,q⟩:=h
 obtain⟨t,rfl⟩:=rx
 obtain⟨t',rfl⟩:=ry
 exact rule i j t t' s _ _ hc ⟨.int (g i j),H,I.tok _,⟨_,rfl⟩,q⟩
theorem opI0{f:Value→Value→Sem Value}{g:Int→Int→Int}
  (rule:∀ (i j:Int) (t u:Tok) (s:Shared) (Q:Value→Shared→Prop) (E:Value→Shared→Prop),Q (.int (g i j) s.toks) { s with toks:=s.toks+1 }→wpAny (model X.prog X.w) X.A (f (.int i t) (.int j u)) Q E s) :
  OpR X f (rI0 fun i j=>.int (g i j)):=by
 intro pins s σ H x y v u Q I rx ry h
 obtain⟨i,j,rfl,rfl,q⟩:=h
 obtain⟨t,rfl⟩:=rx
 obtain⟨t',rfl⟩:=ry
 exact rule i j t t' s _ _ ⟨.int (g i j),H,I.tok _,⟨_,rfl⟩,q⟩
theorem opB0{f:Value→Value→Sem Value}{g:Int→Int→Bool}
  (rule:∀ (i j:Int) (t u:Tok) (s:Shared) (Q:Value→Shared→Prop) (E:Value→Shared→Prop),Q (.bool (g i j)) s→wpAny (model X.prog X.w) X.A (f (.int i t) (.int j u)) Q E s) :
  OpR X f (rI0 fun i j=>.bl (g i j)):=by
 intro pins s σ H x y v u Q I rx ry h
 obtain⟨i,j,rfl,rfl,q⟩:=h
 obtain⟨t,rfl⟩:=rx
 obtain⟨t',rfl⟩:=ry
 exact rule i j t t' s _ _ ⟨.bl (g i j),H,I,rfl,q⟩
def CPow(i j:Int):Prop:=0≤j∧j≤1000000∧i.natAbs<2 ^ 64
def CMul(i j:Int):Prop:=(-(2 ^ 64)<i∧i<2 ^ 64)∨(-(2 ^ 64)<j∧j<2 ^ 64)
theorem CMul.ok{i j:Int}(h:CMul i j):IntMulOk i j:=by
 rcases h with⟨h1,h2⟩|⟨h1,h2⟩
 ·exact .of_left (intBits_le_64 h1 h2)
 ·exact .of_right (intBits_le_64 h1 h2)
theorem op_add:OpR X (binaryOp .Add) (rI0 fun i j=>.int (i+j)):=opI0 fun _ _ _ _ _ _ _ q=>add_int q
theorem op_sub:OpR X (binaryOp .Sub) (rI0 fun i j=>.int (i - j)):=opI0 fun _ _ _ _ _ _ _ q=>sub_int q
theorem op_mul:OpR X (binaryOp .Mult) (rI CMul fun i j=>.int (i*j)):=opI fun _ _ _ _ _ _ _ hc q=>mul_int q hc.ok
theorem op_mod:OpR X (binaryOp .Mod) (rI (fun _ j=>0<j) fun i j=>.int (i % j)):=opI fun i j _ _ _ _ _ hc q=>by
 have h1:(0:Int)<j:=hc
 exact mod_int' (by omega) (by rw[Int.fmod_eq_emod_of_nonneg i (by omega)]; exact q)
theorem op_pow:OpR X (binaryOp .Pow) (rI CPow fun i j=>.int (i ^ j.toNat)):=opI fun _ _ _ _ _ _ _ hc q=>pow_int_small hc.1 hc.2.1 hc.2.2 q
theorem unI{f:Value→Sem Value}{g:Int→Int}
  (rule:∀ (i:Int) (t:Tok) (s:Shared) (Q:Value→Shared→Prop) (E:Value→Shared→Prop),Q (.int (g i) s.toks) { s with toks:=s.toks+1 }→wpAny (model X.prog X.w) X.A (f (.int i t)) Q E s) :
  UnR X f (rU fun i=>.int (g i)):=by
 intro pins s σ H x v Q I rx h
 obtain⟨i,rfl,q⟩:=h
 obtain⟨t,rfl⟩:=rx
 exact rule i t s _ _ ⟨.int (g i),H,I.tok _,⟨_,rfl⟩,q⟩
theorem un_neg:UnR X (unaryOp .USub) (rU fun i=>.int (-i)):=unI fun _ _ _ _ _ q=>neg_int q
end
section
variable {X:Cx}{a b c:Expr}{ta tb tc:TE}{pos:Pos}
theorem fin_bl{pins:List (Addr×Obj)}{σ:St}{H:Hp}{s:Shared}{Q:VK}{k k':Bool}(I:Inv X pins σ H s)(q:Q (.bl k) H)(e:k=k'):EP X pins σ Q (.bool k') s:=by
 subst e
 exact⟨.bl k,H,I,rfl,q⟩
theorem op_lt:OpR X (compareOp .Lt) (rI0 fun i j=>.bl (decide (i<j))):=opB0 fun _ _ _ _ _ _ _ q=>lt_int q
theorem op_le:OpR X (compareOp .LtE) (rI0 fun i j=>.bl (decide (i≤j))):=opB0 fun _ _ _ _ _ _ _ q=>le_int q
theorem op_gt:OpR X (compareOp .Gt) (rI0 fun i j=>.bl (decide (j<i))):=opB0 fun _ _ _ _ _ _ _ q=>gt_int q
theorem op_ge:OpR X (compareOp .GtE) (rI0 fun i j=>.bl (decide (j≤i))):=opB0 fun _ _ _ _ _ _ _ q=>ge_int q
theorem op_in_str:OpR X (compareOp .In) (fun x y H Q=>∃ i j,x=.str i∧y=.str j∧Q (.bl (!(Builtin.Str.occurrences j i 0 j.length 1).isEmpty)) H):=by
 intro pins s σ H x y v u Q I rx ry h
 obtain⟨i,j,rfl,rfl,q⟩:=h
 obtain⟨t,rfl⟩:=rx
 obtain⟨t',rfl⟩:=ry
 exact in_str (fin_bl I q rfl)
theorem op_isN:OpR X (compareOp .Is) (fun x y H Q=>y=.non∧Q (.bl (decide (x=.non))) H):=by
 intro pins s σ H x y v u Q I rx ry h
 obtain⟨rfl,q⟩:=h
 cases ry
 refine is_none_gen (fin_bl I q ?_)
 cases x<;>first
  |(cases rx; rfl)
  |(obtain⟨t,rfl⟩:=rx; rfl)
theorem op_notN:OpR X (compareOp .IsNot) (fun x y H Q=>y=.non∧Q (.bl (!decide (x=.non))) H):=by
 intro pins s σ H x y v u Q I rx ry h
 obtain⟨rfl,q⟩:=h
 cases ry
 refine isnot_none_gen (fin_bl I q ?_)
 cases x<;>first
  |(cases rx; rfl)
  |(obtain⟨t,rfl⟩:=rx; rfl)
theorem op_notin_str:OpR X (compareOp .NotIn) (fun x y H Q=>∃ i j,x=.str i∧y=.str j∧Q (.bl (!(!(Builtin.Str.occurrences j i 0 j.length 1).isEmpty))) H):=by
 intro pins s σ H x y v u Q I rx ry h
 obtain⟨i,j,rfl,rfl,q⟩:=h
 obtain⟨t,rfl⟩:=rx
 obtain⟨t',rfl⟩:=ry
 exact notIn_str (fin_bl I q rfl)
theorem OpR.or{f:Value→Value→Sem Value}{r r':R2}(h:OpR X f r)(h':OpR X f r'):OpR X f (fun x y H Q=>r x y H Q∨r' x y H Q):=by
 intro pins s σ H x y v u Q I rx ry q
 rcases q with q|q
 ·exact h pins s σ H x y v u Q I rx ry q
 ·exact h' pins s σ H x y v u Q I rx ry q
theorem pe_cmpR{op:CmpOp}{r:R2}(ho:OpR X (compareOp op) r)(ha:PE X a ta)(hb:PE X b tb)(hm:behindInMarks op b=false):PE X (.Compare a [op] [b] pos) (tOp r ta tb):=by
 intro pins s σ H Q I h
 exact wpAny_Compare1 (binT ha hb I h fun v u s2 x y H2 I2 rx ry q=>ho pins s2 σ H2 x y v u Q I2 rx ry q) hm
noncomputable def tTest(t:TE):TT:=fun σ H Q=>t σ H fun x H'=>∃ k,x=.bl k∧Q k H'
theorem pt_cmpR{op:CmpOp}{r:R2}(ho:OpR X (compareOp op) r)(ha:PE X a ta)(hb:PE X b tb)(hm:behindInMarks op b=false):PT X (.Compare a [op] [b] pos) (tTest (tOp r ta tb)):=by
 intro pins s σ H Q I h
 refine wpAny_isTrue_Compare1 (thn (ha pins s σ H _ I h) fun v s1 ⟨x,H1,I1,r1,q1⟩=>thn (hb pins s1 σ H1 _ I1 q1) fun u s2 ⟨y,H2,I2,r2,q2⟩=>
  thn (ho pins s2 σ H2 x y v u _ I2 r1 r2 q2) fun c s3 ⟨z,H3,I3,r3,k,e,q3⟩=>?_) hm
 subst e
 cases r3
 exact wpAny_truthy_bool ⟨H3,I3,q3⟩
def TruV(K:PySem.W.Frag)(x:V)(H:Hp)(k:Bool):Prop:=
 match x with
 |.non=>k=false
 |.bl b=>k=b
 |.int i=>k=(i != 0)
 |.str y=>y.length≤sizeLine∧k=((y.length:Int) != 0)
 |.byt y=>y.size≤sizeLine∧k=((y.size:Int) != 0)
 |.ref p=>(∃ xs,SqL K H p xs∧k = !xs.isEmpty)∨(∃ xs,SqT K H p xs∧k = !xs.isEmpty)∨∃ kvs,H p=some (.dK kvs)∧k = !kvs.isEmpty
 |_=>False
theorem isEmpty_kv{κ:Type}{kvs:List (κ×V)}{vs:List (κ×Value)}(r:KV kvs vs):(!vs.isEmpty) = !kvs.isEmpty:=by
 cases r<;>rfl
theorem isEmpty_of{xs:List V}{its:List Value}(r:Vals xs its):(!its.toArray.isEmpty) = !xs.isEmpty:=by
 cases r<;>simp
theorem line63:(sizeLine:Nat)<2 ^ 63:=by rw[sizeLine_eq]; decide
theorem tru_ok:TruR X (fun x H Q=>∃ k,TruV X.K x H k∧Q k H):=by
 intro pins s σ H x v Q I rx h
 obtain⟨k,e,q⟩:=h
 have hl:=line63
 have hs:sizeLine=16777216:=sizeLine_eq
 cases x with
 |non=>
  cases rx
  have e':k=false:=e
  subst e'
  exact truthy_none ⟨H,I,q⟩
 |bl b=>
  cases rx
  have e':k=b:=e
  subst e'
  exact wpAny_truthy_bool ⟨H,I,q⟩
 |int i=>
  obtain⟨t,rfl⟩:=rx
  have e':k=(i != 0):=e
  subst e'
  exact PySem.P.truthy_int ⟨H,I,q⟩
 |str y=>
  obtain⟨t,rfl⟩:=rx
  obtain⟨hy,e'⟩:y.length≤sizeLine∧k=((y.length:Int) != 0):=e
  subst e'
  exact PySem.P.truthy_str (by omega) ⟨H,I.tok _,q⟩
 |byt y=>
  obtain⟨t,rfl⟩:=rx
  obtain⟨hy,e'⟩:y.size≤sizeLine∧k=((y.size:Int) != 0):=e
  subst e'
  exact PySem.W.truthy_bytes (by omega) ⟨H,I.tok _,q⟩
 |ref p=>
  cases rx
  have e':(∃ xs,SqL X.K H p xs∧k = !xs.isEmpty)∨(∃ xs,SqT X.K H p xs∧k = !xs.isEmpty)∨∃ kvs,H p=some (.dK kvs)∧k = !kvs.isEmpty:=e
  rcases e' with⟨xs,hx,e'⟩|⟨xs,hx,e'⟩|⟨kvs,hx,e'⟩
  ·subst e'
   obtain⟨its,r,pl,hz⟩:=I.list hx
   have hlen:=r.length
   exact wpAny_truthy_list pl.isList (by simp only[List.size_toArray]; omega) ⟨H,I.tok _,by rw[isEmpty_of r]; exact q⟩
  ·subst e'
   obtain⟨its,r,pl,hz⟩:=I.tuple hx
   have hlen:=r.length
   exact truthy_tuple pl (by simp only[List.size_toArray]; omega) ⟨H,I.tok _,by rw[isEmpty_of r]; exact q⟩
  ·subst e'
   obtain⟨hz,hS,vs,r,m⟩:kvs.length≤sizeLine∧(p==sysModules)=false∧∃ vs,KV kvs vs∧s.heap.DictOf (mixKind X.prog X.w) p vs:=I.hok p _ hx
   have hlen:kvs.length=vs.length:=Paired.length r
   exact wpAny_truthy_dict hS m (by omega) ⟨H,I.tok _,by rw[isEmpty_kv r]; exact q⟩
 |_=>exact(show False from e).elim
theorem pt_truth(ha:PE X a ta)(he:∀ whole,isTrue a X.env whole=(do let v ← whole; standAt a.pos; holding [v] (truthy v))):
  PT X a (fun σ H Q=>ta σ H fun x H'=>∃ k,TruV X.K x H' k∧Q k H'):=by
 intro pins s σ H Q I h
 exact isTrue_plain (thn (ha pins s σ H _ I h) fun v s1 ⟨x,H1,I1,r1,q1⟩=>tru_ok pins s1 σ H1 x v Q I1 r1 q1) (he _)
theorem op_add_str:OpR X (binaryOp .Add) (fun x y H Q=>∃ i j,x=.str i∧y=.str j∧i.length+j.length≤sizeLine∧Q (.str (i++j)) H):=by
 intro pins s σ H x y v u Q I rx ry h
 obtain⟨i,j,rfl,rfl,hz,q⟩:=h
 obtain⟨t,rfl⟩:=rx
 obtain⟨t',rfl⟩:=ry
 exact add_str (fun t' tk=>⟨.str (i++j),H,I.tok _,⟨_,rfl⟩,q⟩) hz
theorem vals1{x:V}{us:List Value}(r:Vals [x] us):∃ u,us=[u]∧RelV x u:=by
 cases r with
 |cons r1 r2=>cases r2; exact⟨_,rfl,r1⟩
theorem vals2{x y:V}{us:List Value}(r:Vals [x,y] us):∃ u w',us=[u,w']∧RelV x u∧RelV y w':=by
 cases r with
 |cons r1 r2=>
  cases r2 with
  |cons r3 r4=>cases r4; exact⟨_,_,rfl,r1,r3⟩
theorem call_int1:CallR X (.type "int") (fun xs H Q=>(∃ i,xs=[.int i]∧Q (.int i) H)∨∃ k,xs=[.bl k]∧Q (.int (if k then 1 else 0)) H):=by
 intro pins s σ H xs us Q I r h
 rcases h with⟨i,rfl,q⟩|⟨k,rfl,q⟩
 ·obtain⟨u,rfl,t,rfl⟩:=vals1 r
  exact call_int_int ⟨.int i,H,I,⟨_,rfl⟩,q⟩
 ·obtain⟨u,rfl,r1⟩:=vals1 r
  cases r1
  exact call_int_bool ⟨.int (if k then 1 else 0),H,I.tok _,⟨_,rfl⟩,q⟩
theorem call_str_int:CallR X (.type "str") (fun xs H Q=>∃ i,xs=[.int i]∧i.natAbs.log2<1920∧Q (.str (toString i)) H):=by
 intro pins s σ H xs us Q I r h
 obtain⟨i,rfl,hz,q⟩:=h
 obtain⟨u,rfl,t,rfl⟩:=vals1 r
 exact PySem.P.str_of_int hz ⟨.str _,H,I.tok _,⟨_,rfl⟩,q⟩
end
end L2
namespace L2
open PySem PySem.Spec PyProof.Rows
structure ObjM (h:Heap) (x dx C:Addr) (mA:Str→Option Value):Prop where
 obj:h.get? x=some (PySem.W.instObj C dx)
 ns:h.Ns1 dx mA
 ne:dx≠x
theorem lookIn_ns{h:Heap}{dx:Addr}{mA:Str→Option Value}(n:h.Ns1 dx mA):∃ od,h.get? dx=some od∧∀ name,PySem.W.lookIn name od=some (mA name):=by
 obtain⟨o,es,ep,ho,hd,hk,_,hm⟩:=n
 refine⟨o,ho,fun name=>?_⟩
 have e:=hm name
 unfold nsFind findBy at e
 rw[← Array.find?_toList]at e
 unfold PySem.W.lookIn
 rw[hd]
 dsimp only
 split
 ·rename_i y q
  rw[q]at e
  exact congrArg some e
 ·rename_i q
  rw[q]at e
  have a:es.toList.any (·.refKey)=false:=by
   rw[List.any_eq_false]
   intro y hy
   obtain⟨z,t,hkey⟩:=hk y (Array.mem_toList_iff.mp hy)
   simp[DictEntry.refKey,hkey]
  have a':¬ es.toList.any (·.refKey)=true:=by rw[a]; exact Bool.false_ne_true
  rw[if_neg a']
  exact congrArg some e
theorem ObjM.look{h:Heap}{x dx C:Addr}{mA:Str→Option Value}(I:ObjM h x dx C mA):∃ od,PySem.W.InstAt h x (PySem.W.instObj C dx) C (some od)∧∀ name,PySem.W.lookIn name od=some (mA name):=
 let ⟨od,ho,hl⟩:=lookIn_ns I.ns
 ⟨od,⟨I.obj,rfl,rfl,ho⟩,hl⟩
section
variable {prog:Program}{w:World}{A:Around}{E:Value→Shared→Prop}{s:Shared}{K:PySem.W.Frag}{x dx C f:Addr}{mA:Str→Option Value}{name:Str}{v:Value}
end
section
variable {P:Program}{w:World}{H H':Hp}{h h':Heap}{a C dx:Addr}{fs fs':List (Str×V)}
end
structure Cls (K:PySem.W.Frag) (C:Addr):Prop where
 pg:PySem.W.plainGet K C Str.empty=true
 hd:PySem.W.hasDictIn K C=true
 po:PySem.W.plainOver K C=true
 sa:PySem.W.findIn K (.ref C) "__setattr__" = some (some (.builtin "object.__setattr__"))
theorem Cls.get{K:PySem.W.Frag}{C:Addr}(c:Cls K C)(f:Str):PySem.W.plainGet K C f=true:=c.pg
structure Con (K:PySem.W.Frag) (C:Addr) (f:Str) (v:V) (u:Value):Prop where
 at_:PySem.W.findIn K (.ref C) f=some (some u)
 rel:RelV v u
 get:PySem.W.specialIn K u "__get__" = some none
 cp:PySem.W.copiedNames.contains f=false
structure Meth (K:PySem.W.Frag) (C:Addr) (m:Str) (f:Addr):Prop where
 at_:PySem.W.findIn K (.ref C) m=some (some (.ref f))
 fn:PySem.W.isFn K (.ref f)=true
 kp:PySem.W.keepIn K (.ref f)=true
section
variable {X:Cx}{pins:List (Addr×Obj)}{σ:St}{H:Hp}{s:Shared}{a C dx:Addr}{fs:List (Str×V)}{f:Str}{v:V}{A:Around}{E:Value→Shared→Prop}
theorem Inv.made(I:Inv X pins σ H s):Inv X pins σ (upd (upd H s.heap.objs.size (.own (s.heap.objs.size+1))) (s.heap.objs.size+1) (.ins C s.heap.objs.size []))
  { s with heap:=(s.heap.push PySem.W.emptyDict).push (PySem.W.instObj C s.heap.objs.size) }:=by
 have e1:(s.heap.push PySem.W.emptyDict).get? s.heap.objs.size=some PySem.W.emptyDict:=Heap.get?_push_size s.heap rfl
 have e2:((s.heap.push PySem.W.emptyDict).push (PySem.W.instObj C s.heap.objs.size)).get? (s.heap.objs.size+1)=some (PySem.W.instObj C s.heap.objs.size):=by
  have:=Heap.get?_push_size (s.heap.push PySem.W.emptyDict) (o:=PySem.W.instObj C s.heap.objs.size) rfl
  rwa [Heap.size_push]at this
 have e3:(s.heap.push PySem.W.emptyDict).Ns s.heap.objs.size (fun _=>none):=⟨PySem.W.emptyDict,#[],_,e1,rfl,(fun e he=>absurd he (by simp)),fun _=>rfl⟩
 have I1:=I.laid (a:=s.heap.objs.size) (o:=.own (s.heap.objs.size+1)) (h':=s.heap.push PySem.W.emptyDict) (t':=s.toks) (fun b u q=>Heap.get?_push_of_some _ q) (Nat.le_refl _) ⟨_,e1⟩
 refine I1.laid (a:=s.heap.objs.size+1) (o:=.ins C s.heap.objs.size []) (t':=s.toks) (fun b u q=>Heap.get?_push_of_some _ q) (Nat.le_of_eq (Heap.size_push _ _)) ?_
 have ne:s.heap.objs.size≠s.heap.objs.size+1:=Nat.ne_of_lt (Nat.lt_succ_self _)
 refine⟨by rw[upd_ne ne,upd_same],Nat.zero_le _,ne,e2,fun _=>none,(Heap.Ns1.of_empty e3).at fun o q=>Heap.get?_push_of_some _ q,fun _=>True.intro,fun y hy=>absurd rfl hy⟩
end
section
variable {X:Cx}{o e value:Expr}{f:Str}{pos pos' tpos:Pos}{ta tv:TE}
end
section
variable {X:Cx}{pins:List (Addr×Obj)}{σ:St}{H:Hp}{s:Shared}{A:Around}{E:Value→Shared→Prop}{Q:Value→Shared→Prop}{c:Value}{b:Bool}
inductive TyOf (K:PySem.W.Frag) (H:Hp):V→Value→Prop where
 |non:TyOf K H .non (.type "NoneType")
 |bl (x:Bool):TyOf K H (.bl x) (.type "bool")
 |int (i:Int):TyOf K H (.int i) (.type "int")
 |str (x:Str):TyOf K H (.str x) (.type "str")
 |flt (x:UInt64):TyOf K H (.flt x) (.type "float")
 |lst {a:Addr}{xs:List V}(e:H a=some (.lst xs)):TyOf K H (.ref a) (.type "list")
 |frz {a:Addr}{o:Obj}{xs:List V}(e:H a=some (.frz o (.lst xs))):TyOf K H (.ref a) (.type "list")
 |tup {a:Addr}{xs:List V}(e:H a=some (.tup xs)):TyOf K H (.ref a) (.type "tuple")
 |dK {a:Addr}{kvs:List (Key×V)}(e:H a=some (.dK kvs)):TyOf K H (.ref a) (.type "dict")
 |dT {a:Addr}{kvs:List (List Key×V)}(e:H a=some (.dT kvs)):TyOf K H (.ref a) (.type "dict")
 |ins {a C dx:Addr}{fs:List (Str×V)}(e:H a=some (.ins C dx fs)) (cl:Cls K C) (ha:PySem.W.findIn K (.ref C) "__class__" = some (some (.builtin "object.__class__")))
   (hn:PySem.W.specialIn K (.builtin "object.__class__") "__get__" = some (some (.builtin "getset_descriptor.__get__"))) (htk:PySem.W.takesIn K (.builtin "object.__class__")=some true)
   (hm:PySem.W.mroIn K C (.type "object")=some true):TyOf K H (.ref a) (.ref C)
end
end L2
namespace L2
open PySem PySem.Spec PyProof.Rows
structure Room (k:Nat) (A:Around):Prop where
 hd:A.handled=none
 dp:A.depth+3*k+5<recursionLimit
 un:A.units+16*k+200<cLine
theorem Room.mono{j k:Nat}{A:Around}(r:Room k A)(h:j≤k):Room j A:=⟨r.hd,by have:=r.dp; omega,by have:=r.un; omega⟩
theorem Room.deeper{k:Nat}{A:Around}(r:Room (k+1) A)(env:Env):Room k (A.deeper env):=
 ⟨r.hd,by have:=r.dp; show A.depth+1+3*k+5<_; omega,by have:=r.un; show A.units+3+16*k+200<_; omega⟩
theorem Room.in1{k:Nat}{A:Around}(r:Room (k+1) A):Room k A.in1:=
 ⟨r.hd,by have:=r.dp; show A.depth+3*k+5<_; omega,by have:=r.un; show A.units+1+16*k+200<_; omega⟩
theorem Room.depth{k:Nat}{A:Around}(r:Room k A):A.depth<recursionLimit:=by have:=r.dp; omega
theorem Room.units{k:Nat}{A:Around}(r:Room k A):A.units+64<cLine:=by have:=r.un; omega
noncomputable def tNil:TA:=fun _ H Q=>Q [] H
noncomputable def tCons(ta:TE)(tr:TA):TA:=fun σ H Q=>ta σ H fun x H1=>tr σ H1 fun xs H2=>Q (x::xs) H2
section
variable {X:Cx}{e:Expr}{es:List Expr}{te:TE}{t:TA}{pos:Pos}
theorem pa_nil:PA X [] tNil:=fun _ _ _ _ H Q I h=>Calls.spliced_nil ⟨[],H,I,.nil,h⟩
theorem pa_cons(ha:PE X e te)(hr:PA X es t)(hs:starEach (e::es) X.env=(false,eval e X.env)::starEach es X.env:=by rfl):PA X (e::es) (tCons te t):=by
 intro pos pins s σ H Q I h
 rw[hs]
 show wpAny _ _ (spliced ((false,eval e X.env)::backTo pos (starEach es X.env))) _ _ s
 refine Calls.spliced_cons (thn (ha pins s σ H _ I h) fun u s1 ⟨x,H1,I1,r1,q1⟩=>?_)
 exact thn (hr pos pins s1 σ H1 _ I1 q1) fun us s2 ⟨xs,H2,I2,r2,q2⟩=>⟨x::xs,H2,I2,.cons r1 r2,q2⟩
noncomputable def tTup(t:TA):TE:=fun σ H Q=>t σ H fun xs H1=>xs.length≤sizeLine∧∀ p,H1 p=none→Q (.ref p) (upd H1 p (.tup xs))
noncomputable def tLst(t:TA):TE:=fun σ H Q=>t σ H fun xs H1=>xs.length≤sizeLine∧∀ p,H1 p=none→Q (.ref p) (upd H1 p (.lst xs))
theorem pe_tup{x1}(h:PA X es t):PE X (.Tuple es x1 pos) (tTup t):=by
 intro pins s σ H Q I hq
 refine wpAny_Tuple_spliced (thn (h pos pins s σ H _ I hq) fun us s1 ⟨xs,H1,I1,r,z,q⟩=>⟨by rw[← r.length]; exact z,?_⟩)
 have hf:H1 s1.heap.objs.size=none:=I1.hok.fresh (Nat.le_refl _)
 refine⟨.ref s1.heap.objs.size,upd H1 s1.heap.objs.size (.tup xs),I1.laid (t':=s1.toks) (fun b u e=>Heap.get?_push_of_some _ e) (Nat.le_refl _) ?_,rfl,q _ hf⟩
 exact⟨z,us,r,⟨_,Heap.get?_push_size _ rfl,rfl,_,rfl⟩⟩
theorem pe_lst(h:PA X es t):PE X (.List es pos) (tLst t):=by
 intro pins s σ H Q I hq
 refine wpAny_List_spliced (thn (h pos pins s σ H _ I hq) fun us s1 ⟨xs,H1,I1,r,z,q⟩=>⟨by rw[← r.length]; exact z,?_⟩)
 have hf:H1 s1.heap.objs.size=none:=I1.hok.fresh (Nat.le_refl _)
 refine⟨.ref s1.heap.objs.size,upd H1 s1.heap.objs.size (.lst xs),I1.laid (t':=s1.toks) (fun b u e=>Heap.get?_push_of_some _ e) (Nat.le_refl _) ?_,rfl,q _ hf⟩
 exact⟨z,us,0,r,Heap.get?_push_size _ rfl⟩
end
abbrev Sp:=List V→Hp→VK→XK→Prop
abbrev CXT:=List Env→Hp→Shared→XK→Value→Shared→Prop
structure Env0 (P:Program) (w:World) (K:PySem.W.Frag) (mg:Str→Option Value) (base:Heap) (A:Around) (outer:List Env) (s:Shared) (H:Hp):Prop where
 frames:A.frames=some outer
 mod:Mod K mg base
 bs:∀ b o,base.get? b=some o→s.heap.get? b=some o∧H b=none
 bsz:base.objs.size≤s.heap.objs.size
 funs:s.heap.FunFrames base outer
 frf:∀ b∈frs outer,H b=none
 hok:HOk P w H s.heap
 bare:AllBare s.gens
def CE(outer:List Env)(P:Program)(w:World)(H:Hp)(s:Shared)(Q:VK)(u:Value)(s':Shared):Prop:=
 ∃ v H',s'.os=s.os∧AllBare s'.gens∧Un (frs outer) [] H H' s.heap s'.heap∧HOk P w H' s'.heap∧RelV v u∧Q v H'
def CR(CX:CXT)(outer:List Env)(P:Program)(w:World)(H:Hp)(s:Shared)(Q:VK)(E:XK)(r:Result)(s':Shared):Prop:=
 match r with
 |.ok (.ret u)=>CE outer P w H s Q u s'
 |.ok _=>False
 |.error e=>CX outer H s E e s'
structure FnOk (P:Program) (w:World) (K:PySem.W.Frag) (mg:Str→Option Value) (base:Heap) (CX:CXT) (k:Nat) (f:Addr) (fd:FuncData) (ps:List Str) (sp:Sp):Prop where
 len:∀ vs H Q E,sp vs H Q E→vs.length=ps.length
 run:∀ (A:Around) (outer:List Env) (s:Shared) (H:Hp) (args:Args) (us:List Value) (vs:List V) (Q:VK) (E:XK),Room k A→Env0 P w K mg base A outer s H→BindsTo s fd args (ps.zip us)→Vals vs us→sp vs H Q E→
  codeAny (model P w) A (.call (.ref f) args) (CR CX outer P w H s Q E) s
theorem FnOk.mono{P:Program}{w:World}{K:PySem.W.Frag}{mg:Str→Option Value}{base:Heap}{CX:CXT}{j k:Nat}{f:Addr}{fd:FuncData}{ps:List Str}{sp:Sp}(F:FnOk P w K mg base CX j f fd ps sp)(h:j≤k):
  FnOk P w K mg base CX k f fd ps sp:=⟨F.len,fun A outer s H args us vs Q E hr=>F.run A outer s H args us vs Q E (hr.mono h)⟩
theorem FnOk.imp{P:Program}{w:World}{K:PySem.W.Frag}{mg:Str→Option Value}{base:Heap}{CX:CXT}{k:Nat}{f:Addr}{fd:FuncData}{ps:List Str}{sp sp':Sp}(F:FnOk P w K mg base CX k f fd ps sp)
  (h:∀ vs H Q E,sp' vs H Q E→sp vs H Q E):FnOk P w K mg base CX k f fd ps sp':=
 ⟨fun vs H Q E q=>F.len vs H Q E (h _ _ _ _ q),fun A outer s H args us vs Q E hr he hb hv hs=>F.run A outer s H args us vs Q E hr he hb hv (h _ _ _ _ hs)⟩
theorem Env0.in1{P:Program}{w:World}{K:PySem.W.Frag}{mg:Str→Option Value}{base:Heap}{A:Around}{outer:List Env}{s:Shared}{H:Hp}(e:Env0 P w K mg base A outer s H):
  Env0 P w K mg base A.in1 outer s H:=⟨e.frames,e.mod,e.bs,e.bsz,e.funs,e.frf,e.hok,e.bare⟩
section
variable {X:Cx}{pins:List (Addr×Obj)}{σ:St}{H:Hp}{s s':Shared}
theorem Inv.env0(I:Inv X pins σ H s):Env0 X.prog X.w X.K X.mg X.base X.A X.stack s H:=
 ⟨I.ok.frames,I.ok.mod,I.bs,Nat.le_trans I.ok.bsz I.sz,I.stack,I.stkFree,I.hok,I.bare⟩
theorem Inv.after{Q:VK}{u:Value}(I:Inv X pins σ H s)(h:CE X.stack X.prog X.w H s Q u s'):EP X pins σ Q u s':=by
 obtain⟨v,H',os,bare,un,hok,r,q⟩:=h
 obtain⟨hh,g,d,t,os'⟩:=s'
 obtain rfl:os'=s.os:=os
 exact⟨v,H',I.call (h':=hh) (g':=g) (d':=d) (t':=t) (ch:=[]) un hok bare (fun b z=>absurd z (by simp)),r,q⟩
end
noncomputable def tCall(sp:Sp)(dvs:List V)(E:XK)(t:TA):TE:=fun σ H Q=>t σ H fun vs H1=>sp (vs++dvs) H1 Q E
def Binds(K:PySem.W.Frag)(fd:FuncData)(ps:List Str)(ds:List Value):Prop:=
 ∀ (s:Shared) (us:List Value),K.In s.heap→(us++ds).length=ps.length→BindsTo s fd ⟨us,[]⟩ (ps.zip (us++ds))
theorem Binds.all{K:PySem.W.Frag}{fd:FuncData}{ps:List Str}(h:∀ us:List Value,us.length=ps.length→bindArgs fd ⟨us,[]⟩=pure (ps.zip us)):Binds K fd ps []:=fun s us _ hl=>by
 rw[List.append_nil]at hl ⊢
 exact .of_eq (h us hl)
def Passes(CX:CXT)(X:Cx)(E:XK):Prop:=∀ (pins:List (Addr×Obj)) (σ:St) (H:Hp) (s:Shared) (e:Value) (s':Shared),Inv X pins σ H s→CX X.stack H s E e s'→X.xe e s'
section
variable {X:Cx}{CX:CXT}{k:Nat}{f C:Addr}{fd:FuncData}{ps:List Str}{sp:Sp}{dvs:List V}{ds:List Value}{E:XK}{x m:Str}{p pos apos:Pos}{e o:Expr}{es:List Expr}{ta:TE}{t:TA}
theorem run_fn{pins:List (Addr×Obj)}{σ:St}{H:Hp}{s:Shared}{Q:VK}{us:List Value}{vs:List V}(F:FnOk X.prog X.w X.K X.mg X.base CX k f fd ps sp)(hr:Room k X.A)(hb:Binds X.K fd ps ds)(hd:Vals dvs ds)(hx:Passes CX X E)
  (I:Inv X pins σ H s) (r:Vals vs us) (h:sp (vs++dvs) H Q E):wpAny (model X.prog X.w) X.A (call (.ref f) us) (EP X pins σ Q) X.xe s:=by
 have r2:Vals (vs++dvs) (us++ds):=r.append hd
 have hl:(us++ds).length=ps.length:=by rw[← r2.length]; exact F.len _ _ _ _ h
 refine wpAny_call (codeAny_mono (F.run X.A X.stack s H ⟨us,[]⟩ (us++ds) (vs++dvs) Q E hr I.env0 (hb s us I.kIn hl) r2 h) fun r s' hq=>?_)
 cases r with
 |error e=>exact hx pins σ H s e s' I hq
 |ok fl=>
  cases fl with
  |ret u=>exact I.after hq
  |next=>exact False.elim hq
  |brk=>exact False.elim hq
  |cont=>exact False.elim hq
theorem pe_call(F:FnOk X.prog X.w X.K X.mg X.base CX k f fd ps sp)(hr:Room k X.A)(hg:Gl X x)(hm:X.mg x=some (.ref f))(hk:PySem.W.keepIn X.K (.ref f)=true)(hb:Binds X.K fd ps ds)(hd:Vals dvs ds)(hx:Passes CX X E)
  (ha:PA X (e::es) t) (hdb:(x==("__debug__" : Str))=false:=by decide) (he:starEach (e::es) X.env=(false,eval e X.env)::starEach es X.env:=by rfl) (hpl:(backTo pos (starEach es X.env)).any (·.1)=false:=by rfl) :
  PE X (.Call (.Name x p) (e::es) [] pos) (tCall sp dvs E t):=by
 intro pins s σ H Q I h
 refine wpAny_Call_Name_kw (ld_glob I hg hm ?_ hdb)
 refine PySem.W.callWith_K (h₀:=X.base) I.ok.mod.kin hk (thn (ha pos pins s σ H _ I h) fun us s1 ⟨vs,H1,I1,r,q⟩=>⟨I1.kIn,?_⟩) he hpl
 exact run_fn F hr hb hd hx I1 r q
structure Mk (K:PySem.W.Frag) (C f:Addr):Prop where
 makes:PySem.W.makesIn K C=true
 init:PySem.W.findIn K (.ref C) "__init__" = some (some (.ref f))
 fn:PySem.W.isFn K (.ref f)=true
 kp:PySem.W.keepIn K (.ref C)=true
end
section
variable {X:Cx}{CX:CXT}{k:Nat}{f C:Addr}{fd:FuncData}{ps ks:List Str}{sp:Sp}{E:XK}{x m:Str}{p pos apos kpos:Pos}{e o:Expr}{es:List Expr}{kws:List Keyword}{te ta:TE}{t tk:TA}{nm:Option Str}
structure KBinds (K:PySem.W.Frag) (fd:FuncData) (ps ks:List Str) (g:List Value→List Value→List Value) (gV:List V→List V→List V):Prop where
 to:∀ (s:Shared) (us ws:List Value),K.In s.heap→(g us ws).length=ps.length→BindsTo s fd ⟨us,ks.zip ws⟩ (ps.zip (g us ws))
 rel:∀ {vs:List V}{us:List Value}{zs:List V}{ws:List Value},Vals vs us→Vals zs ws→Vals (gV vs zs) (g us ws)
variable {g:List Value→List Value→List Value}{gV:List V→List V→List V}
end
structure FnScope (N P:List Str) (sc:Scope):Prop where
 kind:sc.kind=.function
 co:sc.isCoroutine=false
 gen:sc.isGenerator=false
 nd:N.Nodup
 pre:N.take P.length=P
 par:∀ x∈P,sc.names.lookup x=some .local∨sc.names.lookup x=some .cell
 nofree:∀ y∈sc.names,y.2≠.free
theorem bindL_out{kindOf:Str→Option NameKind}{x:Str}:∀ {binds:List (Str×Value)}{m:Str→Option Value},(∀ v,(x,v) ∉ binds)→bindL kindOf binds m x=m x
 |[],_,_=>rfl
 |(n,v)::r,m,h=>by
  unfold bindL
  rw[bindL_out fun w hw=>h w (List.mem_cons_of_mem _ hw)]
  split
  ·have:x≠n:=by rintro rfl; exact h v List.mem_cons_self
   simp[this]
  ·rfl
theorem bindC_out{kindOf:Str→Option NameKind}{x:Str}:∀ {binds:List (Str×Value)}{m:Str→Option Value},(∀ v,(x,v) ∉ binds)→bindC kindOf binds m x=m x
 |[],_,_=>rfl
 |(n,v)::r,m,h=>by
  unfold bindC
  rw[bindC_out fun w hw=>h w (List.mem_cons_of_mem _ hw)]
  split
  ·rfl
  ·have:x≠n:=by rintro rfl; exact h v List.mem_cons_self
   simp[this]
theorem bindL_get{kindOf:Str→Option NameKind}{x:Str}{v:Value}:∀ {P:List Str}{vs:List Value}{i:Nat}{m:Str→Option Value},P.Nodup→P[i]?=some x→vs[i]?=some v→kindOf x=some .local→
  bindL kindOf (P.zip vs) m x=some v
 |[],_,_,_,_,h,_,_=>by simp at h
 |_::_,[],_,_,_,_,h,_=>by simp at h
 |p::P,w::vs,0,m,nd,h1,h2,hk=>by
  simp at h1 h2; subst h1; subst h2
  show bindL kindOf ((p,w)::P.zip vs) m p=_
  unfold bindL
  rw[bindL_out fun v hv=>(List.nodup_cons.mp nd).1 (List.of_mem_zip hv).1,if_pos hk]
  simp
 |p::P,w::vs,i+1,m,nd,h1,h2,hk=>by
  show bindL kindOf ((p,w)::P.zip vs) m x=_
  unfold bindL
  exact bindL_get (i:=i) (List.nodup_cons.mp nd).2 (by simpa using h1) (by simpa using h2) hk
theorem bindC_get{kindOf:Str→Option NameKind}{x:Str}{v:Value}:∀ {P:List Str}{vs:List Value}{i:Nat}{m:Str→Option Value},P.Nodup→P[i]?=some x→vs[i]?=some v→kindOf x≠some .local→
  bindC kindOf (P.zip vs) m x=some v
 |[],_,_,_,_,h,_,_=>by simp at h
 |_::_,[],_,_,_,_,h,_=>by simp at h
 |p::P,w::vs,0,m,nd,h1,h2,hk=>by
  simp at h1 h2; subst h1; subst h2
  show bindC kindOf ((p,w)::P.zip vs) m p=_
  unfold bindC
  rw[bindC_out fun v hv=>(List.nodup_cons.mp nd).1 (List.of_mem_zip hv).1,if_neg hk]
  simp
 |p::P,w::vs,i+1,m,nd,h1,h2,hk=>by
  show bindC kindOf ((p,w)::P.zip vs) m x=_
  unfold bindC
  exact bindC_get (i:=i) (List.nodup_cons.mp nd).2 (by simpa using h1) (by simpa using h2) hk
noncomputable def start(N:List Str)(vs:List V):St:=vs.map some++List.replicate (N.length - vs.length) none
noncomputable def cxOf(CX:CXT)(P:Program)(w:World)(K:PySem.W.Frag)(mg:Str→Option Value)(base:Heap)(N:List Str)(qual:Str)(scope:Scope)(f:Addr)(cd:Value)(A:Around)(outer:List Env)(s:Shared)(H:Hp)(E:XK):Cx where
 prog:=P
 w:=w
 K:=K
 mg:=mg
 base:=base
 A:=A.deeper (envOfC qual scope s.heap.objs.size f cd)
 N:=N
 s₀:=s
 H₀:=H
 env:=envOfC qual scope s.heap.objs.size f cd
 outer:=outer
 stack:=envOfC qual scope s.heap.objs.size f cd::outer
 ex:=[]
 calm:=true
 fn:=fun _=>true
 pn:=[]
 xe:=fun e s'=>wpAny (model P w) (A.deeper (envOfC qual scope s.heap.objs.size f cd)) (leaving (envOfC qual scope s.heap.objs.size f cd) e) (fun _ s''=>CX outer H s E e s'') (fun e' s''=>CX outer H s E e' s'') s'
theorem cell_has{sc:Scope}{n:Nat}{x:Str}(h:sc.names.lookup x=some .cell):∃ c,(cellsFrom n sc.names []).lookup x=some c:=by
 have q:=PySem.W.cellsFrom_some sc.names n [] (.inl h)
 exact Option.isSome_iff_exists.mp q
theorem inv_start{CX:CXT}{P:Program}{w:World}{K:PySem.W.Frag}{mg:Str→Option Value}{base:Heap}{N ps:List Str}{qual:Str}{scope:Scope}{f:Addr}{cd:Value}{A:Around}{outer:List Env}{s s1:Shared}{H:Hp}{E:XK}{us:List Value}{vs:List V}
  (S:FnScope N ps scope) (hd:A.handled=none) (e0:Env0 P w K mg base A outer s H) (hl:vs.length=ps.length) (r:Vals vs us)
  (x:InCallC s s.heap.objs.size (bindL (envOfC qual scope s.heap.objs.size f cd).kindOf (ps.zip us) fun _=>none) (cellsFrom (s.heap.objs.size+1) scope.names []) (bindC (envOfC qual scope s.heap.objs.size f cd).kindOf (ps.zip us) fun _=>none) s1) :
  Inv (cxOf CX P w K mg base N qual scope f cd A outer s H E) [] (start N vs) H s1:=by
 have hpl:ps.length≤N.length:=by have:=congrArg List.length S.pre; rw[List.length_take]at this; omega
 obtain⟨h1,tk,rfl,hk⟩:=x.done
 have noA:∀ b:Addr,b ∉ (cxOf CX P w K mg base N qual scope f cd A outer s H E).ex:=fun b z=>absurd (show b∈([]:List Addr) from z) (by simp)
 refine⟨⟨e0.mod,S.kind,rfl,rfl,Nat.le_refl _,fun y z c h1 h2=>?_,fun y hy=>?_,fun y c _ h=>?_,fun _=>hd,Around.frames_deeper e0.frames,.inr ⟨rfl,rfl⟩,fun b z=>absurd z (noA b),e0.bs,e0.bsz,fun b _ _=>noA b,fun b z=>absurd z (noA b),e0.funs,e0.frf⟩,
  rfl,e0.bare,Un.kept hk,⟨_,x.toInCall.ns,fun i y v h1 h2 h3=>?_⟩,fun y c h=>⟨_,x.cell y c h⟩,e0.hok.fresh (Nat.le_refl _),fun y c h=>?_,fun p hp=>absurd (show p∈([]:List (Addr×Obj)) from hp) (by simp),e0.hok.kept hk,?_⟩
 ·exact name_of_addr x.apart (PySem.mem_of_lookup h1) (PySem.mem_of_lookup h2)
 ·have hy:scope.names.lookup y=some .cell∨scope.names.lookup y=some .free:=hy
  rcases hy with hy|hy
  ·exact cell_has hy
  ·exact absurd rfl (S.nofree _ (PySem.mem_of_lookup hy))
 ·exact Nat.le_of_lt (x.above y c (PySem.mem_of_lookup h))
 ·have hi:i<vs.length:=by
   unfold start at h2
   by_cases hi:i<vs.length
   ·exact hi
   ·rw[List.getElem?_append_right (by simpa using hi)]at h2
    rw[List.getElem?_replicate]at h2
    split at h2<;>cases h2
  have ha:vs[i]?=some v:=by
   unfold start at h2
   rw[List.getElem?_append_left (by simpa using hi),List.getElem?_map]at h2
   cases e:vs[i]? with
   |none=>rw[e]at h2; cases h2
   |some a=>rw[e]at h2; cases h2; rfl
  obtain⟨u,hu,rv⟩:=r.get ha
  have hp:ps[i]?=some y:=by
   rw[← S.pre,List.getElem?_take_of_lt (by omega)]; exact h1
  have ndP:ps.Nodup:=by rw[← S.pre]; exact S.nd.sublist (List.take_sublist _ _)
  refine⟨u,rv,?_⟩
  rcases S.par y (List.mem_of_getElem? hp) with k|k
  ·exact .inl ⟨k,bindL_get ndP hp hu k⟩
  ·obtain⟨c,e⟩:=cell_has (n:=s.heap.objs.size+1) k
   refine .inr ⟨.inl k,c,e,?_⟩
   have q:=x.cell y c e
   rw[bindC_get ndP hp hu (by show scope.names.lookup y≠_; rw[k]; decide)]at q
   exact q
 ·exact e0.hok.fresh (Nat.le_of_lt (x.above y c (PySem.mem_of_lookup h)))
 ·unfold start
  show _=N.length
  rw[List.length_append,List.length_map,List.length_replicate]
  omega
theorem fn_of{CX:CXT}{P:Program}{w:World}{K:PySem.W.Frag}{mg:Str→Option Value}{base:Heap}{k:Nat}{f:Addr}{name qual:Str}{params:Arguments}{body:List Stmt}{scope:Scope}{dV kV doc pm cdv ct oc:Value}{an od:Option Addr}
  {osl:Array (Option Value)}{N ps:List Str}{sp:Sp}(lk:K.lookup f=some ⟨oc,od,.func (PySem.W.fnOf name qual params body scope dV kV doc pm an cdv ct),osl⟩) (hcd:PySem.W.codeIn K cdv qual=true) (S:FnScope N ps scope)
  (len:∀ vs H Q E,sp vs H Q E→vs.length=ps.length)
  (hbody:∀ (A:Around) (outer:List Env) (s:Shared) (H:Hp) (vs:List V) (Q:VK) (E:XK),Room k (A.deeper (envOfC qual scope s.heap.objs.size f cdv))→sp vs H Q E→
   ∃ t,PSs (cxOf CX P w K mg base N qual scope f cdv A outer s H E) body t∧t { nx:=fun _ H'=>Q .non H',rt:=Q } (start N vs) H) :
  FnOk P w K mg base CX (k+1) f (PySem.W.fnOf name qual params body scope dV kV doc pm an cdv ct) ps sp:=by
 refine⟨len,fun A outer s H args us vs Q E hr e0 hb r hsp=>?_⟩
 have hl:=len _ _ _ _ hsp
 have KX:K.In s.heap:=e0.mod.kin.keeps fun b o e=>(e0.bs b o e).1
 have lim:s.heap.NoLimit:=e0.mod.nolimit.keeps fun b o e=>(e0.bs b o e).1
 have hkind:∀ y∈ps.zip us,scope.names.lookup y.1=some .local∨(scope.names.lookup y.1=some .cell∧((cellsFrom (s.heap.objs.size+1) scope.names []).lookup y.1).isSome=true):=fun ⟨n,v⟩ hy=>by
  rcases S.par n (List.of_mem_zip hy).1 with q|q
  ·exact .inl q
  ·exact .inr ⟨q,PySem.W.cellsFrom_some _ _ _ (.inl q)⟩
 refine codeAny_call_function hr.depth (KX _ _ lk) rfl S.co S.gen rfl (PySem.W.codeRec_of KX hcd) (hb _ _ _ _ ?_)
 refine wpAny_newFunctionEnv_cells S.kind hkind fun env he s1 x=>?_
 subst he
 refine⟨lim.keeps x.toInCall.keep,codeAny_func ?_⟩
 obtain⟨t,ht,hq⟩:=hbody A outer s H vs Q E (hr.deeper _) hsp
 have I:Inv (cxOf CX P w K mg base N qual scope f cdv A outer s H E) [] (start N vs) H s1:=inv_start S hr.hd e0 hl r x
 refine wpAny_mono (ht [] s1 (start N vs) H _ I hq) (fun fl s' hs=>?_) fun e s' hs=>hs
 have fin:∀ {σ':St}{H':Hp}{v:V}{u:Value},Inv (cxOf CX P w K mg base N qual scope f cdv A outer s H E) [] σ' H' s'→RelV v u→Q v H'→CE outer P w H s Q u s':=
  fun {σ' H' v u} J rv q=>⟨v,H',J.os,J.bare,J.base,J.hok,rv,q⟩
 cases fl with
 |ret u=>
  obtain⟨v,σ',H',J,rv,q⟩:=hs
  exact fin J rv q
 |next=>
  obtain⟨σ',H',J,q⟩:=hs
  exact fin (v:=V.non) (u:=Value.none) J rfl q
 |brk=>
  obtain⟨_,_,_,q⟩:=hs
  exact False.elim q
 |cont=>
  obtain⟨_,_,_,q⟩:=hs
  exact False.elim q
end L2
namespace L2
open PySem PySem.Spec PyProof.Rows
section
variable {X:Cx}{x:Str}{p pos:Pos}{e:Expr}{es:List Expr}{t:TA}{id T:String}{r:List V→Hp→VK→Prop}
noncomputable def tCB(r:List V→Hp→VK→Prop)(t:TA):TE:=fun σ H Q=>t σ H fun vs H1=>r vs H1 Q
theorem pe_callB(hc:CallR X (.builtin id) r)(hg:Gl X x)(hm:X.mg x=none)(hv:bootBuiltins x=some (.builtin id))(ha:PA X (e::es) t)(hn:x ≠ "__name__":=by decide)(hdb:(x==("__debug__" : Str))=false:=by decide)
  (he:starEach (e::es) X.env=(false,eval e X.env)::starEach es X.env:=by rfl) (hpl:(backTo pos (starEach es X.env)).any (·.1)=false:=by rfl):PE X (.Call (.Name x p) (e::es) [] pos) (tCB r t):=by
 intro pins s σ H Q I h
 refine wpAny_Call_Name_kw (ld_blt I hg hm hv ?_ hn hdb)
 exact PyProof.Rows.callWith_builtin1 (thn (ha pos pins s σ H _ I h) fun us s1 ⟨vs,H1,I1,r1,q1⟩=>hc pins s1 σ H1 vs us Q I1 r1 q1) he hpl
theorem pe_callTy(hc:CallR X (.type T) r)(hg:Gl X x)(hm:X.mg x=none)(hv:bootBuiltins x=some (.type T))(ha:PA X (e::es) t)(hn:x ≠ "__name__":=by decide)(hdb:(x==("__debug__" : Str))=false:=by decide)
  (he:starEach (e::es) X.env=(false,eval e X.env)::starEach es X.env:=by rfl) (hpl:(backTo pos (starEach es X.env)).any (·.1)=false:=by rfl):PE X (.Call (.Name x p) (e::es) [] pos) (tCB r t):=by
 intro pins s σ H Q I h
 refine wpAny_Call_Name_kw (ld_blt I hg hm hv ?_ hn hdb)
 exact PyProof.Rows.callWith_type1 (thn (ha pos pins s σ H _ I h) fun us s1 ⟨vs,H1,I1,r1,q1⟩=>hc pins s1 σ H1 vs us Q I1 r1 q1) he hpl
end
end L2
namespace HT
open PySem PyProof.Rows
section
open PySem.SeqAt
open PySem.AutoSeq1 (wpAny_loadPart')
open PySem.MeetsSeq PySem.MeetsSeq2 PySem.MeetsSeq3
end
section
variable {prog:Program}{w:World}{A:Around}{E:Value→Shared→Prop}{s:Shared}
theorem cat_tup{t b:Addr}{vs ws:List Value}{Q:Value→Shared→Prop}(ht:IsTup s.heap t vs.toArray)(hb:IsTup s.heap b ws.toArray)(hv:vs≠[])
  (h1:ws=[]→Q (.ref t) s) (h2:ws≠[]→Q (.ref s.heap.objs.size) { s with heap:=s.heap.push { cls:=.type "tuple",data:=.seq (vs++ws).toArray } })
  (hsz:vs.length+ws.length≤sizeLine):wpAny (model prog w) A (binaryOp .Add (.ref t) (.ref b)) Q E s:=by
 obtain⟨⟨cls,dd,data,sl⟩,ho,hc,n,hd⟩:=id ht
 obtain⟨⟨cls2,dd2,data2,sl2⟩,ho2,hc2,n2,hd2⟩:=id hb
 simp only at hc hd hc2 hd2
 subst hc hd hc2 hd2
 have e:vs.toArray++ws.toArray=(vs++ws).toArray:=by simp
 by_cases hw:ws=[]
 ·exact concat_meets ⟨_,ho,rfl⟩ ⟨_,ho2,rfl⟩ noFill_tuple_add seq_tuple_add PySem.F.slot_tuple_add PySem.F.entry_tuple_add (PySem.F.args_tuple_add_2 _ _)
   (tuple_addW1 t b vs.toArray ws.toArray n n2 dd dd2 sl sl2 (by simpa using hv) (by simp[hw])) ⟨ho,ho2,h1 hw⟩
 ·refine concat_meets ⟨_,ho,rfl⟩ ⟨_,ho2,rfl⟩ noFill_tuple_add seq_tuple_add PySem.F.slot_tuple_add PySem.F.entry_tuple_add (PySem.F.args_tuple_add_2 _ _)
   (tuple_addW2 t b vs.toArray ws.toArray n n2 dd dd2 sl sl2 (by simpa using hv) (by simpa using hw) (by rw[List.size_toArray,List.size_toArray]; exact hsz)) ⟨ho,ho2,?_⟩
  rw[e]
  exact h2 hw
noncomputable def sIx(n d:Nat):Option Int→Nat
 |none=>d
 |some v=>if v<0 then(v+(n:Int)).toNat else min v.toNat n
theorem sIx_le(n d:Nat)(hd:d≤n)(o:Option Int):sIx n d o≤n:=by
 cases o with
 |none=>exact hd
 |some v=>
  show(if v<0 then(v+(n:Int)).toNat else min v.toNat n)≤n
  by_cases hv:v<0
  ·rw[if_pos hv]; omega
  ·rw[if_neg hv]; exact Nat.min_le_right _ _
theorem clip_eq(v:Int)(n d:Nat):(if v<0 then max (v+(n:Int)) 0 else min v (n:Int))=((sIx n d (some v):Nat):Int):=by
 show(if v<0 then max (v+(n:Int)) 0 else min v (n:Int))=(((if v<0 then(v+(n:Int)).toNat else min v.toNat n):Nat):Int)
 by_cases hv:v<0
 ·simp only[if_pos hv]; omega
 ·simp only[if_neg hv]; omega
theorem adjust_gen(lo hi:Option Int)(n:Nat):Builtin.Slice.sliceAdjust lo hi 1 (n:Int)=(((sIx n 0 lo:Nat):Int),((sIx n n hi:Nat):Int)):=by
 have h1:¬ ((1:Int)<0):=by omega
 unfold Builtin.Slice.sliceAdjust
 simp only[h1,if_false]
 refine Prod.ext ?_ ?_
 ·cases lo with
  |none=>rfl
  |some v=>exact clip_eq v n 0
 ·cases hi with
  |none=>rfl
  |some v=>exact clip_eq v n n
theorem places_gen(i j:Nat):Builtin.Slice.slicePlaces (i:Int) (j:Int) 1=j - i:=by
 unfold Builtin.Slice.slicePlaces
 have h1:(1:Int) > 0:=by omega
 simp only[h1,if_true,Int.ediv_one]
 split<;>omega
theorem slicePart_{v:Value}{o:Option Int}{Q:Option Int→Shared→Prop}(p:IsPart v o)(h:Q o s):wpAny (model prog w) A (Builtin.Slice.slicePartIndex v) Q E s:=by
 cases p with
 |none=>exact slicePart_none h
 |int i t=>exact slicePart_int h
theorem sliceApplied_gen{sl:Addr}{vl vu:Value}{lo hi:Option Int}{n:Nat}{Q:Int×Int×Nat→Shared→Prop}(hs:s.heap.IsSliceOf sl vl vu .none)(pl:IsPart vl lo)(pu:IsPart vu hi)
  (h:Q (((sIx n 0 lo:Nat):Int),1,sIx n n hi - sIx n 0 lo) s):wpAny (model prog w) A (Builtin.Slice.sliceApplied (.ref sl) (pure (n:Int))) Q E s:=by
 obtain⟨os,hos,hcs,hds⟩:=id hs
 unfold Builtin.Slice.sliceApplied Builtin.Slice.sliceFields
 refine wpAny_bind (wpAny_bind (wpAny_field hos hds (x:=vl) rfl (wpAny_bind (wpAny_field hos hds (x:=vu) rfl (wpAny_bind (wpAny_field hos hds (x:=.none) rfl (wpAny_pure ?_)))))))
 refine wpAny_bind (slicePart_none ?_)
 show wpAny _ _ (if ((1:Int)==0)=true then _ else _) _ _ s
 rw[if_neg (by decide)]
 refine wpAny_bind (slicePart_ pl (wpAny_bind (slicePart_ pu (wpAny_bind (wpAny_pure ?_)))))
 show wpAny _ _ (match Builtin.Slice.sliceAdjust lo hi 1 (n:Int) with|(lo,hi)=>pure (lo,(1:Int),Builtin.Slice.slicePlaces lo hi 1)) _ _ s
 rw[adjust_gen lo hi n]
 show wpAny _ _ (pure (((sIx n 0 lo:Nat):Int),(1:Int),Builtin.Slice.slicePlaces ((sIx n 0 lo:Nat):Int) ((sIx n n hi:Nat):Int) 1)) _ _ s
 rw[places_gen]
 exact wpAny_pure h
theorem pick_gen(xs:Array Value)(i k:Nat):((List.range k).filterMap fun(m:Nat)=>xs[((i:Int)+(m:Int)*1).toNat]?).toArray=((xs.toList.drop i).take k).toArray:=by
 have e:(fun(m:Nat)=>xs[((i:Int)+(m:Int)*1).toNat]?)=fun m=>xs[i+m]?:=by
  funext m
  have:((i:Int)+(m:Int)*1).toNat=i+m:=by omega
  rw[this]
 rw[e]
 have:=pick_run xs i k
 rw[List.filterMap_map]at this
 have e2:((fun x=>xs[x]?)∘fun x=>i+x)=fun m=>xs[i+m]?:=rfl
 rw[e2]at this
 rw[this]
theorem getItem_tuple_cut{t sl:Addr}{items:Array Value}{vl vu:Value}{lo hi:Option Int}{Q:Value→Shared→Prop}(ht:IsTup s.heap t items)(hs:s.heap.IsSliceOf sl vl vu .none)(pl:IsPart vl lo)(pu:IsPart vu hi)
  (hw:¬ (sIx items.size 0 lo=0∧sIx items.size items.size hi=items.size))
  (h:Q (.ref s.heap.objs.size) { s with heap:=s.heap.push { cls:=.type "tuple",data:=.seq ((items.toList.drop (sIx items.size 0 lo)).take (sIx items.size items.size hi - sIx items.size 0 lo)).toArray } })
  (hsz:items.size≤sizeLine):wpAny (model prog w) A (getItem (.ref t) (.ref sl)) Q E s:=by
 have htake:sizeOk (.seq ((items.toList.drop (sIx items.size 0 lo)).take (sIx items.size items.size hi - sIx items.size 0 lo)).toArray):=by
  show((items.toList.drop (sIx items.size 0 lo)).take (sIx items.size items.size hi - sIx items.size 0 lo)).toArray.size≤sizeLine
  rw[List.size_toArray,List.length_take,List.length_drop,Array.length_toList]
  omega
 have hj:sIx items.size items.size hi≤items.size:=sIx_le _ _ (Nat.le_refl _) hi
 obtain⟨os,hos,hcs,hds⟩:=id hs
 have hTs:s.TypeIs (.ref sl) "slice":=⟨os,hos,hcs⟩
 unfold getItem
 try with_reducible refine wpAny_holding ?_
 first|refine wpAny_bind (wpAny_pure ?_)|skip
 refine wpAny_bind (wpAny_sequenceKey ht.typeIs (by decide) ?_)
 refine wpAny_bind (wpAny_callSpecial?_slot (name:=Str.ofString "__getitem__") ht.typeIs PyProof.Rows.slot_tuple_getitem
  (wpAny_call_entry PyProof.Rows.slot_tuple_getitem ht.typeIs entry_tuple_getitem ?_ (args_tuple_getitem _ _)))
 show wpAny _ _ (Builtin.Tuple.tupleItemsOf (.ref t) >>= _) _ _ s
 refine wpAny_bind (tupleItemsOf_ ht ?_)
 refine wpAny_bind (wpAny_typeOf hTs ?_)
 rw[if_pos (by decide)]
 refine wpAny_bind (sliceApplied_gen hs pl pu ?_)
 have hno:¬ ((((sIx items.size 0 lo:Nat):Int)==0&&(1:Int)==1&&(sIx items.size items.size hi - sIx items.size 0 lo)==items.size)=true):=by
  intro q
  rw[Bool.and_eq_true,Bool.and_eq_true]at q
  have q1:((sIx items.size 0 lo:Nat):Int)=0:=eq_of_beq q.1.1
  have q2:sIx items.size items.size hi - sIx items.size 0 lo=items.size:=eq_of_beq q.2
  exact hw ⟨by omega,by omega⟩
 show wpAny _ _ (if (((sIx items.size 0 lo:Nat):Int)==0&&(1:Int)==1&&(sIx items.size items.size hi - sIx items.size 0 lo)==items.size)=true then _ else _) _ _ s
 rw[if_neg hno,pick_gen]
 first
  |exact wpAny_bind (m:=Builtin.Tuple.tupleExact _) (wpAny_newObj_type (wpAny_pure ⟨_,rfl,wpAny_pure h⟩) htake)
  |exact wpAny_bind (m:=Builtin.Tuple.tupleExact _) (wpAny_newObj_type (wpAny_bind (wpAny_pure (wpAny_pure ⟨_,rfl,wpAny_pure h⟩))) htake)
  |exact wpAny_bind (wpAny_bind (m:=Builtin.Tuple.tupleExact _) (wpAny_newObj_type (wpAny_pure (wpAny_pure ⟨_,rfl,wpAny_pure h⟩)) htake))
  |exact wpAny_bind (wpAny_bind (m:=Builtin.Tuple.tupleExact _) (wpAny_newObj_type (wpAny_pure ⟨_,rfl,wpAny_pure h⟩) htake))
end
end HT
namespace L2
open PySem PySem.Spec PyProof.Rows
abbrev TO:=St→Hp→(Option Int→Hp→Prop)→Prop
def PO(X:Cx)(e:Option Expr)(t:TO):Prop:=
 ∀ (pins:List (Addr×Obj)) (s:Shared) (σ:St) (H:Hp) (Q:Option Int→Hp→Prop),Inv X pins σ H s→t σ H Q→
  wpAny (model X.prog X.w) X.A (evalPart e X.env) (fun u s'=>∃ o H',Inv X pins σ H' s'∧IsPart u o∧Q o H') X.xe s
noncomputable def tNoPart:TO:=fun _ H Q=>Q none H
noncomputable def tPart(t:TE):TO:=fun σ H Q=>t σ H fun x H1=>∃ i,x=.int i∧Q (some i) H1
section
variable {X:Cx}{e:Expr}{te:TE}{lo hi:Option Expr}{tl th:TO}{pos p2:Pos}
theorem po_none:PO X none tNoPart:=by
 intro pins s σ H Q I h
 rw[evalPart_none]
 exact wpAny_pure ⟨none,H,I,.none,h⟩
theorem po_some(h:PE X e te):PO X (some e) (tPart te):=by
 intro pins s σ H Q I hw
 rw[evalPart_some]
 refine thn (h pins s σ H _ I hw) fun u s1 ⟨x,H1,I1,r1,q1⟩=>?_
 obtain⟨i,rfl,q⟩:=q1
 obtain⟨t,rfl⟩:=r1
 exact⟨some i,H1,I1,.int i t,q⟩
def SlR(X:Cx)(r:V→Option Int→Option Int→Hp→VK→Prop):Prop:=
 ∀ (pins:List (Addr×Obj)) (s:Shared) (σ:St) (H:Hp) (x:V) (v vl vu:Value) (lo hi:Option Int) (sl:Addr) (Q:VK),Inv X pins σ H s→RelV x v→s.heap.IsSliceOf sl vl vu .none→IsPart vl lo→IsPart vu hi→r x lo hi H Q→
  ∃ T id,typeLookup (.type T) "__getitem__" = pure (some (.builtin id))∧s.TypeIs v T∧wpAny (model X.prog X.w) X.A (getItem v (.ref sl)) (EP X pins σ Q) X.xe s
theorem SlR.or{r r':V→Option Int→Option Int→Hp→VK→Prop}(h:SlR X r)(h':SlR X r'):SlR X (fun x lo hi H Q=>r x lo hi H Q∨r' x lo hi H Q):=by
 intro pins s σ H x v vl vu lo hi sl Q I rx hs pl pu q
 rcases q with q|q
 ·exact h pins s σ H x v vl vu lo hi sl Q I rx hs pl pu q
 ·exact h' pins s σ H x v vl vu lo hi sl Q I rx hs pl pu q
noncomputable def tSl(r:V→Option Int→Option Int→Hp→VK→Prop)(te:TE)(tl th:TO):TE:=fun σ H Q=>te σ H fun x H1=>tl σ H1 fun l H2=>th σ H2 fun u H3=>r x l u H3 Q
theorem pe_slice{r:V→Option Int→Option Int→Hp→VK→Prop}(hr:SlR X r)(he:PE X e te)(hl:PO X lo tl)(hu:PO X hi th):PE X (.Subscript e (.Slice lo hi none p2) pos) (tSl r te tl th):=by
 intro pins s σ H Q I h
 refine Subscript_ (thn (he pins s σ H _ I h) fun v s1 ⟨x,H1,I1,r1,q1⟩=>?_)
 refine wpAny_Slice (thn (hl pins s1 σ H1 _ I1 q1) fun vl s2 ⟨l,H2,I2,pl,q2⟩=>thn (hu pins s2 σ H2 _ I2 q2) fun vu s3 ⟨u,H3,I3,pu,q3⟩=>?_)
 rw[evalPart_none]
 refine wpAny_pure ?_
 have I4:Inv X pins σ H3 { s3 with heap:=s3.heap.push { cls:=.type "slice",data:=.fields #[vl,vu,.none] } }:=I3.kept (t':=s3.toks) fun b ob q=>Heap.get?_push_of_some _ q
 obtain⟨T,id,hT,ht,hg⟩:=hr pins { s3 with heap:=s3.heap.push { cls:=.type "slice",data:=.fields #[vl,vu,.none] } } σ H3 x v vl vu l u s3.heap.objs.size Q I4 r1 (Heap.IsSliceOf.new ..) pl pu q3
 show wpAny (model X.prog X.w) X.A (subscriptTail e (.Slice lo hi none p2) v (.ref s3.heap.objs.size)) (EP X pins σ Q) X.xe { s3 with heap:=s3.heap.push { cls:=.type "slice",data:=.fields #[vl,vu,.none] } }
 exact tail_any (ops:=[.ref s3.heap.objs.size,v]) ht hT hg (by with_unfolding_all rfl)
noncomputable def cutV(xs:List V)(lo hi:Option Int):List V:=(xs.drop (HT.sIx xs.length 0 lo)).take (HT.sIx xs.length xs.length hi - HT.sIx xs.length 0 lo)
theorem cutV_length(xs:List V)(lo hi:Option Int):(cutV xs lo hi).length≤xs.length:=by
 unfold cutV
 rw[List.length_take,List.length_drop]
 omega
def rSlT(K:PySem.W.Frag):V→Option Int→Option Int→Hp→VK→Prop:=fun x lo hi H Q=>∃ a xs,x=.ref a∧SqT K H a xs∧
 ¬ (HT.sIx xs.length 0 lo=0∧HT.sIx xs.length xs.length hi=xs.length)∧∀ p,H p=none→Q (.ref p) (upd H p (.tup (cutV xs lo hi)))
theorem sl_tup:SlR X (rSlT X.K):=by
 intro pins s σ H x v vl vu lo hi sl Q I rx hs pl pu h
 obtain⟨a,xs,rfl,hx,hw,q⟩:=h
 cases rx
 obtain⟨its,r,ht,hz⟩:=I.tuple hx
 have hlen:its.toArray.size=xs.length:=by rw[List.size_toArray]; exact r.length.symm
 refine⟨"tuple",_,PyProof.Rows.slot_tuple_getitem.lookup,ht.typeIs,?_⟩
 refine HT.getItem_tuple_cut ht hs pl pu (by rw[hlen]; exact hw) ?_ (by rw[hlen]; exact hz)
 rw[hlen]
 refine⟨.ref s.heap.objs.size,_,I.laid (t':=s.toks) (o:=.tup (cutV xs lo hi)) (fun b ob q=>Heap.get?_push_of_some _ q) (Nat.le_refl _) ?_,rfl,q _ (I.hok.fresh (Nat.le_refl _))⟩
 exact⟨Nat.le_trans (cutV_length xs lo hi) hz,_,(r.drop (HT.sIx xs.length 0 lo)).take (HT.sIx xs.length xs.length hi - HT.sIx xs.length 0 lo),IsTup.new _ _⟩
noncomputable def rCatT(K:PySem.W.Frag):R2:=fun x y H Q=>∃ a b xs ys,x=.ref a∧y=.ref b∧SqT K H a xs∧SqT K H b ys∧xs≠[]∧xs.length+ys.length≤sizeLine∧
 (ys=[]→Q (.ref a) H)∧(ys≠[]→∀ p,H p=none→Q (.ref p) (upd H p (.tup (xs++ys))))
theorem Vals.nil_iff{xs:List V}{us:List Value}(r:Vals xs us):us=[]↔xs=[]:=by
 cases r with
 |nil=>simp
 |cons _ _=>simp
theorem op_catT:OpR X (binaryOp .Add) (rCatT X.K):=by
 intro pins s σ H x y v u Q I rx ry h
 obtain⟨a,b,xs,ys,rfl,rfl,ha,hb,hx,hz,q1,q2⟩:=h
 cases rx
 cases ry
 obtain⟨its,r1,p1,_⟩:=I.tuple ha
 obtain⟨its2,r2,p2,_⟩:=I.tuple hb
 refine HT.cat_tup p1 p2 (fun z=>hx (r1.nil_iff.mp z)) (fun z=>⟨.ref a,H,I,rfl,q1 (r2.nil_iff.mp z)⟩) (fun z=>?_) (by rw[← r1.length,← r2.length]; exact hz)
 refine⟨.ref s.heap.objs.size,_,I.laid (t':=s.toks) (o:=.tup (xs++ys)) (fun b ob q=>Heap.get?_push_of_some _ q) (Nat.le_refl _) ?_,rfl,q2 (fun w=>z (r2.nil_iff.mpr w)) _ (I.hok.fresh (Nat.le_refl _))⟩
 exact⟨by rw[List.length_append]; exact hz,_,r1.append r2,IsTup.new _ _⟩
end
end L2
namespace L2
open PySem PySem.Spec PyProof.Rows
noncomputable def ixN(n:Nat)(i:Int):Option Nat:=if 0≤i then(if i<n then some i.toNat else none) else if -(n:Int)≤i then some (i+n).toNat else none
noncomputable def atI{α:Type}(xs:List α)(i:Int):Option α:=(ixN xs.length i).bind fun j=>xs[j]?
theorem ixN_seq{n:Nat}{i:Int}{j:Nat}(h:ixN n i=some j):seqIndex? i n=some j∧j<n∧-(n:Int)≤i∧i<n:=by
 unfold ixN at h
 by_cases h0:0≤i
 ·rw[if_pos h0]at h
  by_cases h1:i<n
  ·rw[if_pos h1]at h
   have e:i.toNat=j:=Option.some.inj h
   exact⟨by rw[seqIndex_of h0 h1,e],by omega,by omega,h1⟩
  ·rw[if_neg h1]at h; cases h
 ·rw[if_neg h0]at h
  by_cases h1:-(n:Int)≤i
  ·rw[if_pos h1]at h
   have e:(i+n).toNat=j:=Option.some.inj h
   exact⟨by rw[seqIndex_neg (by omega) h1,e],by omega,h1,by omega⟩
  ·rw[if_neg h1]at h; cases h
theorem atI_get{α:Type}{xs:List α}{i:Int}{v:α}(h:atI xs i=some v):∃ j,seqIndex? i xs.length=some j∧xs[j]?=some v∧j<xs.length∧-(xs.length:Int)≤i∧i<xs.length:=by
 unfold atI at h
 cases e:ixN xs.length i with
 |none=>rw[e]at h; cases h
 |some j=>
  rw[e]at h
  obtain⟨h1,h2,h3,h4⟩:=ixN_seq e
  exact⟨j,h1,h,h2,h3,h4⟩
def PlainIx(b:Expr):Prop:=∀ o i,subscripted b false o i=operate [o,i] (getItem o i)
def IxR(X:Cx)(r:R2):Prop:=
 ∀ (value slice:Expr) (pins:List (Addr×Obj)) (s:Shared) (σ:St) (H:Hp) (x y:V) (v u:Value) (Q:VK),Inv X pins σ H s→RelV x v→RelV y u→r x y H Q→
  subscripted slice false v u=operate [v,u] (getItem v u)→wpAny (model X.prog X.w) X.A (subscriptTail value slice v u) (EP X pins σ Q) X.xe s
def MtR(X:Cx)(id:String)(r:V→List V→Hp→VK→Prop):Prop:=
 ∀ (pins:List (Addr×Obj)) (s:Shared) (σ:St) (H:Hp) (x:V) (xs:List V) (v:Value) (us:List Value) (Q:VK),Inv X pins σ H s→RelV x v→Vals xs us→r x xs H Q→
  wpAny (model X.prog X.w) X.A (call (.builtin id) (v::us)) (EP X pins σ Q) X.xe s
section
variable {X:Cx}{a b:Expr}{ta tb:TE}{pos:Pos}
theorem IxR.or{r r':R2}(h:IxR X r)(h':IxR X r'):IxR X (fun x y H Q=>r x y H Q∨r' x y H Q):=by
 intro value slice pins s σ H x y v u Q I rx ry q hs
 rcases q with q|q
 ·exact h value slice pins s σ H x y v u Q I rx ry q hs
 ·exact h' value slice pins s σ H x y v u Q I rx ry q hs
theorem MtR.or{id:String}{r r':V→List V→Hp→VK→Prop}(h:MtR X id r)(h':MtR X id r'):MtR X id (fun x xs H Q=>r x xs H Q∨r' x xs H Q):=by
 intro pins s σ H x xs v us Q I rx rs q
 rcases q with q|q
 ·exact h pins s σ H x xs v us Q I rx rs q
 ·exact h' pins s σ H x xs v us Q I rx rs q
theorem pe_ix{r:R2}(hr:IxR X r)(ha:PE X a ta)(hb:PE X b tb)(hs:PlainIx b):PE X (.Subscript a b pos) (tOp r ta tb):=by
 intro pins s σ H Q I h
 exact Subscript_ (binT ha hb I h fun v u s2 x y H2 I2 rx ry q=>hr a b pins s2 σ H2 x y v u Q I2 rx ry q (hs _ _))
noncomputable def rIxL(K:PySem.W.Frag):R2:=fun x y H Q=>∃ p xs i v,x=.ref p∧y=.int i∧SqL K H p xs∧atI xs i=some v∧Q v H
noncomputable def rIxT(K:PySem.W.Frag):R2:=fun x y H Q=>∃ p xs i v,x=.ref p∧y=.int i∧SqT K H p xs∧atI xs i=some v∧Q v H
noncomputable def rIxS:R2:=fun x y H Q=>∃ z i c,x=.str z∧y=.int i∧z.length≤sizeLine∧atI z.cps.toList i=some c∧Q (.str ⟨#[c]⟩) H
theorem ix_list:IxR X (rIxL X.K):=by
 intro value slice pins s σ H x y v u Q I rx ry h hs
 obtain⟨p,xs,i,z,rfl,rfl,hq,he,q⟩:=h
 cases rx
 obtain⟨t,rfl⟩:=ry
 obtain⟨its,r,pl,hz⟩:=I.list hq
 obtain⟨j,h1,h2,h3,h4,h5⟩:=atI_get he
 obtain⟨w,ew,rw'⟩:=r.get h2
 have hl:=r.length
 have hn:=line63
 have fin:EP X pins σ Q w s:=⟨z,H,I,rw',q⟩
 by_cases h0:0≤i
 ·have hj:i.toNat=j:=by
   rw[seqIndex_of h0 h5]at h1
   exact Option.some.inj h1
  exact item_listR pl.isList h0 (by omega) (by rw[hj]; simpa using ew) fin hs
 ·have hj:(i+(its.toArray.size:Int)).toNat=j:=by
   rw[seqIndex_neg (by omega) h4]at h1
   rw[List.size_toArray,← hl]
   exact Option.some.inj h1
  exact subscriptTail_builtinR (x:=w) pl.isList.typeIs slot_list_getitem.lookup
   (wpAny_getItem_list_neg (Q:=fun r s'=>r=w∧EP X pins σ Q r s') pl.isList (by omega) (by rw[List.size_toArray]<;>omega) (by omega) (by rw[hj]; simpa using ew) ⟨rfl,fin⟩) hs
theorem ix_tup:IxR X (rIxT X.K):=by
 intro value slice pins s σ H x y v u Q I rx ry h hs
 obtain⟨p,xs,i,z,rfl,rfl,hq,he,q⟩:=h
 cases rx
 obtain⟨t,rfl⟩:=ry
 obtain⟨its,r,pl,hz⟩:=I.tuple hq
 obtain⟨j,h1,h2,h3,h4,h5⟩:=atI_get he
 obtain⟨w,ew,rw'⟩:=r.get h2
 have hl:=r.length
 have hn:=line63
 have fin:EP X pins σ Q w s:=⟨z,H,I,rw',q⟩
 exact subscriptTail_builtinR (x:=w) pl.typeIs slot_tuple_getitem.lookup
  (getItem_tuple (j:=j) (Q:=fun r s'=>r=w∧EP X pins σ Q r s') pl (by omega) (by omega) (by rw[List.size_toArray,← hl]; exact h1) (by simpa using ew) ⟨rfl,fin⟩) hs
theorem ix_str:IxR X rIxS:=by
 intro value slice pins s σ H x y v u Q I rx ry h hs
 obtain⟨z,i,c,rfl,rfl,hz,he,q⟩:=h
 obtain⟨t,rfl⟩:=rx
 obtain⟨t',rfl⟩:=ry
 obtain⟨j,h1,h2,h3,h4,h5⟩:=atI_get he
 have hl:z.cps.toList.length=z.length:=by simp[Str.length]
 rw[hl]at h1 h4 h5
 have hn:=line63
 exact tail_any (typeIs_str s z t) slot_str_getitem.lookup (getItem_str (c:=c) (by
  have e1:decide (i < -(2 ^ 63:Int))=false:=decide_eq_false (by omega)
  have e2:decide (i ≥ 2 ^ 63)=false:=decide_eq_false (by omega)
  rw[e1,e2,Bool.or_false]) (by rw[h1]; simpa using h2) ⟨.str ⟨#[c]⟩,H,I.tok _,⟨_,rfl⟩,q⟩) hs
theorem Inv.lst{pins:List (Addr×Obj)}{σ:St}{H:Hp}{s:Shared}{p:Addr}{xs:List V}(I:Inv X pins σ H s)(h:H p=some (.lst xs)):
  ∃ (its:List Value) (n:Nat),Vals xs its∧s.heap.get? p=some { cls:=.type "list",data:=.seq its.toArray n }∧xs.length≤sizeLine:=by
 obtain⟨z,its,n,r,e⟩:=I.hok p _ h
 exact⟨its,n,r,e,z⟩
theorem slice_bounds(lo hi:Option Int)(n:Nat):(sliceBounds lo hi none n).1=((HT.sIx n 0 lo:Nat):Int)∧(sliceBounds lo hi none n).2.1=((HT.sIx n n hi:Nat):Int)∧(sliceBounds lo hi none n).2.2=1:=by
 refine⟨?_,?_,rfl⟩
 ·cases lo with
  |none=>simp[sliceBounds,HT.sIx]
  |some i=>
   simp only[sliceBounds,HT.sIx,Option.getD_none,show(1:Int) > 0 by decide,if_true]
   by_cases h:i<0
   ·simp only[h,if_true]<;>omega
   ·simp only[h,if_false]<;>omega
 ·cases hi with
  |none=>simp[sliceBounds,HT.sIx]
  |some i=>
   simp only[sliceBounds,HT.sIx,Option.getD_none,show(1:Int) > 0 by decide,if_true]
   by_cases h:i<0
   ·simp only[h,if_true]<;>omega
   ·simp only[h,if_false]<;>omega
theorem slicePick_cut(its:List Value)(lo hi:Option Int):slicePick its.toArray lo hi none=((its.drop (HT.sIx its.length 0 lo)).take (HT.sIx its.length its.length hi - HT.sIx its.length 0 lo)).toArray:=by
 obtain⟨h1,h2,h3⟩:=slice_bounds lo hi its.toArray.size
 unfold slicePick
 rw[h1,h2,h3]
 simp only[sliceRange_one,pick_run,List.size_toArray]<;>rfl
def rSlL(K:PySem.W.Frag):V→Option Int→Option Int→Hp→VK→Prop:=fun x lo hi H Q=>∃ a xs,x=.ref a∧SqL K H a xs∧∀ p,H p=none→Q (.ref p) (upd H p (.lst (cutV xs lo hi)))
theorem sl_list:SlR X (rSlL X.K):=by
 intro pins s σ H x v vl vu lo hi sl Q I rx hs pl pu h
 obtain⟨a,xs,rfl,hx,q⟩:=h
 cases rx
 obtain⟨its,r,ht,hz⟩:=I.list hx
 have hlen:=r.length
 refine⟨"list",_,slot_list_getitem.lookup,ht.isList.typeIs,?_⟩
 refine wpAny_getItem_list_slice ht.isList hs pl pu .none (by simp) ?_ (by rw[List.size_toArray]<;>omega)
 rw[slicePick_cut,← hlen]
 refine⟨.ref s.heap.objs.size,_,I.laid (t':=s.toks) (o:=.lst (cutV xs lo hi)) (fun b ob q=>Heap.get?_push_of_some _ q) (Nat.le_refl _) ?_,rfl,q _ (I.hok.fresh (Nat.le_refl _))⟩
 exact⟨Nat.le_trans (cutV_length xs lo hi) hz,_,0,(r.drop (HT.sIx xs.length 0 lo)).take (HT.sIx xs.length xs.length hi - HT.sIx xs.length 0 lo),Heap.get?_push_size _ rfl⟩
theorem call_len_seq:CallR X (.builtin "len") (fun xs H Q=>∃ p ys,xs=[.ref p]∧(SqL X.K H p ys∨SqT X.K H p ys)∧Q (.int ys.length) H):=by
 intro pins s σ H xs us Q I r h
 obtain⟨p,ys,rfl,hq,q⟩:=h
 obtain⟨u,rfl,rx⟩:=vals1 r
 cases rx
 have hn:=line63
 rcases hq with hq|hq
 ·obtain⟨its,r',pl,hz⟩:=I.list hq
  have hlen:=r'.length
  exact Calls.call_len_list pl.isList (by simp only[List.size_toArray]<;>omega) ⟨.int ys.length,H,I.tok _,⟨s.toks+1,by rw[List.size_toArray,hlen]⟩,q⟩
 ·obtain⟨its,r',pl,hz⟩:=I.tuple hq
  have hlen:=r'.length
  exact len_tuple pl (by simp only[List.size_toArray]<;>omega) ⟨.int ys.length,H,I.tok _,⟨s.toks+1,by rw[List.size_toArray,hlen]⟩,q⟩
theorem call_len_str:CallR X (.builtin "len") (fun xs H Q=>∃ z,xs=[.str z]∧z.length≤sizeLine∧Q (.int z.length) H):=by
 intro pins s σ H xs us Q I r h
 obtain⟨z,rfl,hz,q⟩:=h
 obtain⟨u,rfl,t,rfl⟩:=vals1 r
 have hn:=line63
 exact len_str (by omega) ⟨.int z.length,H,I.tok _,⟨_,rfl⟩,q⟩
theorem CallR.or{f:Value}{r r':List V→Hp→VK→Prop}(h:CallR X f r)(h':CallR X f r'):CallR X f (fun xs H Q=>r xs H Q∨r' xs H Q):=by
 intro pins s σ H xs us Q I rs q
 rcases q with q|q
 ·exact h pins s σ H xs us Q I rs q
 ·exact h' pins s σ H xs us Q I rs q
theorem call_tuple_of:CallR X (.type "tuple") (fun xs H Q=>∃ p ys,xs=[.ref p]∧((SqL X.K H p ys∧∀ l,H l=none→Q (.ref l) (upd H l (.tup ys)))∨(SqT X.K H p ys∧Q (.ref p) H))):=by
 intro pins s σ H xs us Q I r h
 obtain⟨p,ys,rfl,h⟩:=h
 obtain⟨u,rfl,rx⟩:=vals1 r
 cases rx
 rcases h with⟨hq,q⟩|⟨hq,q⟩
 ·obtain⟨its,r',pl,hz⟩:=I.list hq
  have hlen:=r'.length
  refine call_tuple_list pl.isList (fun h' kp=>?_) (by simp only[List.size_toArray]<;>omega)
  have I1:Inv X pins σ H { s with heap:=h' }:=I.kept (t':=s.toks) kp
  have I2:Inv X pins σ (upd H h'.objs.size (.tup ys)) { s with heap:=h'.push { cls:=.type "tuple",data:=.seq its.toArray } }:=
   I1.laid (t':=s.toks) (fun b o e=>Heap.get?_push_of_some _ e) (Nat.le_refl _) (show ObjOk X.prog X.w _ _ _ (.tup ys) from⟨hz,its,r',IsTup.new _ _⟩)
  exact⟨.ref h'.objs.size,_,I2,rfl,q _ (I1.hok.fresh (Nat.le_refl _))⟩
 ·obtain⟨its,r',pl,hz⟩:=I.tuple hq
  exact call_tuple_same pl ⟨.ref p,H,I,rfl,q⟩
def tyV(K:PySem.W.Frag)(T:String)(x:V)(H:Hp):Prop:=match x with
 |.str _=>T = "str"
 |.int _=>T = "int"
 |.ref p=>(T = "list"∧∃ xs,SqL K H p xs)∨(T = "tuple"∧∃ o,K.lookup p=some o∧o.cls=.type "tuple"∧o.dict=none)∨
   (T = "dict"∧((∃ kvs,H p=some (.dK kvs))∨∃ kvs,H p=some (.dT kvs)))∨(T = "set"∧∃ S n,H p=some (.set S n))
 |_=>False
theorem tyV_is{pins:List (Addr×Obj)}{σ:St}{H:Hp}{s:Shared}{T:String}{x:V}{v:Value}(I:Inv X pins σ H s)(r:RelV x v)(ty:tyV X.K T x H):
  s.TypeIs v T∧∀ a,v=.ref a→∃ ob,s.heap.get? a=some ob∧ob.dict=none:=by
 cases x with
 |str z=>
  obtain⟨t,rfl⟩:=r
  cases (show T = "str" from ty)
  exact⟨typeIs_str s z t,fun _ e=>nomatch e⟩
 |int i=>
  obtain⟨t,rfl⟩:=r
  cases (show T = "int" from ty)
  exact⟨typeIs_int s i t,fun _ e=>nomatch e⟩
 |ref p=>
  cases r
  rcases ty with⟨rfl,xs,hq⟩|⟨rfl,o,hk,hc,hd⟩|⟨rfl,hk⟩|⟨rfl,S,n,hk⟩
  ·obtain⟨its,_,pl,_⟩:=I.list hq
   refine⟨pl.isList.typeIs,fun a e=>?_⟩
   cases e
   obtain⟨o,n,e,c,hd,_⟩:=pl
   exact⟨o,e,hd⟩
  ·refine⟨⟨o,I.kIn p o hk,hc⟩,fun a e=>?_⟩
   cases e
   exact⟨o,I.kIn _ o hk,hd⟩
  ·have z:∃ o,s.heap.get? p=some o∧o.ExactDict:=by
    rcases hk with⟨kvs,hk⟩|⟨kvs,hk⟩
    ·obtain⟨_,_,_,_,o,_,_,e,ex,_⟩:=I.hok p _ hk
     exact⟨o,e,ex⟩
    ·obtain⟨_,_,_,_,o,_,_,e,ex,_⟩:=I.hok p _ hk
     exact⟨o,e,ex⟩
   obtain⟨o,e,ex⟩:=z
   refine⟨⟨o,e,ex.1⟩,fun a e2=>?_⟩
   cases e2
   exact⟨o,e,ex.2.1⟩
  ·obtain⟨o,_,_,_,e,ex,_⟩:=I.hok p _ hk
   refine⟨⟨o,e,ex.1⟩,fun a e2=>?_⟩
   cases e2
   exact⟨o,e,ex.2.1⟩
 |_=>exact False.elim ty
noncomputable def tBM(K:PySem.W.Frag)(T:String)(r:V→List V→Hp→VK→Prop)(to:TE)(t:TA):TE:=fun σ H Q=>to σ H fun x H1=>tyV K T x H1∧t σ H1 fun xs H2=>r x xs H2 Q
variable {o e:Expr}{es:List Expr}{to:TE}{t:TA}{name:Str}{apos cpos:Pos}{T id:String}{r:V→List V→Hp→VK→Prop}
theorem pe_bm(pa:PlainAttrs T)(slot:Slot T name id)(hty:typeOf (.builtin id)=pure (.type "method_descriptor"))(hm:MtR X id r)(ho:PE X o to)(ha:PA X (e::es) t)
  (hbase:attributeBase o name X.env (eval o X.env)=eval o X.env:=by rfl)
  (hfew:((backTo cpos (starEach (e::es) X.env)).all (fun x=>!x.1)&&(backToKw cpos (keywordEach [] X.env)).all (fun x=>x.1.isSome)
   && decide ((e::es).length+([]:List Keyword).length+(if ([]:List Keyword).isEmpty then 0 else 1)<30))=true:=by rfl)
  (hline:(apos.endLine==cpos.line)=true:=by rfl) (hs:starEach (e::es) X.env=(false,eval e X.env)::starEach es X.env:=by rfl) (hplain:(backTo cpos (starEach es X.env)).any (·.1)=false:=by rfl) :
  PE X (.Call (.Attribute o name apos) (e::es) [] cpos) (tBM X.K T r to t):=by
 intro pins s σ H Q I h
 refine wpAny_Call_method_late hbase hfew hline rfl (thn (ho pins s σ H _ I h) fun v s1 ⟨x,H1,I1,r1,ty,q1⟩=>?_)
 obtain⟨h1,h2⟩:=tyV_is I1 r1 ty
 refine⟨T,id,pa,slot,hty,h1,h2,?_⟩
 have hA:=ha cpos pins s1 σ H1 _ I1 q1
 rw[hs]at hA ⊢
 refine Calls.callWith_builtin (by show(false||(backTo cpos (starEach es X.env)).any (·.1))=false; rw[hplain]<;>rfl) (Calls.evalArgs_plain ?_)
 exact thn hA fun us s2 ⟨vs,H2,I2,r2,q2⟩=>hm pins s2 σ H2 x vs v us Q I2 r1 r2 q2
end
end L2
namespace L2
open PySem PySem.Spec PyProof.Rows
def MtM(X:Cx)(id:String)(r:V→List V→Hp→VK→Prop):Prop:=
 ∀ (pins:List (Addr×Obj)) (s:Shared) (σ:St) (H:Hp) (x:V) (xs:List V) (v:Value) (us:List Value) (Q:VK),Inv X pins σ H s→RelV x v→Vals xs us→r x xs H Q→
  wpAny (model X.prog X.w) X.A (call (.builtin id) (v::us)) (EP X pins σ Q) X.xe s
theorem Vals.one:∀ {x:V}{us:List Value},Vals [x] us→∃ u,us=[u]∧RelV x u
 |_,_,.cons r .nil=>⟨_,rfl,r⟩
theorem Vals.two:∀ {x y:V}{us:List Value},Vals [x,y] us→∃ u v,us=[u,v]∧RelV x u∧RelV y v
 |_,_,_,.cons r (.cons q .nil)=>⟨_,_,rfl,r,q⟩
theorem Vals.zero:∀ {us:List Value},Vals [] us→us=[]
 |_,.nil=>rfl
theorem Vals.reverse{xs:List V}{us:List Value}(h:Vals xs us):Vals xs.reverse us.reverse:=by
 induction h with
 |nil=>exact .nil
 |cons r t ih=>rw[List.reverse_cons,List.reverse_cons]; exact Vals.append ih (.cons r .nil)
theorem Vals.rep{xs:List V}{us:List Value}(h:Vals xs us):∀ k:Nat,Vals (List.replicate k xs).flatten (List.replicate k us).flatten
 |0=>.nil
 |k+1=>by
  rw[List.replicate_succ,List.replicate_succ,List.flatten_cons,List.flatten_cons]
  exact Vals.append h (Vals.rep h k)
theorem foldl_rep(its:List Value):∀ (k:Nat) (acc:List Value),
  List.foldl (fun x1 x2=>x1++x2) acc.toArray (List.replicate k its.toArray)=(acc++(List.replicate k its).flatten).toArray
 |0,acc=>by simp
 |k+1,acc=>by
  have e:acc.toArray++its.toArray=(acc++its).toArray:=by simp
  have e2:(acc++its)++(List.replicate k its).flatten=acc++(List.replicate (k+1) its).flatten:=by
   rw[List.replicate_succ,List.flatten_cons,List.append_assoc]
  rw[← e2,← foldl_rep its k (acc++its),← e,List.replicate_succ,List.foldl_cons]
section
variable {X:Cx}{pins:List (Addr×Obj)}{σ:St}{H:Hp}{s:Shared}{l b:Addr}{xs ys zs:List V}
theorem Inv.lset{its its':List Value}{n:Nat}{f:Array Value→Array Value}{t':Nat}(I:Inv X pins σ H s)(hH:H l=some (.lst xs))
  (e:s.heap.get? l=some { cls:=.type "list",data:=.seq its.toArray n }) (hf:f its.toArray=its'.toArray) (hv:Vals ys its') (hz:ys.length≤sizeLine) :
  Inv X pins σ (upd H l (.lst ys)) { s with heap:=s.heap.update l (Obj.mapSeq f),toks:=t' }:=by
 have q:=PySem.IsL.update e f
 rw[hf]at q
 refine I.write (x:=l) (e:=l) (by rw[hH]; exact trivial) (.inl rfl) (fun b' u hb hu=>(Heap.get?_update_other s.heap (Obj.mapSeq f) (Ne.symm hb)).trans hu) ⟨_,q⟩ ?_
 exact⟨hz,its',_,hv,q⟩
theorem Inv.lnew{its:List Value}{t':Nat}(I:Inv X pins σ H s)(hv:Vals ys its)(hz:ys.length≤sizeLine):
  Inv X pins σ (upd H s.heap.objs.size (.lst ys)) { s with heap:=s.heap.push { cls:=.type "list",data:=.seq its.toArray },toks:=t' }:=
 I.laid (fun _ _ q=>Heap.get?_push_of_some _ q) (Nat.le_refl _) ⟨hz,its,0,hv,Heap.get?_push_size _ rfl⟩
theorem Inv.fresh(I:Inv X pins σ H s):H s.heap.objs.size=none:=I.hok.fresh (Nat.le_refl _)
theorem Inv.lstM(I:Inv X pins σ H s)(hH:H l=some (.lst xs)):xs.length≤sizeLine∧∃ (its:List Value) (n:Nat),Vals xs its∧xs.length=its.length∧s.heap.get? l=some { cls:=.type "list",data:=.seq its.toArray n }:=by
 obtain⟨z,its,n,r,e⟩:=I.hok l _ hH
 exact⟨z,its,n,r,r.length,e⟩
theorem notLongL{n:Nat}(h:n≤sizeLine):Builtin.List.listTooLong n=false:=by
 unfold Builtin.List.listTooLong
 exact decide_eq_false (by omega)
end
section
variable {X:Cx}
def rAppend:V→List V→Hp→VK→Prop:=fun x vs H Q=>∃ l xs y,x=.ref l∧vs=[y]∧H l=some (.lst xs)∧xs.length<sizeLine∧Q .non (upd H l (.lst (xs++[y])))
theorem mt_append:MtM X "list.append" rAppend:=by
 intro pins s σ H x vs v us Q I rx rv h
 obtain⟨l,xs,y,rfl,rfl,hH,hz,q⟩:=h
 cases rx
 obtain⟨u,rfl,ru⟩:=rv.one
 obtain⟨z,its,n,r,hl,e⟩:=I.lstM hH
 refine call_meets F.slot_list_append ⟨_,e,rfl⟩ F.entry_list_append (F.args_list_append_2 _ _) (PySem.list_append l its.toArray n u (by rw[List.size_toArray]; omega)) ⟨e,?_⟩
 refine⟨.non,_,I.lset (its':=its++[u]) hH e (by simp) (r.append (.cons ru .nil)) ?_,rfl,q⟩
 rw[List.length_append,List.length_singleton]
 omega
noncomputable def rRep:R2:=fun x y H Q=>∃ l k xs,x=.ref l∧y=.int k∧H l=some (.lst xs)∧-(2 ^ 63)≤k∧k<2 ^ 63∧xs.length*k.toNat≤sizeLine∧
 ∀ p,H p=none→Q (.ref p) (upd H p (.lst (List.replicate k.toNat xs).flatten))
theorem len_rep{α:Type}(xs:List α)(k:Nat):(List.replicate k xs).flatten.length=k*xs.length:=by
 induction k with
 |zero=>simp
 |succ k ih=>rw[List.replicate_succ,List.flatten_cons,List.length_append,ih,Nat.succ_mul,Nat.add_comm]
theorem op_rep:OpR X (binaryOp .Mult) rRep:=by
 intro pins s σ H x y v u Q I rx ry h
 obtain⟨l,k,xs,rfl,rfl,hH,h1,h2,hz,q⟩:=h
 cases rx
 obtain⟨t,rfl⟩:=ry
 obtain⟨z,its,n,r,hl,e⟩:=I.lstM hH
 have hlen:its.toArray.size*k.toNat≤sizeLine:=by rw[List.size_toArray,← hl]; exact hz
 have hcap:¬ its.toArray.size*k.toNat > (2 ^ 63 - 1) / 8:=by
  have:(sizeLine:Nat)≤(2 ^ 63 - 1) / 8:=by decide
  omega
 have hfit:¬ (!Builtin.List.listFitsIndex k)=true:=by
  rw[fitsIndex_both h1 h2]
  exact Bool.false_ne_true
 have hlong:¬ Builtin.List.listTooLong (its.toArray.size*k.toNat)=true:=by
  rw[notLongL hlen]
  exact Bool.false_ne_true
 have hnew:List.foldl (fun x1 x2=>x1++x2) #[] (List.replicate (if its.toArray.isEmpty=true then 0 else k.toNat) its.toArray)=(List.replicate k.toNat its).flatten.toArray:=by
  have f0:∀ m:Nat,List.foldl (fun x1 x2=>x1++x2) #[] (List.replicate m its.toArray)=(List.replicate m its).flatten.toArray:=fun m=>by
   have:=foldl_rep its m []
   rw[List.nil_append]at this
   exact this
  rw[f0]
  cases its with
  |nil=>simp
  |cons a r'=>rw[if_neg (by simp)]
 refine wpAny_binaryOp_repeat_ref (T:="list") (U:="int") (by decide) ⟨_,e,rfl⟩ (fun s'=>typeIs_int s' k t) noFill_list_mul F.fills_int_mul F.slot_int_rmul repeat_list F.slot_int_index.lookup
  (call_meets F.slot_int_rmul (typeIs_int s k t) F.entry_int_rmul (F.args_int_rmul_2 _ _) (int___rmul___int_list k t l its.toArray n)
   ⟨e,rfl,⟨_,e,rfl⟩,call_meets F.slot_list_mul ⟨_,e,rfl⟩ F.entry_list_mul (F.args_list_mul_2 _ _) (AutoListH.list___mul___list_int_3 l its.toArray n k t hfit hcap hlong) ⟨e,?_⟩⟩)
 rw[hnew]
 exact⟨.ref _,_,I.lnew (t':=s.toks) (r.rep k.toNat) (by rw[len_rep,Nat.mul_comm]; exact hz),rfl,q _ I.fresh⟩
end
section
variable {prog:Program}{w:World}{A:Around}{E:Value→Shared→Prop}{s:Shared}
end
section
variable {X:Cx}
end
end L2
namespace Att
open PySem PySem.W PySem.Calls PyProof.Rows
theorem ints_of_wellAll{P:Params}{h:Heap}:∀ (ns:List Int) (vs:List Value),WellAll P h vs (ns.map WData.int)→IntsAre vs ns:=by
 intro ns
 induction ns with
 |nil=>
  intro vs w
  rw[List.map_nil]at w
  cases w
  exact .nil
 |cons n ns ih=>
  intro vs w
  rw[List.map_cons]at w
  cases w with
  |cons a b=>
   cases a
   exact .cons _ _ (ih _ b)
theorem script_of{l:OpenLaw}{n:Nat}(hn:l.most=some n){P:Params}{h:Heap}{args:List WData}{vals:List Value}
  (hpre:l.row.toRowW.claim.pre args=true) (hwl:WellAll P h vals args) :
  ∃ a vs ns,vals=[Value.ref a]∧args=[WData.list (ns.map WData.int)]∧h.get? a=some { cls:=.type "list",data:=.seq vs.toArray }∧IntsAre vs ns∧ns.length≤n:=by
 have hsh:WShape.hasAll [] args [.list .int]=true:=(pre_splitW hpre).1
 have hc:l.pre.holds [] { args:=args }=true:=(pre_splitW hpre).2
 obtain⟨d,r,rfl,h1,h2⟩:=hasAllW_cons hsh
 obtain rfl:=hasAllW_nil h2
 obtain⟨xs,rfl,h3⟩:=hasW_list h1
 obtain⟨ns,rfl⟩:=items_int h3
 have hlen:ns.length≤n:=by
  unfold OpenLaw.pre at hc
  have h4:(WTm.not (.lt (.lit (.int (n:Int))) (.len (.arg 0)))).holds [] { args:=[.list (ns.map .int)] }=true:=by
   have h4:=(holds_andW hc).1
   rw[hn]at h4
   exact h4
  have h5:=condW_of h4 (w_not (w_lt w_lit (w_len_list (w_arg rfl))))
  rw[List.length_map]at h5
  refine Nat.le_of_not_lt fun q=>?_
  have q':(n:Int)<((ns.length:Nat):Int):=by omega
  first
   |(rw[decide_eq_true q']at h5; exact absurd h5 (by decide))
   |(simp at h5; omega)
 cases hwl with
 |cons w1 w2=>
  cases w2
  cases w1 with
  |list ho hall=>exact⟨_,_,ns,rfl,rfl,ho,ints_of_wellAll ns _ hall,hlen⟩
theorem post_true(l:OpenLaw)(args:List WData):l.row.toRowW.claim.post args (.bool true) args=true:=
 postW_of (r:=l.row.toRowW) (X:=(true==true))
  (show WShape.has [] (.bool true) .bool=true by first|rfl|decide|simp[WShape.has,WShape.arms,WShape.armsAll])
  (show(WTm.eq .res (.lit (.bool true))).value [] { args:=args,res:=some (.bool true),after:=args }=some (.bool (true==true)) from w_eq_bool (w_res rfl) w_lit) rfl
theorem attach_call{l:OpenLaw}{n:Nat}{q:Program}{loose:List Str}{XP:(Str→Option Value)→Heap→Prop}{YP:World→Heap→Prop}{d:DefRec}
  (hn:l.most=some n) (hdf:d.params.defaults=[])
  (call:∀ (w:World) (s₀ s₁:Shared) (mg mb:Str→Option Value) (fa:Addr) (o:Obj) (pm cd doc:Value) (a:Addr) (vs:List Value) (ns:List Int),
   Ground q loose [] XP w s₀ mg mb s₁.heap→YP w s₁.heap→
   s₁.heap.get? fa=some o→o.data=.func (docDef d.name d.params d.body d.scope pm cd doc)→s₁.heap.CodeRec cd d.name→mg d.name=some (.ref fa)→
   s₁.heap.get? a=some { cls:=.type "list",data:=.seq vs.toArray }→IntsAre vs ns→ns.length≤n→s₁.gens=#[]→
   codeAny (model l.prog w) callerA (.call (.ref fa) ⟨[.ref a],[]⟩) (fun r s'=>r=.ok (.ret (.bool true))∧OldK s₁.heap s'.heap∧s'.os=s₁.os∧AllBare s'.gens) s₁) :
  WalkO q loose XP YP l.row.toRowW d [] (fun f vs=>PySem.call f vs):=by
 intro w s₀ s₁ mg mb G Y fa o pm cd doc dV kV ho hd hcd hD hmg hg args vals as hpre hlay hrd hwl hlo
 obtain rfl:dV=.none:=Dflts.none hD hdf
 obtain rfl:kV=.none:=Dflts.noKw hD
 obtain⟨a,vs,ns,rfl,rfl,hobj,hints,hlen⟩:=script_of hn hpre hwl
 refine enter_call (codeAny_mono (call w s₀ s₁ mg mb fa o pm cd doc a vs ns G Y ho (fd_plain hd) hcd hmg hobj hints hlen hg) fun r s' hq=>?_)
 obtain⟨rfl,h2,h3,h4⟩:=hq
 exact⟨.inl ⟨.bool true,.bool true,[],rfl,fun _=>rfl,.bool true,post_true l _,fun _=>⟨List.Pairwise.nil,fun _ hm=>(nomatch hm)⟩⟩,h2,h3,h4⟩
section
variable {prog:Program}{w:World}{A:Around}{E:Value→Shared→Prop}{s:Shared}{K:Frag}
end
end Att
namespace L2
open PySem PySem.Spec PyProof.Rows
theorem vals_ints:∀ {vs:List Value}{ns:List Int},IntsAre vs ns→Vals (ns.map V.int) vs
 |_,_,.nil=>.nil
 |_,_,.cons n t h=>.cons ⟨t,rfl⟩ (vals_ints h)
def Only(H:Hp):Prop:=∀ b,H b=none∨∃ o xs,H b=some (.frz o (.lst xs))
theorem law_call{P:Program}{w:World}{K:PySem.W.Frag}{mg mb:Str→Option Value}{CX:CXT}{k:Nat}{fa a:Addr}{fd:FuncData}{x:Str}{sp:Sp}{s₁:Shared}{vs:List Value}{ns:List Int}
  (KX:K.In s₁.heap) (hns:s₁.heap.Ns mainGlobals mg) (hb:s₁.heap.Ns builtinsNs mb) (hbb:∀ x:Str,x ≠ "__name__"→mb x=bootBuiltins x) (hlim:s₁.heap.NoLimit) (hg:s₁.gens=#[])
  (ha:s₁.heap.get? a=some { cls:=.type "list",data:=.seq vs.toArray }) (hi:IntsAre vs ns) (hl:ns.length≤sizeLine) (hr:Room k callerA)
  (F:∀ base:Heap,K.In base→base.Ns mainGlobals mg→FnOk P w K mg base CX k fa fd [x] sp) (hbind:∀ (s:Shared) (u:Value),BindsTo s fd ⟨[u],[]⟩ [(x,u)])
  (hsp:∀ H:Hp,Only H→SqL K H a (ns.map V.int)→sp [.ref a] H (fun v _=>v=.bl true) fun _ _ _=>False)
  (hCX:∀ H e s',CX [] H s₁ (fun _ _ _=>False) e s'→False) :
  codeAny (model P w) callerA (.call (.ref fa) ⟨[.ref a],[]⟩) (fun r s'=>r=.ok (.ret (.bool true))∧OldK s₁.heap s'.heap∧s'.os=s₁.os∧AllBare s'.gens) s₁:=by
 have rv:=vals_ints hi
 have lenV:=hi.length
 have core:∀ H:Hp,Only H→SqL K H a (ns.map V.int)→HOk P w H s₁.heap→(∀ b,H b≠none→b=a)→(H a≠none→K.lookup a=none)→
   codeAny (model P w) callerA (.call (.ref fa) ⟨[.ref a],[]⟩) (fun r s'=>r=.ok (.ret (.bool true))∧OldK s₁.heap s'.heap∧s'.os=s₁.os∧AllBare s'.gens) s₁:=by
  intro H hO hS hok hA hK
  have base_of:∀ {b:Addr}{o:Obj},s₁.heap.get? b=some o→H b=none→(hidT s₁.heap H).get? b=some o:=fun e n=>hidT_get e n
  have noA:∀ {b:Addr}{o:Obj}{es:Array DictEntry}{ep:Nat},s₁.heap.get? b=some o→o.data=.dict es ep→H b=none:=fun {b o es ep} e d=>by
   cases q:H b with
   |none=>rfl
   |some u=>
    have e':b=a:=hA b (by rw[q]; simp)
    subst e'
    rw[ha]at e; cases e
    have d':Data.seq vs.toArray _=Data.dict es ep:=d
    cases d'
  have nsK:∀ {b:Addr}{m:Str→Option Value},s₁.heap.Ns b m→(hidT s₁.heap H).Ns b m:=fun {b m} ⟨o,es,ep,e,d,r⟩=>⟨o,es,ep,base_of e (noA e d),d,r⟩
  have hKb:K.In (hidT s₁.heap H):=fun b o e=>base_of (KX b o e) (by
   cases q:H b with
   |none=>rfl
   |some u=>
    have e':b=a:=hA b (by rw[q]; simp)
    subst e'
    rw[hK (by rw[q]; simp)]at e; cases e)
  have hM:Mod K mg (hidT s₁.heap H):=⟨hKb,nsK hns,⟨mb,nsK hb,hbb⟩,let ⟨mc,h1,h2⟩:=hlim; ⟨mc,nsK h1,h2⟩⟩
  have e0:Env0 P w K mg (hidT s₁.heap H) callerA [] s₁ H:=⟨rfl,hM,fun b o e=>of_hidT e,Nat.le_of_eq (hidT_size _ _),trivial,fun b hb=>absurd (show b∈([]:List Addr) from hb) (by simp),hok,.of_eq hg⟩
  refine codeAny_mono ((F _ hKb (nsK hns)).run callerA [] s₁ H ⟨[.ref a],[]⟩ [.ref a] [.ref a] _ _ hr e0 (hbind s₁ (.ref a)) (.cons rfl .nil) (hsp H hO hS)) fun r s' h=>?_
  cases r with
  |error e=>exact(hCX H e s' h).elim
  |ok fl=>
   cases fl with
   |next=>exact False.elim h
   |brk=>exact False.elim h
   |cont=>exact False.elim h
   |ret u=>
    obtain⟨v,H',os,bare,un,hok',r',q⟩:=h
    have q':v=.bl true:=q
    subst q'
    obtain rfl:u=Value.bool true:=r'
    refine⟨rfl,OldK.of_keep fun b o e=>?_,os,bare⟩
    cases q:H b with
    |none=>exact un.keep b o e q (by intro z; exact absurd (show b∈([]:List Addr) from z) (by simp)) (by simp)
    |some u=>
     rcases hO b with z|⟨ob,xs,z⟩
     ·rw[q]at z; cases z
     ·have z2:=un.frzs b ob _ z
      obtain⟨e1,_⟩:=hok b _ z
      obtain⟨e2,_⟩:=hok' b _ z2
      rw[e]at e1; cases e1
      exact e2
 cases hk:K.lookup a with
 |some o=>
  have e:=KX a o hk
  rw[ha]at e
  cases e
  refine core (fun _=>none) (fun _=>.inl rfl) (.inr ⟨_,vs.toArray,_,hk,rfl,rfl,rfl,by rw[List.size_toArray,lenV]; exact hl,by simpa using rv⟩) (fun b u z=>by have z':(none:Option HO)=some u:=z; cases z') (fun b z=>absurd rfl z) fun z=>absurd rfl z
 |none=>
  refine core (fun b=>if b=a then some (.frz { cls:=.type "list",data:=.seq vs.toArray } (.lst (ns.map V.int))) else none) (fun b=>?_) (.inl (.inr ⟨{ cls:=.type "list",data:=.seq vs.toArray },if_pos rfl⟩)) (fun b u z=>?_) (fun b z=>?_) fun _=>hk
  ·by_cases hb:b=a
   ·exact .inr ⟨_,_,if_pos hb⟩
   ·exact .inl (if_neg hb)
  ·by_cases hb:b=a
   ·have z':=(if_pos hb).symm.trans z
    cases z'
    subst hb
    exact⟨ha,by rw[List.length_map]; exact hl,vs,_,rv,ha⟩
   ·have z':=(if_neg hb).symm.trans z
    cases z'
  ·by_cases hb:b=a
   ·exact hb
   ·exact absurd (if_neg hb) z
end L2
namespace L2
open PySem PySem.Spec PyProof.Rows
theorem walk_of{l:PySem.W.OpenLaw}{n k:Nat}{q:Program}{loose:List Str}{XP:(Str→Option Value)→Heap→Prop}{YP:World→Heap→Prop}{d:DefRec}{K:Params→PySem.W.Frag}{CX:World→CXT}{sp:World→Sp}{x:Str}
  (hn:l.most=some n) (hn2:n≤sizeLine) (hdf:d.params.defaults=[]) (hr:Room k callerA)
  (hY:∀ (w:World) (h:Heap),YP w h→(K w.params).In h)
  (F:∀ (w:World) (mg:Str→Option Value) (fa:Addr) (h:Heap),(K w.params).In h→h.Ns mainGlobals mg→mg d.name=some (.ref fa)→
   ∃ fd:FuncData,(∀ (s:Shared) (u:Value),BindsTo s fd ⟨[u],[]⟩ [(x,u)])∧
    ∀ base:Heap,(K w.params).In base→base.Ns mainGlobals mg→FnOk l.prog w (K w.params) mg base (CX w) k fa fd [x] (sp w))
  (hsp:∀ (w:World) (H:Hp) (a:Addr) (ns:List Int),ns.length≤n→Only H→SqL (K w.params) H a (ns.map V.int)→sp w [.ref a] H (fun v _=>v=.bl true) fun _ _ _=>False)
  (hCX:∀ (w:World) (H:Hp) (s:Shared) (e:Value) (s':Shared),CX w [] H s (fun _ _ _=>False) e s'→False) :
  PySem.W.WalkO q loose XP YP l.row.toRowW d [] (fun f vs=>PySem.call f vs):=by
 refine Att.attach_call hn hdf fun w s₀ s₁ mg mb fa o pm cd doc a vs ns G Y ho hd hcd hmg hobj hints hlen hg=>?_
 have KX:=hY w _ Y
 obtain⟨fd,hb,hF⟩:=F w mg fa _ KX G.T.g hmg
 exact law_call KX G.T.g G.T.b G.T.builtins G.T.nolimit hg hobj hints (Nat.le_trans hlen hn2) hr hF hb (fun H hO hS=>hsp w H a ns hlen hO hS) fun H e s'=>hCX w H s₁ e s'
end L2
namespace L2
open PySem PySem.Spec PyProof.Rows
noncomputable def defArgs(s:Stmt):Arguments:=match s with
 |.FunctionDef _ a _ _ _ _ _ _ _ _=>a
 |_=>{ posonlyargs:=[],args:=[],vararg:=none,kwonlyargs:=[],kw_defaults:=[],kwarg:=none,defaults:=[] }
noncomputable def defBody(s:Stmt):List Stmt:=match s with
 |.FunctionDef _ _ b _ _ _ _ _ _ _=>b
 |_=>[]
noncomputable def defScope(s:Stmt):Scope:=match s with
 |.FunctionDef _ _ _ _ _ _ sc _ _ _=>sc
 |_=>{ kind:=.function,names:=[],isGenerator:=false,isCoroutine:=false }
noncomputable abbrev CX0:CXT:=fun _ _ _ _ _ _=>False
noncomputable abbrev E0:XK:=fun _ _ _=>False
theorem pass0{X:Cx}:Passes CX0 X E0:=fun _ _ _ _ _ _ _ h=>h.elim
structure Fun (K:PySem.W.Frag) (x qual:Str) (st:Stmt) (f:Addr) (fd:FuncData):Prop where
 ex:∃ (oc:Value) (od:Option Addr) (kV doc pm:Value) (an:Option Addr) (cdv ct:Value) (osl:Array (Option Value)),
  fd=PySem.W.fnOf x qual (defArgs st) (defBody st) (defScope st) .none kV doc pm an cdv ct∧K.lookup f=some ⟨oc,od,.func fd,osl⟩∧PySem.W.codeIn K cdv qual=true
 kp:PySem.W.keepIn K (.ref f)=true
section
variable {P:Program}{w:World}{K:PySem.W.Frag}{mg:Str→Option Value}{base:Heap}
theorem Fun.ok{x qual:Str}{st:Stmt}{f:Addr}{fd:FuncData}{N ps:List Str}{k:Nat}{sp:Sp}(F:Fun K x qual st f fd)(S:FnScope N ps (defScope st))(len:∀ vs H Q E,sp vs H Q E→vs.length=ps.length)
  (hbody:∀ (cdv:Value) (A:Around) (outer:List Env) (s:Shared) (H:Hp) (vs:List V) (Q:VK) (E:XK),Room k (A.deeper (envOfC qual (defScope st) s.heap.objs.size f cdv))→sp vs H Q E→
   ∃ t,PSs (cxOf CX0 P w K mg base N qual (defScope st) f cdv A outer s H E).nox (defBody st) t∧t { nx:=fun _ H'=>Q .non H',rt:=Q } (start N vs) H):FnOk P w K mg base CX0 (k+1) f fd ps sp:=by
 obtain⟨oc,od,kV,doc,pm,an,cdv,ct,osl,rfl,lk,hcd⟩:=F.ex
 refine fn_of lk hcd S len fun A outer s H vs Q E hr hsp=>?_
 obtain⟨t,h,q⟩:=hbody cdv A outer s H vs Q E hr hsp
 exact⟨t,h.nox,q⟩
theorem Fun.binds{x qual:Str}{st:Stmt}{f:Addr}{fd:FuncData}{ps:List Str}(F:Fun K x qual st f fd)
  (h:∀ (kV doc pm:Value) (an:Option Addr) (cdv ct:Value) (us:List Value),us.length=ps.length→bindArgs (PySem.W.fnOf x qual (defArgs st) (defBody st) (defScope st) .none kV doc pm an cdv ct) ⟨us,[]⟩=pure (ps.zip us)):Binds K fd ps []:=by
 obtain⟨oc,od,kV,doc,pm,an,cdv,ct,osl,rfl,lk,hcd⟩:=F.ex
 exact .all (h kV doc pm an cdv ct)
theorem fun_mk{x qual:Str}{st:Stmt}{f:Addr}{oc:Value}{od an:Option Addr}{osl:Array (Option Value)}{kV doc pm cdv ct:Value}(l:K.lookup f=some ⟨oc,od,.func (PySem.W.fnOf x qual (defArgs st) (defBody st) (defScope st) .none kV doc pm an cdv ct),osl⟩)
  (c:PySem.W.codeIn K cdv qual=true) (k:PySem.W.keepIn K (.ref f)=true):Fun K x qual st f (PySem.W.fnOf x qual (defArgs st) (defBody st) (defScope st) .none kV doc pm an cdv ct):=⟨⟨oc,od,kV,doc,pm,an,cdv,ct,osl,rfl,l,c⟩,k⟩
end
theorem small1000{n:Nat}(h:n≤1000):n<sizeLine:=Nat.lt_of_le_of_lt h (by decide)
section
variable {X:Cx}
theorem pv(i:Nat){x:Str}{pos:Pos}(hN:X.N[i]?=some x)(hv:Vis X.env.scope x)(hd:(x==("__debug__" : Str))=false:=by decide)
  (hcd:(x==("__classdict__" : Str))=false:=by decide):PE X (.Name x pos) (tVar i):=pe_var hN hv hd hcd
end
theorem iteF{A B:Prop}(h:B):if false=true then A else B:=by
 rw[if_neg Bool.false_ne_true]
 exact h
theorem iteT{A B:Prop}(h:A):if true=true then A else B:=by
 rw[if_pos rfl]
 exact h
def Same(H H':Hp):Prop:=∀ b o,H b=some o→H' b=some o
theorem Same.refl(H:Hp):Same H H:=fun _ _ h=>h
theorem Same.trans{H H1 H2:Hp}(a:Same H H1)(b:Same H1 H2):Same H H2:=fun c o h=>b c o (a c o h)
theorem Same.free{H H':Hp}(e:Same H H'){l:Addr}(h:H' l=Option.none):H l=Option.none:=by
 cases q:H l with
 |none=>rfl
 |some o=>
  rw[e l o q]at h
  cases h
theorem Same.seq{K:PySem.W.Frag}{H H':Hp}{a:Addr}{xs:List V}(e:Same H H')(h:SqL K H a xs):SqL K H' a xs:=by
 rcases h with (h|⟨o,h⟩)|h
 ·exact .inl (.inl (e _ _ h))
 ·exact .inl (.inr ⟨o,e _ _ h⟩)
 ·exact .inr h
end L2
end
section
namespace L2
open PySem PySem.Spec PyProof.Rows
section
variable {κ:Type} [DecidableEq κ]
noncomputable def valV(kvs:List (κ×V))(k:κ):Option V:=(kvs.find? fun kv=>decide (kv.1=k)).map (·.2)
noncomputable def putK(kvs:List (κ×V))(k:κ)(v:V):List (κ×V):=
 if (kvs.any fun kv=>decide (kv.1=k))=true then kvs.map (fun kv=>if kv.1=k then(kv.1,v) else kv) else kvs++[(k,v)]
noncomputable def dropK(kvs:List (κ×V))(k:κ):List (κ×V):=kvs.filter fun kv=>decide (kv.1≠k)
theorem valV_pos{p:κ×V}{r:List (κ×V)}{k:κ}(e:p.1=k):valV (p::r) k=some p.2:=by simp[valV,List.find?_cons,e]
theorem valV_neg{p:κ×V}{r:List (κ×V)}{k:κ}(e:¬ p.1=k):valV (p::r) k=valV r k:=by simp[valV,List.find?_cons,e]
theorem valV_any(k:κ):∀ kvs:List (κ×V),(kvs.any fun kv=>decide (kv.1=k))=(valV kvs k).isSome
 |[]=>rfl
 |p::r=>by
  rw[List.any_cons]
  by_cases e:p.1=k
  ·simp only[valV_pos e,decide_eq_true e,Bool.true_or,Option.isSome_some]
  ·rw[valV_neg e,decide_eq_false e,Bool.false_or]; exact valV_any k r
theorem RelO.isSome_eq{o:Option V}{u:Option Value}(r:RelO o u):o.isSome=u.isSome:=by
 cases o with
 |none=>cases u with
  |none=>rfl
  |some _=>exact(show False from r).elim
 |some _=>cases u with
  |none=>exact(show False from r).elim
  |some _=>rfl
theorem RelO.getD{o:Option V}{u:Option Value}{d:V}{d':Value}(r:RelO o u)(rd:RelV d d'):RelV (o.getD d) (u.getD d'):=by
 cases o with
 |none=>cases u with
  |none=>exact rd
  |some _=>exact(show False from r).elim
 |some _=>cases u with
  |none=>exact(show False from r).elim
  |some _=>exact r
theorem KV.val{kvs:List (κ×V)}{vs:List (κ×Value)}(r:KV kvs vs)(k:κ):RelO (valV kvs k) (valueAt vs k):=by
 unfold KV at r
 induction r with
 |nil=>exact True.intro
 |@cons p q ps qs h t ih=>
  obtain⟨h1,h2⟩:=h
  by_cases e:p.1=k
  ·have e':q.1=k:=h1.symm.trans e
   have b:valueAt (q::qs) k=some q.2:=by simp[valueAt,List.find?_cons,e']
   rw[valV_pos e,b]; exact h2
  ·have e':¬ q.1=k:=fun z=>e (h1.trans z)
   have b:valueAt (q::qs) k=valueAt qs k:=by simp[valueAt,List.find?_cons,e']
   rw[valV_neg e,b]; exact ih
theorem KV.any{kvs:List (κ×V)}{vs:List (κ×Value)}(r:KV kvs vs)(k:κ):(kvs.any fun kv=>decide (kv.1=k))=vs.any fun kv=>decide (kv.1=k):=by
 unfold KV at r
 induction r with
 |nil=>rfl
 |cons h t ih=>rw[List.any_cons,List.any_cons,ih,h.1]
theorem KV.repl{kvs:List (κ×V)}{vs:List (κ×Value)}(r:KV kvs vs)(k:κ){y:V}{u:Value}(ry:RelV y u):
  KV (kvs.map fun kv=>if kv.1=k then(kv.1,y) else kv) (vs.map fun kv=>if kv.1=k then(kv.1,u) else kv):=by
 unfold KV at r ⊢
 induction r with
 |nil=>exact .nil
 |@cons p q ps qs h t ih=>
  rw[List.map_cons,List.map_cons]
  refine .cons ?_ ih
  obtain⟨h1,h2⟩:=h
  by_cases e:p.1=k
  ·rw[if_pos e,if_pos (h1.symm.trans e)]; exact⟨h1,ry⟩
  ·rw[if_neg e,if_neg (fun z=>e (h1.trans z))]; exact⟨h1,h2⟩
theorem KV.put{kvs:List (κ×V)}{vs:List (κ×Value)}(r:KV kvs vs)(k:κ){y:V}{u:Value}(ry:RelV y u):KV (putK kvs k y) (stored vs k u):=by
 unfold putK stored
 rw[r.any k]
 by_cases e:(vs.any fun kv=>decide (kv.1=k))=true
 ·rw[if_pos e,if_pos e]; exact r.repl k ry
 ·rw[if_neg e,if_neg e]; exact Paired.snoc r ⟨rfl,ry⟩
theorem KV.drop{kvs:List (κ×V)}{vs:List (κ×Value)}(r:KV kvs vs)(k:κ):KV (dropK kvs k) (without vs k):=by
 unfold KV at r ⊢
 unfold dropK without
 induction r with
 |nil=>exact .nil
 |@cons p q ps qs h t ih=>
  obtain⟨h1,h2⟩:=h
  rw[List.filter_cons,List.filter_cons]
  by_cases e:p.1=k
  ·have a:¬ decide (p.1≠k)=true:=by simp[e]
   have b:¬ decide (q.1≠k)=true:=by simp[h1.symm.trans e]
   rw[if_neg a,if_neg b]; exact ih
  ·have e':¬ q.1=k:=fun z=>e (h1.trans z)
   have a:decide (p.1≠k)=true:=by simp[e]
   have b:decide (q.1≠k)=true:=by simp[e']
   rw[if_pos a,if_pos b]; exact .cons ⟨h1,h2⟩ ih
theorem KV.keys{kvs:List (κ×V)}{vs:List (κ×Value)}(r:KV kvs vs):kvs.map (·.1)=vs.map (·.1):=by
 unfold KV at r
 induction r with
 |nil=>rfl
 |cons h t ih=>rw[List.map_cons,List.map_cons,ih,h.1]
theorem KV.length{kvs:List (κ×V)}{vs:List (κ×Value)}(r:KV kvs vs):kvs.length=vs.length:=Paired.length r
end
abbrev KT(H:Hp):List (List Key×V)→List (List Key×Addr×Value)→Prop:=Paired fun p q=>p.1=q.1∧H q.2.1=some (.tup (p.1.map kV))∧RelV p.2 q.2.2
theorem KT.val{H:Hp}{kvs:List (List Key×V)}{xs:List (List Key×Addr×Value)}(r:KT H kvs xs)(k:List Key):RelO (valV kvs k) ((atKey xs k).map (·.2)):=by
 induction r with
 |nil=>exact True.intro
 |@cons p q ps qs h t ih=>
  obtain⟨h1,_,h2⟩:=h
  by_cases e:p.1=k
  ·have e':q.1=k:=h1.symm.trans e
   have b:atKey (q::qs) k=some q.2:=by simp[atKey,List.find?_cons,e']
   rw[valV_pos e,b]; exact h2
  ·have e':¬ q.1=k:=fun z=>e (h1.trans z)
   have b:atKey (q::qs) k=atKey qs k:=by simp[atKey,List.find?_cons,e']
   rw[valV_neg e,b]; exact ih
theorem KT.repl{H:Hp}{kvs:List (List Key×V)}{xs:List (List Key×Addr×Value)}(r:KT H kvs xs)(k:List Key){y:V}{u:Value}(ry:RelV y u):
  KT H (kvs.map fun kv=>if kv.1=k then(kv.1,y) else kv) (xs.map (putAt k u)):=by
 induction r with
 |nil=>exact .nil
 |@cons p q ps qs h t ih=>
  rw[List.map_cons,List.map_cons]
  refine .cons ?_ ih
  obtain⟨h1,h2,h3⟩:=h
  unfold putAt
  by_cases e:p.1=k
  ·rw[if_pos e,if_pos (h1.symm.trans e)]; exact⟨h1,h2,ry⟩
  ·rw[if_neg e,if_neg (fun z=>e (h1.trans z))]; exact⟨h1,h2,h3⟩
theorem KT.put{H:Hp}{kvs:List (List Key×V)}{xs:List (List Key×Addr×Value)}(r:KT H kvs xs)(k:List Key){b:Addr}{y:V}{u:Value}(hb:H b=some (.tup (k.map kV)))(ry:RelV y u):
  KT H (putK kvs k y) (storedH xs k b u):=by
 have e:(kvs.any fun kv=>decide (kv.1=k))=(atKey xs k).isSome:=by
  rw[valV_any,(r.val k).isSome_eq,Option.isSome_map]
 unfold putK storedH
 rw[e]
 by_cases q:(atKey xs k).isSome=true
 ·rw[if_pos q,if_pos q]; exact r.repl k ry
 ·rw[if_neg q,if_neg q]; exact Paired.snoc r ⟨rfl,hb,ry⟩
theorem KT.keeps{H H':Hp}{kvs:List (List Key×V)}{xs:List (List Key×Addr×Value)}(r:KT H kvs xs)(ht:∀ b ys,H b=some (.tup ys)→H' b=some (.tup ys)):KT H' kvs xs:=
 Paired.mapP r fun _ _ z=>⟨z.1,ht _ _ z.2.1,z.2.2⟩
section
variable {P:Program}{w:World}{H:Hp}{h:Heap}{a:Addr}
end
def DGet(H:Hp)(a:Addr)(y:V)(r:Option V):Prop:=
 (∃ kvs k,Rd H a (.dK kvs)∧y=kV k∧r=valV kvs k)∨∃ kvs k b,Rd H a (.dT kvs)∧y=.ref b∧H b=some (.tup (k.map kV))∧r=valV kvs k
def DPut(H:Hp)(a:Addr)(y v:V)(H':Hp):Prop:=
 (∃ kvs k,H a=some (.dK kvs)∧y=kV k∧kvs.length<sizeLine∧H'=upd H a (.dK (putK kvs k v)))∨
 ∃ kvs k b,H a=some (.dT kvs)∧y=.ref b∧H b=some (.tup (k.map kV))∧kvs.length<sizeLine∧H'=upd H a (.dT (putK kvs k v))
theorem DGet.k{H:Hp}{a:Addr}{kvs:List (Key×V)}{k:Key}(e:H a=some (.dK kvs)):DGet H a (kV k) (valV kvs k):=.inl ⟨kvs,k,.inl e,rfl,rfl⟩
theorem DGet.t{H:Hp}{a b:Addr}{kvs:List (List Key×V)}{k:List Key}(e:H a=some (.dT kvs))(eb:H b=some (.tup (k.map kV))):DGet H a (.ref b) (valV kvs k):=.inr ⟨kvs,k,b,.inl e,rfl,eb,rfl⟩
theorem DPut.k{H:Hp}{a:Addr}{kvs:List (Key×V)}{k:Key}{v:V}(e:H a=some (.dK kvs))(hl:kvs.length<sizeLine):DPut H a (kV k) v (upd H a (.dK (putK kvs k v))):=.inl ⟨kvs,k,e,rfl,hl,rfl⟩
theorem DPut.t{H:Hp}{a b:Addr}{kvs:List (List Key×V)}{k:List Key}{v:V}(e:H a=some (.dT kvs))(eb:H b=some (.tup (k.map kV)))(hl:kvs.length<sizeLine):
  DPut H a (.ref b) v (upd H a (.dT (putK kvs k v))):=.inr ⟨kvs,k,b,e,rfl,eb,hl,rfl⟩
section
variable {X:Cx}{pins:List (Addr×Obj)}{σ:St}{H:Hp}{s:Shared}{a:Addr}{y v:V}{u r:Value}{o:Option V}{A:Around}{E:Value→Shared→Prop}
theorem Inv.big(I:Inv X pins σ H s):sysModules<s.heap.objs.size:=by
 have h:mainGlobals<s.heap.objs.size:=(I.mod.glob.keeps I.bk).lt
 exact Nat.lt_trans (by decide) h
end
section
variable {X:Cx}{pins:List (Addr×Obj)}{σ:St}{H:Hp}{s:Shared}{a:Addr}{kvs:List (Key×V)}{k:Key}{u:Value}{A:Around}{E:Value→Shared→Prop}
end
section
variable {X:Cx}{o i e value:Expr}{pos pos' tpos:Pos}{td ty tv:TE}
end
section
variable {X:Cx}{pos:Pos}
end
structure M1 (X:Cx) (o:Expr) (m:Str) (apos:Pos) (e:Expr) (cpos:Pos):Prop where
 base:attributeBase o m X.env (eval o X.env)=eval o X.env
 few:((backTo cpos (starEach [e] X.env)).all (fun x=>!x.1)&&(backToKw cpos (keywordEach [] X.env)).all (fun x=>x.1.isSome)
  && decide (([e]:List Expr).length+([]:List Keyword).length+(if ([]:List Keyword).isEmpty then 0 else 1)<30))=true
 line:(apos.endLine==cpos.line)=true
 trees:backTo cpos (starEach [e] X.env)=[(false,eval e X.env)]
structure M2 (X:Cx) (o:Expr) (m:Str) (apos:Pos) (e f:Expr) (cpos:Pos):Prop where
 base:attributeBase o m X.env (eval o X.env)=eval o X.env
 few:((backTo cpos (starEach [e,f] X.env)).all (fun x=>!x.1)&&(backToKw cpos (keywordEach [] X.env)).all (fun x=>x.1.isSome)
  && decide (([e,f]:List Expr).length+([]:List Keyword).length+(if ([]:List Keyword).isEmpty then 0 else 1)<30))=true
 line:(apos.endLine==cpos.line)=true
 trees:backTo cpos (starEach [e,f] X.env)=[(false,eval e X.env),(false,eval f X.env)]
def IsD(H:Hp)(a:Addr):Prop:=(∃ kvs,Rd H a (.dK kvs))∨∃ kvs,Rd H a (.dT kvs)
section
variable {X:Cx}{pins:List (Addr×Obj)}{σ:St}{H:Hp}{s:Shared}{a:Addr}{y d:V}{u r:Value}{o:Option V}{A:Around}{E:Value→Shared→Prop}
end
section
variable {X:Cx}{o e f:Expr}{apos cpos:Pos}{td ty tx:TE}
end
section
variable {X:Cx}{pins:List (Addr×Obj)}{σ:St}{H:Hp}{s:Shared}{a:Addr}{kvs:List (Key×V)}{A:Around}{E:Value→Shared→Prop}
end
section
variable {X:Cx}{pins:List (Addr×Obj)}{σ:St}{H:Hp}{s:Shared}{a:Addr}{y:V}{u:Value}{A:Around}{E:Value→Shared→Prop}
end
end L2
end
section
namespace M
open PySem (Str Operator CmpOp)
inductive D where
 |non|bl (b:Bool)|int (i:Int)|str (s:Str)|tup (ds:List D)|lst (ds:List D)|loc (l:Nat)
 deriving Inhabited
inductive Cell where
 |lst (w:Bool) (ds:List D)
 /-- a dict,its keys ints and texts -/
 |dic (kvs:List (D×D))
 deriving Inhabited
abbrev Store:=List Cell
abbrev Sl:=List (Option D)
noncomputable def lim:Nat:=16777216
inductive Ty where
 |non|bl|int|str|tup|lst
 deriving DecidableEq
noncomputable def Ty.name:Ty→String
 |.non=>"NoneType"
 |.bl=>"bool"
 |.int=>"int"
 |.str=>"str"
 |.tup=>"tuple"
 |.lst=>"list"
inductive B where
 |len|min|max|tuple|list|all|sorted|int|str|any
inductive Mt where
 |append|find|join|split|extend|index
inductive T where
 |var (i:Nat)
 |tup (is:List Nat)
noncomputable def T.slots:T→List Nat
 |.var i=>[i]
 |.tup is=>is
inductive E where
 |var (i:Nat)
 |lit (d:D)
 |glo (x:Str) (d:D)
 |bin (op:Operator) (a b:E)
 |neg (a:E)
 |not (a:E)
 |cmp (op:CmpOp) (a b:E)
 |cmp2 (op op':CmpOp) (a b c:E)
 |and (a b:E)
 |or (a b:E)
 |ite (c a b:E)
 |tup (es:List E)
 |lst (es:List E)
 |idx (a b:E)
 |sli (a:E) (lo hi:Option E)
 |call (f:Nat) (es:List E)
 |bcall (f:B) (es:List E)
 |isi (a:E) (ts:List Ty) (many:Bool)
 |meth (a:E) (m:Mt) (es:List E)
 /-- what a part made is dropped where nothing else holds it; a list that it tells is a value from then on -/
 |gc (a:E)
 |rng1 (a:E)
 |rng2 (a b:E)
 |rng3 (a b c:E)
 |zip (a b:E)
 /-- a written dict: key,value,key,value .. -/
 |dic (es:List E)
 |didx (a b:E)
 |din (neg:Bool) (a b:E)
 |dgt (a b:E)
 |fmt (a:E)
 |fstr (es:List E)
 /-- of a dict of the file's top: its keys,its values -/
 |gidx (x:Str) (ks:List Str) (ds:List D) (b:E)
 |gin (neg:Bool) (x:Str) (ks:List Str) (b:E)
 /-- the number of unlike things of a tuple of tuples of ints -/
 |lenset (a:E)
 /-- tuples,one behind the other -/
 |cat (a b:E)
 /-- a list,turned about -/
 |rev (a:E)
 |comp (t:T) (it:E) (test:Option E) (elt:E) (src:List (Option Nat))
inductive S where
 |set (t:T) (e:E)
 |setIx (a i e:E)
 |dset (a i e:E)
 |rais
 |expr (e:E)
 |ret (e:E)
 |retN
 |ite (c:E) (a b:List S)
 |forr (t:T) (it:E) (body:List S)
 |whil (c:E) (body:List S)
 |aug (i:Nat) (op:Operator) (e:E)
 |brk|cnt|pass
structure Fn where
 np:Nat
 nl:Nat
 body:List S
mutual
noncomputable def eqT:D→D→Bool
 |.non,.non=>true
 |.bl a,.bl b=>a==b
 |.bl a,.int j=>(if a then 1 else 0)==j
 |.int i,.bl b=>i==(if b then 1 else 0)
 |.int i,.int j=>i==j
 |.str a,.str b=>a==b
 |.tup a,.tup b=>eqTs a b
 |_,_=>false
noncomputable def eqTs:List D→List D→Bool
 |[],[]=>true
 |a::as,b::bs=>eqT a b&&eqTs as bs
 |_,_=>false
end
mutual
/-- no place of the store within,at most n deep -/
noncomputable def flat:Nat→D→Bool
 |_,.loc _=>false
 |_,.lst _=>false
 |0,.tup _=>false
 |n+1,.tup ds=>flats n ds
 |_,_=>true
noncomputable def flats:Nat→List D→Bool
 |_,[]=>true
 |n,d::ds=>flat n d&&flats n ds
end
noncomputable def mulOk(i j:Int):Bool:=(decide (-(2 ^ 64)<i)&&decide (i<2 ^ 64))||(decide (-(2 ^ 64)<j)&&decide (j<2 ^ 64))
noncomputable def listAt(st:Store)(l:Nat):Option (List D):=match st[l]? with|some (.lst _ ds)=>some ds|_=>none
noncomputable def wlistAt(st:Store)(l:Nat):Option (List D):=match st[l]? with|some (.lst true ds)=>some ds|_=>none
noncomputable def seqAt(st:Store):D→Option (List D)
 |.loc l=>listAt st l
 |.lst ds=>some ds
 |_=>none
mutual
/-- no place of the store within -/
noncomputable def noLoc:D→Bool
 |.loc _=>false
 |.tup ds=>noLocs ds
 |.lst ds=>noLocs ds
 |_=>true
noncomputable def noLocs:List D→Bool
 |[]=>true
 |d::ds=>noLoc d&&noLocs ds
end
open Classical in
noncomputable def gcD(st:Store)(p:D×Store):D×Store:=
 if p.2.take st.length=st then
  if noLoc p.1 then(p.1,st) else match p.1 with
   |.loc l=>if st.length≤l then(match p.2[l]? with
    |some (.lst true ds)=>if noLocs ds then(.lst ds,st) else p
    |_=>p) else p
   |_=>p
 else p
noncomputable def dicAt(st:Store)(l:Nat):Option (List (D×D)):=match st[l]? with|some (.dic kvs)=>some kvs|_=>none
noncomputable def isKey:D→Bool
 |.int _=>true
 |.str _=>true
 |_=>false
noncomputable def dget(kvs:List (D×D))(k:D):Option D:=(kvs.find? fun p=>eqT p.1 k).map (·.2)
noncomputable def dput(kvs:List (D×D))(k v:D):List (D×D):=if kvs.any fun p=>eqT p.1 k then kvs.map (fun p=>if eqT p.1 k then(p.1,v) else p) else kvs++[(k,v)]
noncomputable def pairUp:List D→Option (List (D×D))
 |[]=>some []
 |k::v::r=>if isKey k then(pairUp r).map ((k,v)::·) else none
 |_=>none
noncomputable def dall(kvs:List (D×D)):List (D×D):=kvs.foldl (fun acc p=>dput acc p.1 p.2) []
noncomputable def alloc(st:Store)(c:Cell):D×Store:=(.loc st.length,st++[c])
noncomputable def binop(st:Store):Operator→D→D→Option (D×Store)
 |.Add,.int i,.int j=>some (.int (i+j),st)
 |.Add,.tup a,.tup b=>if a.isEmpty||decide (lim<a.length+b.length) then none else some (.tup (a++b),st)
 |.Add,.str a,.str b=>if lim<a.length+b.length then none else some (.str (a++b),st)
 |.Add,a,b=>(seqAt st a).bind fun x=>(seqAt st b).bind fun y=>if lim<x.length+y.length then none else some (alloc st (.lst true (x++y)))
 |.Sub,.int i,.int j=>some (.int (i - j),st)
 |.Mult,.int i,.int j=>if mulOk i j then some (.int (i*j),st) else none
 |.Mult,.tup a,.int k=>if decide (k < -(2 ^ 62))||decide (2 ^ 62≤k)||decide (lim<a.length*k.toNat) then none else some (.tup (List.replicate k.toNat a).flatten,st)
 |.Mult,.loc l,.int k=>(wlistAt st l).bind fun a=>if decide (k < -(2 ^ 62))||decide (2 ^ 62≤k)||decide (lim<a.length*k.toNat) then none else some (alloc st (.lst true (List.replicate k.toNat a).flatten))
 |.FloorDiv,.int i,.int j=>if 0<j∧j<2 ^ 64 then some (.int (i / j),st) else none
 |.Mod,.int i,.int j=>if 0<j then some (.int (i % j),st) else none
 |.Pow,.int i,.int j=>if 0≤j∧j≤1000∧i.natAbs<2 ^ 64 then some (.int (i ^ j.toNat),st) else none
 |_,_,_=>none
noncomputable def addK(S:List (List Int))(k:List Int):List (List Int):=if k∈S then S else S++[k]
noncomputable def distinct(ks:List (List Int)):List (List Int):=ks.foldl addK []
noncomputable def keyD:D→Option (List Int)
 |.tup ds=>ds.mapM fun d=>match d with|.int i=>some i|_=>none
 |_=>none
noncomputable def lensetD:D→Option D
 |.tup ds=>(ds.mapM keyD).bind fun ks=>if ds.length≤16 then some (.int (distinct ks).length) else none
 |_=>none
noncomputable def catT(st:Store):D→D→Option (D×Store)
 |.tup a,.tup b=>if lim<a.length+b.length then none else some (.tup (a++b),st)
 |_,_=>none
noncomputable def ixN(n:Nat)(i:Int):Option Nat:=if 0≤i then(if i<n then some i.toNat else none) else if -(n:Int)≤i then some (i+n).toNat else none
noncomputable def atI{α:Type}(xs:List α)(i:Int):Option α:=(ixN xs.length i).bind fun j=>xs[j]?
noncomputable def idxD(st:Store):D→D→Option D
 |.tup ds,.int i=>atI ds i
 |.str z,.int i=>if lim<z.length then none else(atI z.cps.toList i).map fun c=>.str ⟨#[c]⟩
 |d,.int i=>(seqAt st d).bind fun ds=>atI ds i
 |_,_=>none
noncomputable def cutIx(n d:Nat):Option Int→Nat
 |none=>d
 |some v=>if v<0 then(v+(n:Int)).toNat else min v.toNat n
noncomputable def cut{α:Type}(xs:List α)(lo hi:Option Int):List α:=(xs.drop (cutIx xs.length 0 lo)).take (cutIx xs.length xs.length hi - cutIx xs.length 0 lo)
noncomputable def oneOf(z:Str):Option Nat:=match z.cps.toList with
 |[c]=>some c
 |_=>none
noncomputable def sliD(st:Store):D→Option Int→Option Int→Option (D×Store)
 |.tup ds,lo,hi=>some (.tup (cut ds lo hi),st)
 |.str z,lo,hi=>if lim<z.length then none else some (.str ⟨(cut z.cps.toList lo hi).toArray⟩,st)
 |d,lo,hi=>(seqAt st d).map fun ds=>alloc st (.lst true (cut ds lo hi))
noncomputable def inD(st:Store)(x:D):D→Option Bool
 |.tup ds=>if flat 9 x&&flats 9 ds then some (ds.any fun y=>eqT y x) else none
 |.str z=>match x with
  |.str i=>(oneOf i).map fun c=>decide (c∈z.cps.toList)
  |_=>none
 |d=>(seqAt st d).bind fun ds=>if flat 9 x&&flats 9 ds then some (ds.any fun y=>eqT y x) else none
noncomputable def eqD(st:Store)(x y:D):Option Bool:=match seqAt st x,seqAt st y with
 |some a,some b=>if flats 9 a&&flats 9 b then some (eqTs a b) else none
 |_,_=>if flat 9 x&&flat 9 y then some (eqT x y) else none
noncomputable def neD(st:Store)(a b:D):Option Bool:=(eqD st a b).map (!·)
noncomputable def isNon:D→Bool
 |.non=>true
 |_=>false
noncomputable def cmpD(st:Store):CmpOp→D→D→Option Bool
 |.Lt,.int i,.int j=>some (decide (i<j))
 |.LtE,.int i,.int j=>some (decide (i≤j))
 |.Gt,.int i,.int j=>some (decide (j<i))
 |.GtE,.int i,.int j=>some (decide (j≤i))
 |.Eq,x,y=>eqD st x y
 |.NotEq,x,y=>neD st x y
 |.Is,x,.non=>some (isNon x)
 |.IsNot,x,.non=>some (!isNon x)
 |.In,x,y=>inD st x y
 |.NotIn,x,y=>(inD st x y).map (!·)
 |_,_,_=>none
noncomputable def tyName(st:Store):D→Option Ty
 |.non=>some .non
 |.bl _=>some .bl
 |.int _=>some .int
 |.str _=>some .str
 |.tup _=>some .tup
 |d=>(seqAt st d).map fun _=>.lst
noncomputable def tyIs(t n:Ty):Bool:=t==n||(t==.int&&n==.bl)
noncomputable def truth(st:Store):D→Option Bool
 |.non=>some false
 |.bl b=>some b
 |.int i=>some (i != 0)
 |.tup ds=>some (!ds.isEmpty)
 |.str z=>if lim<z.length then none else some ((z.length:Int) != 0)
 |d=>(seqAt st d).map fun ds=>!ds.isEmpty
noncomputable def insInt(x:Int):List Int→List Int
 |[]=>[x]
 |y::r=>if x≤y then x::y::r else y::insInt x r
noncomputable def sortInt:List Int→List Int
 |[]=>[]
 |x::r=>insInt x (sortInt r)
noncomputable def asInts:List D→Option (List Int)
 |[]=>some []
 |.int i::r=>(asInts r).map (i::·)
 |_=>none
noncomputable def asBools:List D→Option (List Bool)
 |[]=>some []
 |.bl i::r=>(asBools r).map (i::·)
 |_=>none
noncomputable def bLen(st:Store):List D→Option (D×Store)
 |[.tup ds]=>some (.int ds.length,st)
 |[.str z]=>if lim<z.length then none else some (.int z.length,st)
 |[d]=>(seqAt st d).map fun ds=>(.int ds.length,st)
 |_=>none
noncomputable def augD(st:Store):Operator→D→D→Option D
 |.Add,.int i,.int j=>some (.int (i+j))
 |.Sub,.int i,.int j=>some (.int (i - j))
 |.Mult,.int i,.int j=>if mulOk i j then some (.int (i*j)) else none
 |.Add,.str a,.str b=>if lim<a.length+b.length then none else some (.str (a++b))
 |_,_,_=>none
noncomputable def bMin(st:Store):List D→Option (D×Store)
 |[.int i,.int j]=>some (.int (if j<i then j else i),st)
 |_=>none
noncomputable def bMax(st:Store):List D→Option (D×Store)
 |[.int i,.int j]=>some (.int (if j > i then j else i),st)
 |_=>none
noncomputable def bTuple(st:Store):List D→Option (D×Store)
 |[.tup ds]=>some (.tup ds,st)
 |[d]=>(seqAt st d).map fun ds=>(.tup ds,st)
 |_=>none
noncomputable def bList(st:Store):List D→Option (D×Store)
 |[.tup ds]=>some (alloc st (.lst true ds))
 |[d]=>(seqAt st d).map fun ds=>alloc st (.lst true ds)
 |_=>none
noncomputable def bAll(st:Store):List D→Option (D×Store)
 |[d]=>(seqAt st d).bind fun ds=>(asBools ds).map fun bs=>(.bl (bs.all id),st)
 |_=>none
noncomputable def bAny(st:Store):List D→Option (D×Store)
 |[d]=>(seqAt st d).bind fun ds=>(asBools ds).map fun bs=>(.bl (bs.any id),st)
 |_=>none
noncomputable def asPairs:List D→Option (List (Int×Int))
 |[]=>some []
 |.tup [.int x,.int y]::r=>(asPairs r).map ((x,y)::·)
 |_=>none
noncomputable def leP(a b:Int×Int):Bool:=decide (a.1<b.1)||(decide (a.1=b.1)&&decide (a.2≤b.2))
noncomputable def insP(x:Int×Int):List (Int×Int)→List (Int×Int)
 |[]=>[x]
 |y::r=>if leP x y then x::y::r else y::insP x r
noncomputable def sortP:List (Int×Int)→List (Int×Int)
 |[]=>[]
 |x::r=>insP x (sortP r)
noncomputable def pD(p:Int×Int):D:=.tup [.int p.1,.int p.2]
noncomputable def bSorted(st:Store):List D→Option (D×Store)
 |[d]=>(seqAt st d).bind fun ds=>((if 64≤ds.length then none else asInts ds).map fun ns=>alloc st (.lst true ((sortInt ns).map .int))).or ((asPairs ds).map fun ps=>alloc st (.lst true ((sortP ps).map pD)))
 |_=>none
noncomputable def isFig(c:Nat):Bool:=decide (48≤c)&&decide (c≤57)
noncomputable def figVal(cs:List Nat):Nat:=cs.foldl (fun acc c=>acc*10+(c - 48)) 0
noncomputable def bInt(st:Store):List D→Option (D×Store)
 |[.str z]=>if !z.cps.toList.isEmpty&&z.cps.toList.all isFig&&decide (z.length≤640) then some (.int (figVal z.cps.toList:Nat),st) else none
 |[.int i]=>some (.int i,st)
 |[.bl b]=>some (.int (if b then 1 else 0),st)
 |_=>none
noncomputable def bStr(st:Store):List D→Option (D×Store)
 |[.int i]=>if i.natAbs.log2<1920 then some (.str (Str.ofString (toString i)),st) else none
 |[.str z]=>some (.str z,st)
 |_=>none
noncomputable def splitC(c:Nat):List Nat→List (List Nat)
 |[]=>[[]]
 |x::r=>if x=c then []::splitC c r else match splitC c r with
  |[]=>[[x]]
  |p::ps=>(x::p)::ps
noncomputable def mSplit(st:Store):D→List D→Option (D×Store)
 |.str z,[.str y]=>(oneOf y).bind fun c=>if z.length<1000000 then some (alloc st (.lst true ((splitC c z.cps.toList).map fun p=>.str ⟨p.toArray⟩))) else none
 |_,_=>none
noncomputable def fmtD:D→Option D
 |.int i=>if i.natAbs.log2<1920 then some (.str (Str.ofString (toString i))) else none
 |.str z=>if z.length≤lim then some (.str z) else none
 |_=>none
noncomputable def catD:List D→Str→Option Str
 |[],acc=>some acc
 |.str z::r,acc=>if (acc++z).length≤lim then catD r (acc++z) else none
 |_,_=>none
noncomputable def asStrs:List D→Option (List Str)
 |[]=>some []
 |.str i::r=>(asStrs r).map (i::·)
 |_=>none
noncomputable def findC(cs:List Nat)(c:Nat):Int:=match cs.findIdx? (· == c) with
 |some i=>(i:Int)
 |none=>-1
noncomputable def mFind(st:Store):D→List D→Option (D×Store)
 |.str z,[.str y]=>(oneOf y).map fun c=>(.int (findC z.cps.toList c),st)
 |_,_=>none
noncomputable def mJoin(st:Store):D→List D→Option (D×Store)
 |.str z,[d]=>(seqAt st d).bind fun ds=>(asStrs ds).bind fun ts=>if (ts.map (·.length)).sum+ts.length*z.length≤lim then some (.str (Str.join z ts),st) else none
 |_,_=>none
noncomputable def bfun(st:Store):B→List D→Option (D×Store)
 |.len=>bLen st
 |.min=>bMin st
 |.max=>bMax st
 |.tuple=>bTuple st
 |.list=>bList st
 |.all=>bAll st
 |.sorted=>bSorted st
 |.int=>bInt st
 |.str=>bStr st
 |.any=>bAny st
noncomputable def mAppend(st:Store):D→List D→Option (D×Store)
 |.loc l,[d]=>(wlistAt st l).bind fun ds=>if ds.length<lim then some (.non,st.set l (.lst true (ds++[d]))) else none
 |_,_=>none
noncomputable def mExtend(st:Store):D→List D→Option (D×Store)
 |.loc l,[d]=>(wlistAt st l).bind fun ds=>(match d with|.tup es=>some es|d=>seqAt st d).bind fun es=>if ds.length+es.length≤lim then some (.non,st.set l (.lst true (ds++es))) else none
 |_,_=>none
noncomputable def mIndex(st:Store):D→List D→Option (D×Store)
 |d,[x]=>(seqAt st d).bind fun ds=>if flat 9 x&&flats 9 ds then(ds.findIdx? fun y=>eqT y x).map fun(j:Nat)=>(.int (j:Int),st) else none
 |_,_=>none
noncomputable def mfun(st:Store):Mt→D→List D→Option (D×Store)
 |.append=>mAppend st
 |.find=>mFind st
 |.join=>mJoin st
 |.split=>mSplit st
 |.extend=>mExtend st
 |.index=>mIndex st
noncomputable def Mt.ofList:Mt→Bool
 |.append=>true
 |.extend=>true
 |.index=>true
 |_=>false
noncomputable def mty(st:Store)(m:Mt):D→Bool
 |.str _=>!m.ofList
 |d=>m.ofList&&(seqAt st d).isSome
noncomputable def setIxD(st:Store):D→D→D→Option Store
 |.loc l,.int i,d=>(wlistAt st l).bind fun ds=>(ixN ds.length i).map fun j=>st.set l (.lst true (ds.set j d))
 |_,_,_=>none
inductive Out where
 |nx (τ:Sl)
 |rt (d:D)
 |bk (τ:Sl)
 |ct (τ:Sl)
structure R where
 ev:Sl→Store→E→Option (D×Store)
 tst:Sl→Store→E→Option (Bool×Store)
 ex:Sl→Store→List S→Option (Out×Store)
 call:Nat→List D→Store→Option (D×Store)
noncomputable def evs(f:Store→E→Option (D×Store)):List E→Store→Option (List D×Store)
 |[],st=>some ([],st)
 |e::es,st=>(f st e).bind fun p=>(evs f es p.2).bind fun q=>some (p.1::q.1,q.2)
noncomputable def setIs:List Nat→List D→Sl→Option Sl
 |[],[],τ=>some τ
 |i::is,d::ds,τ=>if i<τ.length then setIs is ds (τ.set i (some d)) else none
 |_,_,_=>none
noncomputable def setT:T→D→Sl→Option Sl
 |.var i,d,τ=>if i<τ.length then some (τ.set i (some d)) else none
 |.tup is,.tup ds,τ=>setIs is ds τ
 |_,_,_=>none
inductive Src where
 |tup (ds:List D)
 |lst (d:D)
 |rng (lo:Int) (n:Nat)
 |rgs (lo c:Int) (n:Nat)
 |zip (a b:D)
 |str (z:Str)
noncomputable def rowAt(st:Store):D→Option (List D)
 |.tup ds=>some ds
 |d=>seqAt st d
noncomputable def pairAt(xs ys:List D)(i:Nat):Option D:=match xs[i]?,ys[i]? with
 |some x,some y=>some (.tup [x,y])
 |_,_=>none
noncomputable def Src.at(st:Store)(i:Nat):Src→Option (Option D)
 |.tup ds=>some ds[i]?
 |.lst d=>(seqAt st d).map fun ds=>ds[i]?
 |.rng lo n=>some (if i<n then some (.int (lo+i)) else none)
 |.rgs lo c n=>some (if i<n then some (.int (lo+i*c)) else none)
 |.zip a b=>(rowAt st a).bind fun xs=>(rowAt st b).map fun ys=>pairAt xs ys i
 |.str z=>some ((z.cps.toList.map fun c=>D.str ⟨#[c]⟩)[i]?)
noncomputable def Src.size(st:Store):Src→Nat
 |.tup ds=>ds.length
 |.lst d=>((seqAt st d).getD []).length
 |.rng _ n=>n
 |.rgs _ _ n=>n
 |.str z=>z.cps.toList.length
 |.zip a b=>min ((rowAt st a).getD []).length ((rowAt st b).getD []).length
noncomputable def big(i:Int):Bool:=decide (i < -(2 ^ 62))||decide (2 ^ 62≤i)
noncomputable def src(r:R)(τ:Sl)(st:Store):E→Option (Src×Store)
 |.rng1 a=>(r.ev τ st a).bind fun p=>match p.1 with
  |.int n=>if big n then none else some (.rng 0 n.toNat,p.2)
  |_=>none
 |.rng2 a b=>(r.ev τ st a).bind fun p=>(r.ev τ p.2 b).bind fun q=>match p.1,q.1 with
  |.int i,.int j=>if big i||big j then none else some (.rng i (j - i).toNat,q.2)
  |_,_=>none
 |.rng3 a b c=>(r.ev τ st a).bind fun p=>(r.ev τ p.2 b).bind fun q=>(r.ev τ q.2 c).bind fun u=>match p.1,q.1,u.1 with
  |.int i,.int j,.int k=>if big i||big j || !(decide (0<k)&&decide (k<1000)) then none else some (.rgs i k (if i<j then(j - i - 1) / k+1 else 0).toNat,u.2)
  |_,_,_=>none
 |.zip a b=>(r.ev τ st a).bind fun p=>(r.ev τ p.2 b).bind fun q=>(rowAt q.2 p.1).bind fun _=>(rowAt q.2 q.1).map fun _=>(.zip p.1 q.1,q.2)
 |e=>(r.ev τ st e).bind fun p=>match p.1 with
  |.tup ds=>some (.tup ds,p.2)
  |.str z=>if z.cps.all (· < 128) then some (.str z,p.2) else none
  |d=>(seqAt p.2 d).map fun _=>(.lst d,p.2)
noncomputable def loop(it:Src)(f:Sl→Store→D→Option (Out×Store)):Nat→Nat→Sl→Store→Option (Out×Store)
 |0,_,_,_=>none
 |k+1,i,τ,st=>(it.at st i).bind fun o=>match o with
  |none=>some (.nx τ,st)
  |some d=>(f τ st d).bind fun p=>match p.1 with
   |.nx τ'=>loop it f k (i+1) τ' p.2
   |.ct τ'=>loop it f k (i+1) τ' p.2
   |.bk τ'=>some (.nx τ',p.2)
   |.rt v=>some (.rt v,p.2)
noncomputable def turnC(r:R)(t:T)(test:Option E)(elt:E)(τ:Sl)(st:Store)(d:D):Option (Option D×Sl×Store):=
 (setT t d τ).bind fun τ'=>match test with
  |none=>(r.ev τ' st elt).map fun p=>(some p.1,τ',p.2)
  |some c=>(r.tst τ' st c).bind fun b=>if b.1 then(r.ev τ' b.2 elt).map fun p=>(some p.1,τ',p.2) else some (none,τ',b.2)
noncomputable def loopC(it:Src)(f:Sl→Store→D→Option (Option D×Sl×Store)):Nat→Nat→List D→Sl→Store→Option (List D×Store)
 |0,_,_,_,_=>none
 |k+1,i,acc,τ,st=>(it.at st i).bind fun o=>match o with
  |none=>if lim<acc.length then none else some (acc,st)
  |some d=>if lim≤acc.length then none else(f τ st d).bind fun p=>loopC it f k (i+1) (match p.1 with|some x=>acc++[x]|none=>acc) p.2.1 p.2.2
noncomputable def inner(src:List (Option Nat))(τ:Sl):Sl:=src.map fun o=>o.bind fun i=>(τ[i]?).bind id
noncomputable def part(r:R)(τ:Sl)(st:Store):Option E→Option (Option Int×Store)
 |none=>some (none,st)
 |some e=>(r.ev τ st e).bind fun p=>match p.1 with
  |.int i=>some (some i,p.2)
  |_=>none
noncomputable def loopW(f:Sl→Store→Option (Bool×Store))(g:Sl→Store→Option (Out×Store)):Nat→Sl→Store→Option (Out×Store)
 |0,_,_=>none
 |k+1,τ,st=>(f τ st).bind fun b=>if b.1 then(g τ b.2).bind fun p=>match p.1 with
   |.nx τ'=>loopW f g k τ' p.2
   |.ct τ'=>loopW f g k τ' p.2
   |.bk τ'=>some (.nx τ',p.2)
   |.rt v=>some (.rt v,p.2)
  else some (.nx τ,b.2)
noncomputable def dinR(r:R)(τ:Sl)(st:Store)(neg:Bool)(a b:E):Option (D×Store):=
 (r.ev τ st a).bind fun p=>(r.ev τ p.2 b).bind fun q=>match q.1 with
  |.loc l=>(dicAt q.2 l).bind fun kvs=>if isKey p.1 then some (.bl ((dget kvs p.1).isSome != neg),q.2) else none
  |_=>none
noncomputable def ginR(r:R)(τ:Sl)(st:Store)(neg:Bool)(ks:List Str)(b:E):Option (D×Store):=
 (r.ev τ st b).bind fun p=>match p.1 with
  |.str z=>some (.bl (ks.contains z != neg),p.2)
  |_=>none
noncomputable def stepEv(r:R)(τ:Sl)(st:Store):E→Option (D×Store)
 |.var i=>match τ[i]? with
  |some (some d)=>some (d,st)
  |_=>none
 |.lit d=>some (d,st)
 |.glo _ d=>some (d,st)
 |.bin op a b=>(r.ev τ st a).bind fun p=>(r.ev τ p.2 b).bind fun q=>binop q.2 op p.1 q.1
 |.neg a=>(r.ev τ st a).bind fun p=>match p.1 with
  |.int i=>some (.int (-i),p.2)
  |_=>none
 |.not a=>(r.ev τ st a).bind fun p=>match p.1 with
  |.bl b=>some (.bl (!b),p.2)
  |_=>none
 |.cmp op a b=>(r.ev τ st a).bind fun p=>(r.ev τ p.2 b).bind fun q=>(cmpD q.2 op p.1 q.1).map fun k=>(.bl k,q.2)
 |.cmp2 op op' a b c=>(r.ev τ st a).bind fun p=>(r.ev τ p.2 b).bind fun q=>(cmpD q.2 op p.1 q.1).bind fun k=>
   if k then(r.ev τ q.2 c).bind fun u=>(cmpD u.2 op' q.1 u.1).map fun k'=>(.bl k',u.2) else some (.bl false,q.2)
 |.and a b=>(r.ev τ st a).bind fun p=>match p.1 with
  |.bl true=>r.ev τ p.2 b
  |.bl false=>some (.bl false,p.2)
  |_=>none
 |.or a b=>(r.ev τ st a).bind fun p=>match p.1 with
  |.bl false=>r.ev τ p.2 b
  |.bl true=>some (.bl true,p.2)
  |_=>none
 |.ite c a b=>(r.tst τ st c).bind fun p=>if p.1 then r.ev τ p.2 a else r.ev τ p.2 b
 |.tup es=>(evs (r.ev τ) es st).bind fun p=>if lim<p.1.length then none else some (.tup p.1,p.2)
 |.lst es=>(evs (r.ev τ) es st).bind fun p=>if lim<p.1.length then none else some (alloc p.2 (.lst true p.1))
 |.idx a b=>(r.ev τ st a).bind fun p=>(r.ev τ p.2 b).bind fun q=>(idxD q.2 p.1 q.1).map fun d=>(d,q.2)
 |.sli a lo hi=>(r.ev τ st a).bind fun p=>(part r τ p.2 lo).bind fun l=>(part r τ l.2 hi).bind fun h=>sliD h.2 p.1 l.1 h.1
 |.call f es=>(evs (r.ev τ) es st).bind fun p=>r.call f p.1 p.2
 |.bcall f es=>(evs (r.ev τ) es st).bind fun p=>bfun p.2 f p.1
 |.isi a ts _=>(r.ev τ st a).bind fun p=>(tyName p.2 p.1).map fun n=>(.bl (ts.any fun t=>tyIs t n),p.2)
 |.meth a m es=>(r.ev τ st a).bind fun p=>if mty p.2 m p.1 then(evs (r.ev τ) es p.2).bind fun q=>mfun q.2 m p.1 q.1 else none
 |.gc a=>(r.ev τ st a).map fun p=>gcD st p
 |.rng1 _=>none
 |.rng2 _ _=>none
 |.rng3 _ _ _=>none
 |.zip _ _=>none
 |.dic es=>(evs (r.ev τ) es (st++[.dic []])).bind fun p=>match dicAt p.2 st.length with
  |some []=>(pairUp p.1).bind fun kvs=>if kvs.length≤15 then some (.loc st.length,p.2.set st.length (.dic (dall kvs))) else none
  |_=>none
 |.didx a b=>(r.ev τ st a).bind fun p=>(r.ev τ p.2 b).bind fun q=>match p.1 with
  |.loc l=>(dicAt q.2 l).bind fun kvs=>if isKey q.1 then(dget kvs q.1).map fun d=>(d,q.2) else none
  |_=>none
 |.din neg a b=>dinR r τ st neg a b
 |.dgt a b=>(r.ev τ st a).bind fun p=>match p.1 with
  |.loc l=>(dicAt p.2 l).bind fun _=>(r.ev τ p.2 b).bind fun q=>(dicAt q.2 l).bind fun kvs=>if isKey q.1 then some ((dget kvs q.1).getD .non,q.2) else none
  |_=>none
 |.fmt a=>(r.ev τ st a).bind fun p=>(fmtD p.1).map fun d=>(d,p.2)
 |.fstr es=>(evs (r.ev τ) es st).bind fun p=>(catD p.1 Str.empty).map fun z=>(.str z,p.2)
 |.gidx _ ks ds b=>(r.ev τ st b).bind fun p=>match p.1 with
  |.str z=>((ks.zip ds).find? fun q=>q.1==z).map fun q=>(q.2,p.2)
  |_=>none
 |.gin neg _ ks b=>ginR r τ st neg ks b
 |.lenset a=>(r.ev τ st a).bind fun p=>(lensetD p.1).map fun d=>(d,p.2)
 |.cat a b=>(r.ev τ st a).bind fun p=>(r.ev τ p.2 b).bind fun q=>catT q.2 p.1 q.1
 |.rev a=>(r.ev τ st a).bind fun p=>(seqAt p.2 p.1).map fun ds=>alloc p.2 (.lst true ds.reverse)
 |.comp t it test elt sr=>(src r τ st it).bind fun p=>
   (loopC p.1 (turnC r t test elt) (p.1.size p.2+1) 0 [] (inner sr τ) p.2).map fun q=>alloc q.2 (.lst true q.1)
noncomputable def stepTst(r:R)(τ:Sl)(st:Store):E→Option (Bool×Store)
 |.not a=>(r.tst τ st a).map fun p=>(!p.1,p.2)
 |.and a b=>(r.tst τ st a).bind fun p=>if p.1 then r.tst τ p.2 b else some (false,p.2)
 |.or a b=>(r.tst τ st a).bind fun p=>if p.1 then some (true,p.2) else r.tst τ p.2 b
 |.ite _ _ _=>none
 |.din neg a b=>(dinR r τ st neg a b).bind fun p=>(truth p.2 p.1).map fun k=>(k,p.2)
 |.gin neg _ ks b=>(ginR r τ st neg ks b).bind fun p=>(truth p.2 p.1).map fun k=>(k,p.2)
 |.cmp op a b=>(r.ev τ st a).bind fun p=>(r.ev τ p.2 b).bind fun q=>(cmpD q.2 op p.1 q.1).map fun k=>(k,q.2)
 |.cmp2 op op' a b c=>(r.ev τ st a).bind fun p=>(r.ev τ p.2 b).bind fun q=>(cmpD q.2 op p.1 q.1).bind fun k=>
   if k then(r.ev τ q.2 c).bind fun u=>(cmpD u.2 op' q.1 u.1).map fun k'=>(k',u.2) else some (false,q.2)
 |e=>(r.ev τ st e).bind fun p=>(truth p.2 p.1).map fun k=>(k,p.2)
noncomputable def stepEx(r:R)(τ:Sl)(st:Store):S→Option (Out×Store)
 |.set t e=>(r.ev τ st e).bind fun p=>(setT t p.1 τ).map fun τ'=>(.nx τ',p.2)
 |.setIx a i e=>(r.ev τ st e).bind fun p=>(r.ev τ p.2 a).bind fun q=>(r.ev τ q.2 i).bind fun u=>(setIxD u.2 q.1 u.1 p.1).map fun st'=>(.nx τ,st')
 |.dset a i e=>(r.ev τ st e).bind fun p=>(r.ev τ p.2 a).bind fun q=>(r.ev τ q.2 i).bind fun u=>match q.1 with
  |.loc l=>(dicAt u.2 l).bind fun kvs=>if isKey u.1&&decide (kvs.length<lim) then some (.nx τ,u.2.set l (.dic (dput kvs u.1 p.1))) else none
  |_=>none
 |.rais=>none
 |.expr e=>(r.ev τ st e).map fun p=>(.nx τ,p.2)
 |.ret e=>(r.ev τ st e).map fun p=>(.rt p.1,p.2)
 |.retN=>some (.rt .non,st)
 |.ite c a b=>(r.tst τ st c).bind fun p=>if p.1 then r.ex τ p.2 a else r.ex τ p.2 b
 |.forr t it body=>(src r τ st it).bind fun p=>
   loop p.1 (fun τ st d=>(setT t d τ).bind fun τ'=>r.ex τ' st body) (p.1.size p.2+1) 0 τ p.2
 |.whil c body=>loopW (fun τ st=>r.tst τ st c) (fun τ st=>r.ex τ st body) lim τ st
 |.aug i op e=>match τ[i]? with
  |some (some x)=>(r.ev τ st e).bind fun p=>(augD p.2 op x p.1).map fun z=>(.nx (τ.set i (some z)),p.2)
  |_=>none
 |.brk=>some (.bk τ,st)
 |.cnt=>some (.ct τ,st)
 |.pass=>some (.nx τ,st)
noncomputable def exs(f:Sl→Store→S→Option (Out×Store)):List S→Sl→Store→Option (Out×Store)
 |[],τ,st=>some (.nx τ,st)
 |s::ss,τ,st=>(f τ st s).bind fun p=>match p.1 with
  |.nx τ'=>exs f ss τ' p.2
  |o=>some (o,p.2)
noncomputable def stepCall(fns:List Fn)(r:R)(f:Nat)(ds:List D)(st:Store):Option (D×Store):=
 match fns[f]? with
 |some F=>if ds.length=F.np then(r.ex (ds.map some++List.replicate (F.nl - ds.length) none) st F.body).bind fun p=>match p.1 with
   |.rt d=>some (d,p.2)
   |.nx _=>some (.non,p.2)
   |_=>none
  else none
 |none=>none
noncomputable def step(c:Nat→List D→Store→Option (D×Store))(r:R):R:=⟨stepEv r,stepTst r,fun τ st ss=>exs (stepEx r) ss τ st,c⟩
noncomputable def runK(c:Nat→List D→Store→Option (D×Store)):Nat→R
 |0=>⟨fun _ _ _=>none,fun _ _ _=>none,fun _ _ _=>none,c⟩
 |k+1=>step c (runK c k)
open Classical in
noncomputable def lim1{α:Type}(f:Nat→Option α):Option α:=if h:∃ x,∃ n,f n=some x then some h.choose else none
noncomputable def RL(c:Nat→List D→Store→Option (D×Store)):R:=⟨fun τ st e=>lim1 fun n=>(runK c n).ev τ st e,fun τ st e=>lim1 fun n=>(runK c n).tst τ st e,fun τ st e=>lim1 fun n=>(runK c n).ex τ st e,c⟩
noncomputable def callD(fns:List Fn):Nat→Nat→List D→Store→Option (D×Store)
 |0=>fun _ _ _=>none
 |d+1=>stepCall fns (RL (callD fns d))
noncomputable abbrev rn(fns:List Fn)(d n:Nat):R:=runK (callD fns d) n
noncomputable abbrev Lv(fns:List Fn)(d:Nat):R:=RL (callD fns d)
theorem lim1_is{α:Type}{f:Nat→Option α}{x:α}(h:lim1 f=some x):∃ n,f n=some x:=by
 unfold lim1 at h
 split at h
 ·rename_i hx
  obtain⟨n,hn⟩:=hx.choose_spec
  exact⟨n,by rw[hn]; exact h⟩
 ·cases h
theorem runK_call(c:Nat→List D→Store→Option (D×Store)):∀ n,(runK c n).call=c
 |0=>rfl
 |_+1=>rfl
end M
end
section
namespace M
open PySem (Str)
theorem exs_split:∀ (a:List S){b:List S}{f:Sl→Store→S→Option (Out×Store)}{τ τ':Sl}{s s':Store},exs f a τ s=some (.nx τ',s')→exs f (a++b) τ s=exs f b τ' s'
 |[],b,f,τ,τ',s,s',h=>by cases h; rfl
 |x::a,b,f,τ,τ',s,s',h=>by
  simp only[exs,List.cons_append]at h ⊢
  cases q:f τ s x with
  |none=>rw[q]at h; cases h
  |some p=>
   rw[q]at h
   simp only[oBs]at h ⊢
   cases hp:p.1 with
   |nx τ2=>rw[hp]at h; simp only at h ⊢; exact exs_split a h
   |rt d=>rw[hp]at h; cases h
   |bk d=>rw[hp]at h; cases h
   |ct d=>rw[hp]at h; cases h
theorem exs_cons{x:S}{b:List S}{f:Sl→Store→S→Option (Out×Store)}{τ τ':Sl}{s s':Store}(h:f τ s x=some (.nx τ',s')):exs f (x::b) τ s=exs f b τ' s':=by
 simp only[exs,h,oBs]
theorem exs_ret{x:S}{b:List S}{f:Sl→Store→S→Option (Out×Store)}{τ:Sl}{s s':Store}{d:D}(h:f τ s x=some (.rt d,s')):exs f (x::b) τ s=some (.rt d,s'):=by
 simp only[exs,h,oBs]
theorem eqT_bb(a b:Bool):eqT (.bl a) (.bl b)=(a==b):=by rw[eqT]
theorem eqT_ii(a b:Int):eqT (.int a) (.int b)=(a==b):=by rw[eqT]
theorem eqT_ss(a b:Str):eqT (.str a) (.str b)=(a==b):=by rw[eqT]
theorem eqT_nn:eqT .non .non=true:=by rw[eqT]
theorem flat_b(n:Nat)(a:Bool):flat n (.bl a)=true:=by cases n<;>rfl
theorem flat_i(n:Nat)(a:Int):flat n (.int a)=true:=by cases n<;>rfl
theorem flat_s(n:Nat)(a:Str):flat n (.str a)=true:=by cases n<;>rfl
theorem flat_n(n:Nat):flat n .non=true:=by cases n<;>rfl
theorem eqD_bb(st:Store)(a b:Bool):eqD st (.bl a) (.bl b)=some (a==b):=by simp[eqD,seqAt,flat_b,eqT_bb]
theorem eqD_ii(st:Store)(a b:Int):eqD st (.int a) (.int b)=some (a==b):=by simp[eqD,seqAt,flat_i,eqT_ii]
theorem eqD_ss(st:Store)(a b:Str):eqD st (.str a) (.str b)=some (a==b):=by simp[eqD,seqAt,flat_s,eqT_ss]
theorem eqD_nn(st:Store):eqD st .non .non=some true:=by simp[eqD,seqAt,flat_n,eqT_nn]
theorem loop_rng'{f:Sl→Store→D→Option (Out×Store)}{lo:Int}{n:Nat}(P:Nat→Sl→Store→Prop)(hs:∀ i τ st,i<n→P i τ st→∃ τ' st',f τ st (.int (lo+i))=some (.nx τ',st')∧P (i+1) τ' st'):
  ∀ (k i:Nat) (τ:Sl) (st:Store),i+k=n→P i τ st→∃ τ' st',loop (.rng lo n) f (k+1) i τ st=some (.nx τ',st')∧P n τ' st'
 |0,i,τ,st,h,p=>by
  have:i=n:=by omega
  subst this
  exact⟨τ,st,by simp[loop,Src.at],p⟩
 |k+1,i,τ,st,h,p=>by
  have hi:i<n:=by omega
  obtain⟨τ',st',e,q⟩:=hs i τ st hi p
  obtain⟨τ2,st2,e2,q2⟩:=loop_rng' P hs k (i+1) τ' st' (by omega) q
  refine⟨τ2,st2,?_,q2⟩
  rw[loop]
  simp only[Src.at,hi,if_true,oBs,e]
  exact e2
theorem loop_rng{f:Sl→Store→D→Option (Out×Store)}{lo:Int}{n:Nat}{τ:Sl}{st:Store}(P:Nat→Sl→Store→Prop)(h0:P 0 τ st)(hs:∀ i τ st,i<n→P i τ st→∃ τ' st',f τ st (.int (lo+i))=some (.nx τ',st')∧P (i+1) τ' st'):
  ∃ τ' st',loop (.rng lo n) f (n+1) 0 τ st=some (.nx τ',st')∧P n τ' st':=loop_rng' P hs n 0 τ st (by omega) h0
theorem wlistAt_new(st:Store)(ds:List D):wlistAt (st++[.lst true ds]) st.length=some ds:=by simp[wlistAt]
theorem set_new(st:Store)(c c':Cell):(st++[c]).set st.length c'=st++[c']:=by simp
end M
end
section
namespace M
open PySem (Str)
def Co{α:Type}(a:Option α)(b:Nat→Option α):Prop:=∀ x,a=some x→∃ n,∀ m,n≤m→b m=some x
theorem Co.refl{α:Type}(a:Option α):Co a fun _=>a:=fun _ h=>⟨0,fun _ _=>h⟩
theorem Co.none{α:Type}(b:Nat→Option α):Co Option.none b:=fun _ h=>by cases h
theorem Co.bind{α β:Type}{f:Option α}{f':Nat→Option α}{g:α→Option β}{g':Nat→α→Option β}(hf:Co f f')(hg:∀ a,Co (g a) fun m=>g' m a):Co (f.bind g) fun m=>(f' m).bind (g' m):=fun x h=>by
 cases e:f with
 |none=>rw[e]at h; cases h
 |some a=>
  rw[e]at h
  obtain⟨n,hn⟩:=hf a e
  obtain⟨k,hk⟩:=hg a x h
  refine⟨max n k,fun m hm=>?_⟩
  simp only
  rw[hn m (by omega)]
  exact hk m (by omega)
theorem Co.map{α β:Type}{f:Option α}{f':Nat→Option α}(g:α→β)(hf:Co f f'):Co (f.map g) fun m=>(f' m).map g:=fun x h=>by
 cases e:f with
 |none=>rw[e]at h; cases h
 |some a=>
  rw[e]at h
  obtain⟨n,hn⟩:=hf a e
  refine⟨n,fun m hm=>?_⟩
  simp only
  rw[hn m hm]
  exact h
theorem Co.ite{α:Type}{c:Prop} [Decidable c]{a b:Option α}{a' b':Nat→Option α}(ha:Co a a') (hb:Co b b'):Co (if c then a else b) fun m=>if c then a' m else b' m:=by
 by_cases h:c
 ·simp only[if_pos h]; exact ha
 ·simp only[if_neg h]; exact hb
structure Le (r:R) (r':Nat→R):Prop where
 ev:∀ τ st e,Co (r.ev τ st e) fun m=>(r' m).ev τ st e
 tst:∀ τ st e,Co (r.tst τ st e) fun m=>(r' m).tst τ st e
 ex:∀ τ st e,Co (r.ex τ st e) fun m=>(r' m).ex τ st e
 call:∀ f ds st,Co (r.call f ds st) fun m=>(r' m).call f ds st
theorem evs_mono{f:Store→E→Option (D×Store)}{f':Nat→Store→E→Option (D×Store)}(h:∀ st e,Co (f st e) fun m=>f' m st e):∀ (es:List E) (st:Store),Co (evs f es st) fun m=>evs (f' m) es st
 |[],st=>.refl _
 |e::es,st=>(h st e).bind fun p=>(evs_mono h es p.2).bind fun q=>.refl _
theorem loop_mono{it:Src}{f:Sl→Store→D→Option (Out×Store)}{f':Nat→Sl→Store→D→Option (Out×Store)}(h:∀ τ st d,Co (f τ st d) fun m=>f' m τ st d):∀ (k i:Nat) (τ:Sl) (st:Store),Co (loop it f k i τ st) fun m=>loop it (f' m) k i τ st
 |0,_,_,_=>.refl _
 |k+1,i,τ,st=>by
  unfold loop
  refine(Co.refl _).bind fun o=>?_
  cases o with
  |none=>exact .refl _
  |some d=>
   refine(h τ st d).bind fun p=>?_
   cases hp:p.1 with
   |nx τ'=>exact loop_mono h k _ _ _
   |ct τ'=>exact loop_mono h k _ _ _
   |bk τ'=>exact .refl _
   |rt v=>exact .refl _
theorem loopC_mono{it:Src}{f:Sl→Store→D→Option (Option D×Sl×Store)}{f':Nat→Sl→Store→D→Option (Option D×Sl×Store)}(h:∀ τ st d,Co (f τ st d) fun m=>f' m τ st d):∀ (k i:Nat) (acc:List D) (τ:Sl) (st:Store),Co (loopC it f k i acc τ st) fun m=>loopC it (f' m) k i acc τ st
 |0,_,_,_,_=>.refl _
 |k+1,i,acc,τ,st=>by
  unfold loopC
  refine(Co.refl _).bind fun o=>?_
  cases o with
  |none=>exact .refl _
  |some d=>exact Co.ite (.refl _) ((h τ st d).bind fun p=>loopC_mono h k _ _ _ _)
theorem loopW_mono{f:Sl→Store→Option (Bool×Store)}{f':Nat→Sl→Store→Option (Bool×Store)}{g:Sl→Store→Option (Out×Store)}{g':Nat→Sl→Store→Option (Out×Store)}(h:∀ τ st,Co (f τ st) fun m=>f' m τ st)(h':∀ τ st,Co (g τ st) fun m=>g' m τ st):∀ (k:Nat) (τ:Sl) (st:Store),Co (loopW f g k τ st) fun m=>loopW (f' m) (g' m) k τ st
 |0,_,_=>.refl _
 |k+1,τ,st=>by
  unfold loopW
  refine(h τ st).bind fun b=>Co.ite ((h' τ _).bind fun p=>?_) (.refl _)
  cases hp:p.1 with
  |nx τ'=>exact loopW_mono h h' k _ _
  |ct τ'=>exact loopW_mono h h' k _ _
  |bk τ'=>exact .refl _
  |rt v=>exact .refl _
theorem exs_mono{f:Sl→Store→S→Option (Out×Store)}{f':Nat→Sl→Store→S→Option (Out×Store)}(h:∀ τ st s,Co (f τ st s) fun m=>f' m τ st s):∀ (ss:List S) (τ:Sl) (st:Store),Co (exs f ss τ st) fun m=>exs (f' m) ss τ st
 |[],_,_=>.refl _
 |s::ss,τ,st=>by
  unfold exs
  refine(h τ st s).bind fun p=>?_
  cases hp:p.1 with
  |nx τ'=>exact exs_mono h ss _ _
  |_=>exact .refl _
section
variable {r:R}{r':Nat→R}(h:Le r r')
include h
theorem src_mono(τ:Sl)(st:Store)(e:E):Co (src r τ st e) fun m=>src (r' m) τ st e:=by
 cases e with
 |rng1 a=>exact(h.ev τ st a).bind fun p=>.refl _
 |rng2 a b=>exact(h.ev τ st a).bind fun p=>(h.ev τ _ b).bind fun q=>.refl _
 |rng3 a b c=>exact(h.ev τ st a).bind fun p=>(h.ev τ _ b).bind fun q=>(h.ev τ _ c).bind fun u=>.refl _
 |zip a b=>exact(h.ev τ st a).bind fun p=>(h.ev τ _ b).bind fun q=>.refl _
 |_=>exact(h.ev τ st _).bind fun p=>.refl _
theorem part_mono(τ:Sl)(st:Store)(e:Option E):Co (part r τ st e) fun m=>part (r' m) τ st e:=by
 cases e with
 |none=>exact .refl _
 |some e=>exact(h.ev τ st e).bind fun p=>.refl _
theorem turnC_mono(t:T)(test:Option E)(elt:E)(τ:Sl)(st:Store)(d:D):Co (turnC r t test elt τ st d) fun m=>turnC (r' m) t test elt τ st d:=by
 unfold turnC
 refine(Co.refl _).bind fun τ'=>?_
 cases test with
 |none=>exact(h.ev _ _ _).map _
 |some c=>exact(h.tst _ _ _).bind fun b=>Co.ite ((h.ev _ _ _).map _) (.refl _)
theorem dinR_mono(τ:Sl)(st:Store)(neg:Bool)(a b:E):Co (dinR r τ st neg a b) fun m=>dinR (r' m) τ st neg a b:=(h.ev τ st a).bind fun p=>(h.ev τ _ b).bind fun q=>.refl _
theorem ginR_mono(τ:Sl)(st:Store)(neg:Bool)(ks:List PySem.Str)(b:E):Co (ginR r τ st neg ks b) fun m=>ginR (r' m) τ st neg ks b:=(h.ev τ st b).bind fun p=>.refl _
theorem stepEv_mono(τ:Sl)(st:Store)(e:E):Co (stepEv r τ st e) fun m=>stepEv (r' m) τ st e:=by
 cases e with
 |var i=>exact .refl _
 |lit d=>exact .refl _
 |glo x d=>exact .refl _
 |bin op a b=>exact(h.ev τ st a).bind fun p=>(h.ev τ _ b).bind fun q=>.refl _
 |neg a=>exact(h.ev τ st a).bind fun p=>.refl _
 |not a=>exact(h.ev τ st a).bind fun p=>.refl _
 |cmp op a b=>exact(h.ev τ st a).bind fun p=>(h.ev τ _ b).bind fun q=>.refl _
 |cmp2 op op' a b c=>exact(h.ev τ st a).bind fun p=>(h.ev τ _ b).bind fun q=>(Co.refl _).bind fun k=>Co.ite ((h.ev τ _ c).bind fun u=>.refl _) (.refl _)
 |and a b=>
  refine(h.ev τ st a).bind fun p=>?_
  obtain⟨d,s⟩:=p
  cases d with
  |bl k=>cases k with
   |true=>exact h.ev τ _ b
   |false=>exact .refl _
  |_=>exact .refl _
 |or a b=>
  refine(h.ev τ st a).bind fun p=>?_
  obtain⟨d,s⟩:=p
  cases d with
  |bl k=>cases k with
   |false=>exact h.ev τ _ b
   |true=>exact .refl _
  |_=>exact .refl _
 |ite c a b=>exact(h.tst τ st c).bind fun p=>Co.ite (h.ev τ _ a) (h.ev τ _ b)
 |tup es=>exact(evs_mono (h.ev τ) es st).bind fun p=>.refl _
 |lst es=>exact(evs_mono (h.ev τ) es st).bind fun p=>.refl _
 |idx a b=>exact(h.ev τ st a).bind fun p=>(h.ev τ _ b).bind fun q=>.refl _
 |sli a lo hi=>exact(h.ev τ st a).bind fun p=>(part_mono h τ _ lo).bind fun l=>(part_mono h τ _ hi).bind fun u=>.refl _
 |call f es=>exact(evs_mono (h.ev τ) es st).bind fun p=>h.call f _ _
 |bcall f es=>exact(evs_mono (h.ev τ) es st).bind fun p=>.refl _
 |isi a ts m=>exact(h.ev τ st a).bind fun p=>.refl _
 |rev a=>exact(h.ev τ st a).bind fun p=>.refl _
 |lenset a=>exact(h.ev τ st a).bind fun p=>.refl _
 |cat a b=>exact(h.ev τ st a).bind fun p=>(h.ev τ _ b).bind fun q=>.refl _
 |gc a=>exact(h.ev τ st a).map _
 |meth a m es=>exact(h.ev τ st a).bind fun p=>Co.ite ((evs_mono (h.ev τ) es _).bind fun q=>.refl _) (.refl _)
 |rng1 a=>exact .refl _
 |rng2 a b=>exact .refl _
 |rng3 a b c=>exact .refl _
 |zip a b=>exact .refl _
 |dic es=>exact(evs_mono (h.ev τ) es _).bind fun p=>.refl _
 |didx a b=>exact(h.ev τ st a).bind fun p=>(h.ev τ _ b).bind fun q=>.refl _
 |din neg a b=>exact dinR_mono h τ st neg a b
 |dgt a b=>
  refine(h.ev τ st a).bind fun p=>?_
  obtain⟨d,s⟩:=p
  cases d with
  |loc l=>exact(Co.refl _).bind fun _=>(h.ev τ _ b).bind fun q=>.refl _
  |_=>exact .refl _
 |fmt a=>exact(h.ev τ st a).bind fun p=>.refl _
 |fstr es=>exact(evs_mono (h.ev τ) es st).bind fun p=>.refl _
 |gidx x ks ds b=>exact(h.ev τ st b).bind fun p=>.refl _
 |gin neg x ks b=>exact ginR_mono h τ st neg ks b
 |comp t it test elt sr=>exact(src_mono h τ st it).bind fun p=>(loopC_mono (turnC_mono h t test elt) _ _ _ _ _).map _
theorem stepTst_mono(τ:Sl)(st:Store)(e:E):Co (stepTst r τ st e) fun m=>stepTst (r' m) τ st e:=by
 cases e with
 |not a=>exact(h.tst τ st a).map _
 |and a b=>exact(h.tst τ st a).bind fun p=>Co.ite (h.tst τ _ b) (.refl _)
 |or a b=>exact(h.tst τ st a).bind fun p=>Co.ite (.refl _) (h.tst τ _ b)
 |ite _ _ _=>exact .refl _
 |din neg a b=>exact(dinR_mono h τ st neg a b).bind fun p=>.refl _
 |gin neg x ks b=>exact(ginR_mono h τ st neg ks b).bind fun p=>.refl _
 |cmp op a b=>exact(h.ev τ st a).bind fun p=>(h.ev τ _ b).bind fun q=>.refl _
 |cmp2 op op' a b c=>exact(h.ev τ st a).bind fun p=>(h.ev τ _ b).bind fun q=>(Co.refl _).bind fun k=>Co.ite ((h.ev τ _ c).bind fun u=>.refl _) (.refl _)
 |_=>exact(h.ev τ st _).bind fun p=>.refl _
theorem stepEx_mono(τ:Sl)(st:Store)(s:S):Co (stepEx r τ st s) fun m=>stepEx (r' m) τ st s:=by
 cases s with
 |set t e=>exact(h.ev τ st e).bind fun p=>.refl _
 |setIx a i e=>exact(h.ev τ st e).bind fun p=>(h.ev τ _ a).bind fun q=>(h.ev τ _ i).bind fun u=>.refl _
 |dset a i e=>exact(h.ev τ st e).bind fun p=>(h.ev τ _ a).bind fun q=>(h.ev τ _ i).bind fun u=>.refl _
 |rais=>exact .refl _
 |expr e=>exact(h.ev τ st e).map _
 |ret e=>exact(h.ev τ st e).map _
 |retN=>exact .refl _
 |ite c a b=>exact(h.tst τ st c).bind fun p=>Co.ite (h.ex τ _ a) (h.ex τ _ b)
 |forr t it body=>exact(src_mono h τ st it).bind fun p=>loop_mono (fun τ st d=>(Co.refl _).bind fun τ'=>h.ex τ' st body) _ _ _ _
 |whil c body=>exact loopW_mono (fun τ st=>h.tst τ st c) (fun τ st=>h.ex τ st body) _ _ _
 |aug i op e=>
  simp only[stepEx]
  cases h1:τ[i]? with
  |none=>exact .none _
  |some o=>
   cases o with
   |none=>exact .none _
   |some x=>exact(h.ev τ st e).bind fun p=>.refl _
 |brk=>exact .refl _
 |cnt=>exact .refl _
 |pass=>exact .refl _
theorem step_mono(c:Nat→List D→Store→Option (D×Store)):Le (step c r) fun m=>step c (r' m):=
 ⟨stepEv_mono h,stepTst_mono h,fun τ st ss=>exs_mono (stepEx_mono h) ss τ st,fun f ds st=>.refl _⟩
end
theorem run_succ(c:Nat→List D→Store→Option (D×Store)):∀ n,Le (runK c n) fun _=>runK c (n+1)
 |0=>⟨fun _ _ _=>.none _,fun _ _ _=>.none _,fun _ _ _=>.none _,fun _ _ _=>.refl _⟩
 |n+1=>step_mono (run_succ c n) c
section
variable {c:Nat→List D→Store→Option (D×Store)}{n N:Nat}
theorem ev_up{τ:Sl}{st:Store}{e:E}{x:D×Store}(h:(runK c n).ev τ st e=some x)(hN:n≤N):(runK c N).ev τ st e=some x:=by
 induction hN with
 |refl=>exact h
 |step _ ih=>obtain⟨k,hk⟩:=(run_succ c _).ev τ st e x ih; exact hk k (Nat.le_refl _)
theorem ex_up{τ:Sl}{st:Store}{e:List S}{x:Out×Store}(h:(runK c n).ex τ st e=some x)(hN:n≤N):(runK c N).ex τ st e=some x:=by
 induction hN with
 |refl=>exact h
 |step _ ih=>obtain⟨k,hk⟩:=(run_succ c _).ex τ st e x ih; exact hk k (Nat.le_refl _)
end
theorem lim1_of{α:Type}{f:Nat→Option α}{n:Nat}{x:α}(up:∀ n N x,f n=some x→n≤N→f N=some x)(h:f n=some x):lim1 f=some x:=by
 have hx:∃ x,∃ n,f n=some x:=⟨x,n,h⟩
 unfold lim1
 rw[dif_pos hx]
 obtain⟨k,hk⟩:=hx.choose_spec
 have e1:=up _ (max n k) _ h (by omega)
 have e2:=up _ (max n k) _ hk (by omega)
 rw[e1]at e2
 exact e2.symm
section
variable {fns:List Fn}{d:Nat}{τ:Sl}{st:Store}
theorem call_of{f:Nat}{F:Fn}{ds:List D}{st':Store}{v:D}(n:Nat)(hf:fns[f]?=some F)(hl:ds.length=F.np)(hτ:ds.map some++List.replicate (F.nl - ds.length) none=τ)
  (h:exs (stepEx (rn fns d n)) F.body τ st=some (.rt v,st')):callD fns (d+1) f ds st=some (v,st'):=by
 show stepCall fns (RL (callD fns d)) f ds st=_
 unfold stepCall
 rw[hf]
 dsimp only
 have e:(RL (callD fns d)).ex τ st F.body=some (.rt v,st'):=lim1_of (n:=n+1) (fun _ _ _ h k=>ex_up h k) h
 rw[if_pos hl,hτ,e]
 rfl
theorem ev_k{c:Nat→List D→Store→Option (D×Store)}{n:Nat}(e:E):(runK c (n+1)).ev τ st e=stepEv (runK c n) τ st e:=rfl
theorem tst_k{c:Nat→List D→Store→Option (D×Store)}{n:Nat}(e:E):(runK c (n+1)).tst τ st e=stepTst (runK c n) τ st e:=rfl
theorem ex_k{c:Nat→List D→Store→Option (D×Store)}{n:Nat}(e:List S):(runK c (n+1)).ex τ st e=exs (stepEx (runK c n)) e τ st:=rfl
theorem call_k{c:Nat→List D→Store→Option (D×Store)}{n:Nat}(f:Nat)(ds:List D):(runK c (n+1)).call f ds st=c f ds st:=rfl
end
end M
end
section
namespace M
open PySem (Str)
section
variable {r:R}{s:Src}{S:Store}{rest:Sl}{elt:E}{ds:List D}
theorem loopC_map{es:List D}(hat:∀ i,s.at S i=some ds[i]?)(hlen:es.length=ds.length)(hlim:ds.length<lim)(he:∀ (i:Nat) (d e:D),ds[i]?=some d→es[i]?=some e→r.ev (some d::rest) S elt=some (e,S)):
  ∀ (k i:Nat) (o:Option D),i+k=ds.length→loopC s (turnC r (.var 0) none elt) (k+1) i (es.take i) (o::rest) S=some (es,S)
 |0,i,o,h=>by
  have e:i=ds.length:=by omega
  subst e
  have h1:es.take ds.length=es:=List.take_of_length_le (by omega)
  rw[loopC,hat,h1]
  simp only[oBs,List.getElem?_eq_none (Nat.le_refl _)]
  rw[if_neg (by omega)]
 |k+1,i,o,h=>by
  have hi:i<ds.length:=by omega
  have h1:ds[i]?=some ds[i]:=by simp
  have h2:es[i]?=some (es[i]'(by omega)):=by simp
  have h3:=he i _ _ h1 h2
  rw[loopC,hat,h1]
  simp only[oBs]
  rw[if_neg (by rw[List.length_take]; omega)]
  have e1:turnC r (.var 0) none elt (o::rest) S ds[i]=some (some (es[i]'(by omega)),some ds[i]::rest,S):=by
   unfold turnC
   simp only[setT,List.length_cons,Nat.zero_lt_succ,if_true,List.set_cons_zero,oBs,h3,oMs]
  rw[e1]
  simp only[oBs]
  rw[show es.take i++[es[i]'(by omega)]=es.take (i+1) by rw[List.take_succ_eq_append_getElem (by omega)]]
  exact loopC_map hat hlen hlim he k (i+1) _ (by omega)
end
theorem comp_map{r:R}{τ:Sl}{S S':Store}{it elt:E}{sr:List (Option Nat)}{s:Src}{rest:Sl}{ds es:List D}(hsrc:src r τ S it=some (s,S'))(hat:∀ i,s.at S' i=some ds[i]?)(hsz:s.size S'=ds.length)(hin:inner sr τ=none::rest)(hlen:es.length=ds.length)(hlim:ds.length<lim)
  (he:∀ (i:Nat) (d e:D),ds[i]?=some d→es[i]?=some e→r.ev (some d::rest) S' elt=some (e,S')):stepEv r τ S (.comp (.var 0) it none elt sr)=some (.loc S'.length,S'++[.lst true es]):=by
 have h:=loopC_map (r:=r) (s:=s) (S:=S') (rest:=rest) (elt:=elt) hat hlen hlim he ds.length 0 none (by omega)
 show((src r τ S it).bind fun p=>(loopC p.1 (turnC r (.var 0) none elt) (p.1.size p.2+1) 0 [] (inner sr τ) p.2).map fun q=>alloc q.2 (.lst true q.1))=_
 rw[hsrc]
 simp only[oBs,hsz,hin]
 rw[show([]:List D)=es.take 0 by simp,h]
 rfl
theorem at_rng{S:Store}(lo:Int)(n:Nat)(i:Nat):(Src.rng lo n).at S i=some ((List.range n).map fun(j:Nat)=>D.int (lo+j))[i]?:=by
 simp only[Src.at,List.getElem?_map]
 by_cases h:i<n
 ·rw[if_pos h,List.getElem?_range h]; rfl
 ·rw[if_neg h,List.getElem?_eq_none (by simpa using h)]; rfl
theorem loop_src'{f:Sl→Store→D→Option (Out×Store)}{s:Src}{ds:List D}(P:Nat→Sl→Store→Prop)(Q:Sl→Store→Prop)(hat:∀ i τ st,P i τ st→s.at st i=some ds[i]?)
  (hs:∀ i τ st d,ds[i]?=some d→P i τ st→(∃ τ' st',(f τ st d=some (.nx τ',st')∨f τ st d=some (.ct τ',st'))∧P (i+1) τ' st')∨∃ τ' st',f τ st d=some (.bk τ',st')∧Q τ' st') :
  ∀ (k i:Nat) (τ:Sl) (st:Store),i+k=ds.length→P i τ st→∃ τ' st',loop s f (k+1) i τ st=some (.nx τ',st')∧(P ds.length τ' st'∨Q τ' st')
 |0,i,τ,st,h,p=>by
  have e:i=ds.length:=by omega
  subst e
  refine⟨τ,st,?_,.inl p⟩
  rw[loop,hat _ _ _ p]
  simp[List.getElem?_eq_none (Nat.le_refl _)]
 |k+1,i,τ,st,h,p=>by
  have hi:i<ds.length:=by omega
  have h1:ds[i]?=some ds[i]:=by simp
  rw[loop,hat _ _ _ p,h1]
  simp only[oBs]
  rcases hs i τ st _ h1 p with⟨τ',st',e|e,q⟩|⟨τ',st',e,q⟩
  ·rw[e]
   exact loop_src' P Q hat hs k (i+1) τ' st' (by omega) q
  ·rw[e]
   exact loop_src' P Q hat hs k (i+1) τ' st' (by omega) q
  ·rw[e]
   exact⟨τ',st',rfl,.inr q⟩
theorem loop_src{f:Sl→Store→D→Option (Out×Store)}{s:Src}{ds:List D}{τ:Sl}{st:Store}(P:Nat→Sl→Store→Prop)(Q:Sl→Store→Prop)(h0:P 0 τ st)(hsz:s.size st=ds.length)(hat:∀ i τ st,P i τ st→s.at st i=some ds[i]?)
  (hs:∀ i τ st d,ds[i]?=some d→P i τ st→(∃ τ' st',(f τ st d=some (.nx τ',st')∨f τ st d=some (.ct τ',st'))∧P (i+1) τ' st')∨∃ τ' st',f τ st d=some (.bk τ',st')∧Q τ' st') :
  ∃ τ' st',loop s f (s.size st+1) 0 τ st=some (.nx τ',st')∧(P ds.length τ' st'∨Q τ' st'):=by
 rw[hsz]
 exact loop_src' P Q hat hs ds.length 0 τ st (by omega) h0
end M
end
section
namespace M
open PySem (Str)
section
variable {st r:Store}{d:D}{ds:List D}
theorem gc_app(h:noLoc d=true):gcD st (d,st++r)=(d,st):=by
 unfold gcD
 rw[if_pos (by simp),if_pos h]
theorem gc_same(h:noLoc d=true):gcD st (d,st)=(d,st):=by
 have:=gc_app (st:=st) (r:=[]) h
 rwa [List.append_nil]at this
theorem gc_int(i:Int):gcD st (.int i,st)=(.int i,st):=gc_same rfl
theorem gc_bl(i:Bool):gcD st (.bl i,st)=(.bl i,st):=gc_same rfl
theorem noLoc_tup:noLoc (.tup ds)=noLocs ds:=by rw[noLoc]
theorem noLoc_lst:noLoc (.lst ds)=noLocs ds:=by rw[noLoc]
theorem noLocs_nil:noLocs []=true:=rfl
theorem noLocs_cons:noLocs (d::ds)=(noLoc d&&noLocs ds):=rfl
theorem noLocs_all:∀ {ds:List D},noLocs ds=ds.all noLoc
 |[]=>rfl
 |d::ds=>by rw[noLocs_cons,List.all_cons,noLocs_all]
theorem noLocs_of(h:∀ d∈ds,noLoc d=true):noLocs ds=true:=by rw[noLocs_all,List.all_eq_true]; exact h
theorem noLocs_map{α:Type}{xs:List α}{g:α→D}(h:∀ x∈xs,noLoc (g x)=true):noLocs (xs.map g)=true:=noLocs_of fun d hd=>by
 obtain⟨x,hx,rfl⟩:=List.mem_map.mp hd
 exact h x hx
theorem gc_new(h:noLocs ds=true):gcD st (.loc st.length,st++[.lst true ds])=(.lst ds,st):=by
 unfold gcD
 rw[if_pos (by simp),if_neg (by simp[noLoc])]
 simp[h]
end
theorem stepEx_ite_t{r:R}{τ:Sl}{st st':Store}{c:E}{a b:List S}(h:r.tst τ st c=some (true,st')):stepEx r τ st (.ite c a b)=r.ex τ st' a:=by
 show(r.tst τ st c).bind _=_
 rw[h]; rfl
theorem stepEx_ite_f{r:R}{τ:Sl}{st st':Store}{c:E}{a b:List S}(h:r.tst τ st c=some (false,st')):stepEx r τ st (.ite c a b)=r.ex τ st' b:=by
 show(r.tst τ st c).bind _=_
 rw[h]; rfl
noncomputable def cDraw:List S:=[
 .set (.var 4) (.lit (.int 0)),
 .set (.var 5) (.lit (.int 1)),
 .ite (.cmp .Gt (.bcall .len [(.var 0)]) (.lit (.int 0))) [.set (.var 4) (.idx (.var 0) (.bin .Mod (.var 1) (.bcall .len [(.var 0)]))),.set (.var 5) (.bin .FloorDiv (.var 1) (.bcall .len [(.var 0)]))] [],
 .set (.var 6) (.var 4),
 .forr (.var 7) (.rng1 (.var 2)) [.set (.var 6) (.bin .FloorDiv (.var 6) (.bin .Pow (.lit (.int 10)) (.lit (.int 10))))],
 .ite (.and (.cmp .Eq (.var 5) (.lit (.int 0))) (.and (.cmp .GtE (.var 4) (.bin .Pow (.lit (.int 10)) (.lit (.int 18)))) (.cmp .Gt (.var 6) (.lit (.int 0))))) [.ret (.bin .Mod (.bin .Mod (.var 6) (.bin .Pow (.lit (.int 10)) (.lit (.int 10)))) (.var 3))] [],
 .set (.var 8) (.bin .Mod (.bin .Add (.bin .Add (.bin .Add (.bin .Mult (.var 4) (.lit (.int 7919))) (.bin .Mult (.var 1) (.lit (.int 104729)))) (.bin .Mult (.var 2) (.lit (.int 1299709)))) (.lit (.int 31))) (.lit (.int 1000000007))),
 .set (.var 9) (.bin .Mod (.bin .Add (.bin .Mult (.var 8) (.lit (.int 48271))) (.bin .FloorDiv (.var 4) (.lit (.int 1009)))) (.lit (.int 998244353))),
 .set (.var 9) (.bin .Mod (.bin .Add (.bin .Mult (.var 9) (.bin .Add (.bin .Mod (.var 8) (.lit (.int 9973))) (.lit (.int 1)))) (.var 2)) (.lit (.int 1000000009))),
 .ret (.bin .Mod (.bin .Mod (.bin .Add (.bin .Add (.bin .Mult (.var 8) (.lit (.int 69621))) (.bin .Mult (.var 9) (.lit (.int 40692)))) (.bin .FloorDiv (.var 9) (.lit (.int 1013)))) (.lit (.int 2147483647))) (.var 3))]
noncomputable def fDraw:Fn:=⟨4,10,cDraw⟩
theorem mulOk_r{a b:Int}(h1:-(2 ^ 64)<b)(h2:b<2 ^ 64):mulOk a b=true:=by unfold mulOk; simp; omega
theorem mulOk_l{a b:Int}(h1:-(2 ^ 64)<a)(h2:a<2 ^ 64):mulOk a b=true:=by unfold mulOk; simp; omega
noncomputable def drawC(ns:List Int)(k:Int):Int×Int:=if ns=[] then(0,1) else(ns.getD (k % (ns.length:Int)).toNat 0,k / ns.length)
noncomputable def iterD:Nat→Int→Int
 |0,c=>c
 |n+1,c=>iterD n c / 10000000000
noncomputable def drawF(c k j many:Int):Int:=(fun one=>(fun two=>(fun two'=>(one*69621+two'*40692+two' / 1013) % 2147483647 % many) ((two*(one % 9973+1)+j) % 1000000009)) ((one*48271+c / 1009) % 998244353)) ((c*7919+k*104729+j*1299709+31) % 1000000007)
noncomputable def drawV(ns:List Int)(k j many:Int):Int:=
 if (drawC ns k).2=0∧1000000000000000000≤(drawC ns k).1∧0<iterD j.toNat (drawC ns k).1 then iterD j.toNat (drawC ns k).1 % 10000000000 % many else drawF (drawC ns k).1 k j many
theorem drawV_lo(ns:List Int)(k j:Int){many:Int}(h:0<many):0≤drawV ns k j many:=by
 unfold drawV
 split
 ·exact Int.emod_nonneg _ (by omega)
 ·exact Int.emod_nonneg _ (by omega)
theorem drawV_hi(ns:List Int)(k j:Int){many:Int}(h:0<many):drawV ns k j many<many:=by
 unfold drawV
 split
 ·exact Int.emod_lt_of_pos _ h
 ·exact Int.emod_lt_of_pos _ h
section
variable {c:Nat→List D→Store→Option (D×Store)}{n:Nat}{τ:Sl}{st:Store}
theorem evB{op:PySem.Operator}{A B:E}{a b r:D}(ha:(runK c n).ev τ st A=some (a,st))(hb:(runK c n).ev τ st B=some (b,st))(hr:binop st op a b=some (r,st)):(runK c (n+1)).ev τ st (.bin op A B)=some (r,st):=by
 rw[ev_k]
 simp only[stepEv,ha,hb,oBs,hr]
theorem evV{i:Nat}{d:D}(h:τ[i]?=some (some d)):(runK c (n+1)).ev τ st (.var i)=some (d,st):=by
 rw[ev_k]
 simp only[stepEv,h]
theorem evX{a b:E}{x y r:D}(ha:(runK c n).ev τ st a=some (x,st))(hb:(runK c n).ev τ st b=some (y,st))(h:idxD st x y=some r):(runK c (n+1)).ev τ st (.idx a b)=some (r,st):=by
 rw[ev_k]
 simp only[stepEv,ha,hb,oBs,h,oMs]
theorem stS{τ':Sl}{i:Nat}{e:E}{d:D}(he:(runK c n).ev τ st e=some (d,st))(ht:setT (.var i) d τ=some τ'):stepEx (runK c n) τ st (.set (.var i) e)=some (.nx τ',st):=by
 simp only[stepEx,he,oBs,ht,oMs]
theorem stR{e:E}{d:D}(he:(runK c n).ev τ st e=some (d,st)):stepEx (runK c n) τ st (.ret e)=some (.rt d,st):=by
 simp only[stepEx,he,oMs]
theorem tCmp{op:PySem.CmpOp}{a b:E}{x y:D}{k:Bool}(ha:(runK c n).ev τ st a=some (x,st))(hb:(runK c n).ev τ st b=some (y,st))(h:cmpD st op x y=some k):(runK c (n+1)).tst τ st (.cmp op a b)=some (k,st):=by
 rw[tst_k]
 simp only[stepTst,ha,hb,oBs,h,oMs]
theorem tAnd{a b:E}{x y:Bool}(ha:(runK c n).tst τ st a=some (x,st))(hb:(runK c n).tst τ st b=some (y,st)):(runK c (n+1)).tst τ st (.and a b)=some (x&&y,st):=by
 rw[tst_k]
 simp only[stepTst,ha,oBs]
 cases x with
 |true=>rw[if_pos rfl,hb]; rfl
 |false=>rfl
end
theorem bMu(S:Store)(a:Int){b:Int}(h0:-(2 ^ 64)<b)(h1:b<2 ^ 64):binop S .Mult (.int a) (.int b)=some (.int (a*b),S):=by
 simp only[binop]
 rw[if_pos (mulOk_r h0 h1)]
theorem bMo(S:Store)(a:Int){b:Int}(h:0<b):binop S .Mod (.int a) (.int b)=some (.int (a % b),S):=by
 simp only[binop]
 rw[if_pos h]
theorem bDi(S:Store)(a:Int){b:Int}(h:0<b)(h1:b<2 ^ 64):binop S .FloorDiv (.int a) (.int b)=some (.int (a / b),S):=by
 simp only[binop]
 rw[if_pos ⟨h,h1⟩]
noncomputable abbrev dT(ns:List Int)(k j many:Int)(r:Sl):Sl:=some (.lst (ns.map D.int))::some (.int k)::some (.int j)::some (.int many)::r
theorem draw_first{c:Nat→List D→Store→Option (D×Store)}(st:Store)(ns:List Int)(k j many:Int)(hn:ns.length≤63):
  exs (stepEx (runK c 30)) (cDraw.take 4) (dT ns k j many [none,none,none,none,none,none]) st=some (.nx (dT ns k j many [some (.int (drawC ns k).1),some (.int (drawC ns k).2),some (.int (drawC ns k).1),none,none,none]),st):=by
 by_cases he:ns=[]
 ·subst he
  rfl
 ·have hp:0<ns.length:=List.length_pos_iff.mpr he
  have hz:0<(ns.length:Int):=by omega
  have h1:0≤k % (ns.length:Int):=Int.emod_nonneg _ (by omega)
  have h2:k % (ns.length:Int)<ns.length:=Int.emod_lt_of_pos _ hz
  have h5:(k % (ns.length:Int)).toNat<ns.length:=by omega
  have eC:drawC ns k=(ns[(k % (ns.length:Int)).toNat]'h5,k / ns.length):=by
   unfold drawC
   rw[if_neg he,List.getD_eq_getElem?_getD,List.getElem?_eq_getElem h5]
   rfl
  rw[eC]
  have l:∀ (m:Nat) (r:Sl),(runK c (m+2)).ev (dT ns k j many r) st (.bcall .len [(.var 0)])=some (.int ns.length,st):=fun m r=>by
   have v:(runK c (m+1)).ev (dT ns k j many r) st (.var 0)=some (.lst (ns.map D.int),st):=rfl
   rw[ev_k]
   simp only[stepEv,evs,v,oBs,bfun,bLen,seqAt,oMs,List.length_map]
  have x:idxD st (.lst (ns.map D.int)) (.int (k % ns.length))=some (.int (ns[(k % (ns.length:Int)).toNat]'h5)):=by
   simp only[idxD,seqAt,oBs,atI,ixN,h1,if_true,List.length_map,h2,List.getElem?_map,List.getElem?_eq_getElem h5,oMs]
  refine(exs_cons (τ':=dT ns k j many [some (.int 0),none,none,none,none,none]) (s':=st) rfl).trans ?_
  refine(exs_cons (τ':=dT ns k j many [some (.int 0),some (.int 1),none,none,none,none]) (s':=st) rfl).trans ?_
  have t:=tCmp (c:=c) (n:=29) (τ:=dT ns k j many [some (.int 0),some (.int 1),none,none,none,none]) (st:=st) (op:=.Gt) (b:=.lit (.int 0)) (y:=.int 0) (k:=true) (l 27 _) rfl (by
   show some (decide ((0:Int)<ns.length))=_
   rw[decide_eq_true hz])
  refine(exs_cons (τ':=dT ns k j many [some (.int (ns[(k % (ns.length:Int)).toNat]'h5)),some (.int (k / ns.length)),none,none,none,none]) (s':=st) ((stepEx_ite_t t).trans ?_)).trans rfl
  refine(exs_cons (τ':=dT ns k j many [some (.int (ns[(k % (ns.length:Int)).toNat]'h5)),some (.int 1),none,none,none,none]) (s':=st) (stS (evX (n:=28) (x:=.lst (ns.map D.int)) rfl (evB (n:=27) (a:=.int k) rfl (l 25 _) (bMo _ _ hz)) x) rfl)).trans ?_
  exact(exs_cons (τ':=dT ns k j many [some (.int (ns[(k % (ns.length:Int)).toNat]'h5)),some (.int (k / ns.length)),none,none,none,none]) (s':=st) (stS (evB (n:=28) (a:=.int k) rfl (l 26 _) (bDi _ _ hz (by omega))) rfl)).trans rfl
theorem draw_second{c:Nat→List D→Store→Option (D×Store)}(st:Store)(ns:List Int)(k j many cell turn:Int)(hj:0≤j)(hj2:j<100000):
  ∃ o,stepEx (runK c 30) (dT ns k j many [some (.int cell),some (.int turn),some (.int cell),none,none,none]) st (.forr (.var 7) (.rng1 (.var 2)) [.set (.var 6) (.bin .FloorDiv (.var 6) (.bin .Pow (.lit (.int 10)) (.lit (.int 10))))])=some (.nx (dT ns k j many [some (.int cell),some (.int turn),some (.int (iterD j.toNat cell)),o,none,none]),st):=by
 have hb:big j=false:=by unfold big; simp; omega
 obtain⟨τ',st',e,o,hT,hS⟩:=loop_rng (lo:=0) (n:=j.toNat) (τ:=dT ns k j many [some (.int cell),some (.int turn),some (.int cell),none,none,none]) (st:=st)
  (f:=fun τ st d=>(setT (.var 7) d τ).bind fun τ'=>(runK c 30).ex τ' st [.set (.var 6) (.bin .FloorDiv (.var 6) (.bin .Pow (.lit (.int 10)) (.lit (.int 10))))])
  (fun i τ s=>∃ (o:Option D),τ=dT ns k j many [some (.int cell),some (.int turn),some (.int (iterD i cell)),o,none,none]∧s=st) ⟨none,rfl,rfl⟩ (by
   rintro i τ s hi ⟨o,rfl,rfl⟩
   refine⟨dT ns k j many [some (.int cell),some (.int turn),some (.int (iterD i cell / 10000000000)),some (.int (0+i)),none,none],s,?_,_,rfl,rfl⟩
   show exs (stepEx (runK c 29)) _ (dT ns k j many [some (.int cell),some (.int turn),some (.int (iterD i cell)),some (.int (0+i)),none,none]) s=_
   exact(exs_cons (τ':=dT ns k j many [some (.int cell),some (.int turn),some (.int (iterD i cell / 10000000000)),some (.int (0+i)),none,none]) (s':=s) (stS (evB (n:=28) (a:=.int (iterD i cell)) (b:=.int 10000000000) rfl rfl (bDi _ _ (by decide) (by decide))) rfl)).trans rfl)
 rw[hT,hS]at e
 refine⟨o,?_⟩
 have v:(runK c 30).ev (dT ns k j many [some (.int cell),some (.int turn),some (.int cell),none,none,none]) st (.var 2)=some (.int j,st):=rfl
 simp only[stepEx,src,v,oBs,hb,Bool.false_eq_true,if_false,Src.size]
 exact e
theorem draw_eq'{fns:List Fn}{f:Nat}(hf:fns[f]?=some fDraw)(n:Nat)(st:Store)(ns:List Int)(k j many:Int)(hn:ns.length≤63)(hj:0≤j)(hj2:j<100000)(hm:0<many):
  callD fns (n+1) f [.lst (ns.map D.int),.int k,.int j,.int many] st=some (.int (drawV ns k j many),st):=by
 refine call_of 30 hf rfl rfl ?_
 show exs (stepEx (rn fns n 30)) (cDraw.take 4++cDraw.drop 4) (dT ns k j many [none,none,none,none,none,none]) st=_
 rw[exs_split _ (draw_first st ns k j many hn)]
 unfold drawV
 generalize (drawC ns k).1=cell
 generalize (drawC ns k).2=turn
 obtain⟨o,e2⟩:=draw_second (c:=callD fns n) st ns k j many cell turn hj hj2
 refine(exs_cons e2).trans ?_
 generalize iterD j.toNat cell=rest
 have t:=tAnd (c:=callD fns n) (n:=29) (τ:=dT ns k j many [some (.int cell),some (.int turn),some (.int rest),o,none,none]) (st:=st) (tCmp (n:=28) (op:=.Eq) (a:=.var 5) (b:=.lit (.int 0)) (x:=.int turn) (y:=.int 0) (k:=turn==0) rfl rfl (eqD_ii st turn 0)) (tAnd (n:=28) (tCmp (n:=27) (op:=.GtE) (a:=.var 4) (b:=.bin .Pow (.lit (.int 10)) (.lit (.int 18))) (x:=.int cell) (y:=.int 1000000000000000000) rfl rfl rfl) (tCmp (n:=27) (op:=.Gt) (a:=.var 6) (b:=.lit (.int 0)) (x:=.int rest) (y:=.int 0) rfl rfl rfl))
 by_cases hc:turn=0∧1000000000000000000≤cell∧0<rest
 ·rw[if_pos hc]
  have tb:((turn==0)&&(decide (1000000000000000000≤cell)&&decide (0<rest)))=true:=by
   rw[hc.1,decide_eq_true hc.2.1,decide_eq_true hc.2.2]; rfl
  rw[tb]at t
  exact exs_ret ((stepEx_ite_t t).trans (exs_ret (stR (evB (n:=28) (b:=.int many) (evB (n:=27) (a:=.int rest) (b:=.int 10000000000) rfl rfl (bMo _ _ (by decide))) rfl (bMo _ _ hm)))))
 ·rw[if_neg hc]
  have tb:((turn==0)&&(decide (1000000000000000000≤cell)&&decide (0<rest)))=false:=by
   rw[← Bool.not_eq_true,Bool.and_eq_true,Bool.and_eq_true,beq_iff_eq,decide_eq_true_iff,decide_eq_true_iff]
   exact hc
  rw[tb]at t
  refine(exs_cons (τ':=dT ns k j many [some (.int cell),some (.int turn),some (.int rest),o,none,none]) (s':=st) ((stepEx_ite_f t).trans rfl)).trans ?_
  unfold drawF
  refine(exs_cons (stS (evB (n:=29) (b:=.int 1000000007) (evB (n:=28) (b:=.int 31) (evB (n:=27) (evB (n:=26) (evB (n:=25) (a:=.int cell) (b:=.int 7919) rfl rfl (bMu _ _ (by decide) (by decide))) (evB (n:=25) (a:=.int k) (b:=.int 104729) rfl rfl (bMu _ _ (by decide) (by decide))) rfl) (evB (n:=26) (a:=.int j) (b:=.int 1299709) rfl rfl (bMu _ _ (by decide) (by decide))) rfl) rfl rfl) rfl (bMo _ _ (by decide))) rfl)).trans ?_
  generalize (cell*7919+k*104729+j*1299709+31) % 1000000007=one
  try dsimp only
  refine(exs_cons (stS (evB (n:=29) (b:=.int 998244353) (evB (n:=28) (evB (n:=27) (a:=.int one) (b:=.int 48271) rfl rfl (bMu _ _ (by decide) (by decide))) (evB (n:=27) (a:=.int cell) (b:=.int 1009) rfl rfl (bDi _ _ (by decide) (by decide))) rfl) rfl (bMo _ _ (by decide))) rfl)).trans ?_
  generalize (one*48271+cell / 1009) % 998244353=two
  try dsimp only
  have h1:0≤one % 9973:=Int.emod_nonneg _ (by decide)
  have h2:one % 9973<9973:=Int.emod_lt_of_pos _ (by decide)
  refine(exs_cons (stS (evB (n:=29) (b:=.int 1000000009) (evB (n:=28) (b:=.int j) (evB (n:=27) (a:=.int two) rfl (evB (n:=26) (b:=.int 1) (evB (n:=25) (a:=.int one) (b:=.int 9973) rfl rfl (bMo _ _ (by decide))) rfl rfl) (bMu _ _ (by omega) (by omega))) rfl rfl) rfl (bMo _ _ (by decide))) rfl)).trans ?_
  generalize (two*(one % 9973+1)+j) % 1000000009=two'
  try dsimp only
  exact exs_ret (stR (evB (n:=29) (b:=.int many) (evB (n:=28) (b:=.int 2147483647) (evB (n:=27) (evB (n:=26) (evB (n:=25) (a:=.int one) (b:=.int 69621) rfl rfl (bMu _ _ (by decide) (by decide))) (evB (n:=25) (a:=.int two') (b:=.int 40692) rfl rfl (bMu _ _ (by decide) (by decide))) rfl) (evB (n:=26) (a:=.int two') (b:=.int 1013) rfl rfl (bDi _ _ (by decide) (by decide))) rfl) rfl (bMo _ _ (by decide))) rfl (bMo _ _ hm)))
theorem draw_eq{fns:List Fn}{f:Nat}(hf:fns[f]?=some fDraw){N:Nat}(hN:1≤N){st:Store}{ns:List Int}{k j many:Int}(hn:ns.length≤63)(hj:0≤j)(hj2:j<100000)(hm:0<many):
  callD fns N f [.lst (ns.map D.int),.int k,.int j,.int many] st=some (.int (drawV ns k j many),st):=by
 have:=draw_eq' hf (N - 1) st ns k j many hn hj hj2 hm
 rwa [show N - 1+1=N by omega]at this
end M
end
section
namespace M
open PySem (Str)
abbrev CF:=Nat→List D→Store→Option (D×Store)
section
variable {c:CF}{n:Nat}{τ:Sl}{st:Store}{it elt:E}{sr:List (Option Nat)}{s:Src}{rest:Sl}{α:Type}
theorem gc_comp(xs:List α)(f g:α→D)(hsrc:src (runK c n) τ st it=some (s,st))(hat:∀ i,s.at st i=some (xs.map f)[i]?)(hsz:s.size st=xs.length)(hin:inner sr τ=none::rest)(hlim:xs.length<1000000)(hg:∀ x∈xs,noLoc (g x)=true)
  (he:∀ x∈xs,(runK c n).ev (some (f x)::rest) st elt=some (g x,st)):(runK c (n+2)).ev τ st (.gc (.comp (.var 0) it none elt sr))=some (.lst (xs.map g),st):=by
 have h:=comp_map (r:=runK c n) (τ:=τ) (S:=st) (S':=st) (it:=it) (elt:=elt) (sr:=sr) (s:=s) (rest:=rest) (ds:=xs.map f) (es:=xs.map g) hsrc hat (by rw[hsz,List.length_map]) hin (by rw[List.length_map,List.length_map]) (by rw[List.length_map]; unfold lim; omega) (fun i d e h1 h2=>by
  rw[List.getElem?_map]at h1 h2
  cases hx:xs[i]? with
  |none=>rw[hx]at h1; cases h1
  |some x=>
   rw[hx]at h1 h2
   cases h1
   cases h2
   exact he x (List.mem_of_getElem? hx))
 have e1:(runK c (n+1)).ev τ st (.comp (.var 0) it none elt sr)=some (.loc st.length,st++[.lst true (xs.map g)]):=h
 show((runK c (n+1)).ev τ st (.comp (.var 0) it none elt sr)).map (fun p=>gcD st p)=_
 rw[e1]
 show some (gcD st (.loc st.length,st++[.lst true (xs.map g)]))=_
 rw[gc_new (noLocs_map hg)]
theorem gc_ev{d:D}{e:E}(h:(runK c n).ev τ st e=some (d,st))(hd:noLoc d=true):(runK c (n+1)).ev τ st (.gc e)=some (d,st):=by
 show((runK c n).ev τ st e).map (fun p=>gcD st p)=_
 rw[h]
 show some (gcD st (d,st))=_
 rw[gc_same hd]
theorem gc_evL{ds:List D}{e:E}(h:(runK c n).ev τ st e=some (.loc st.length,st++[.lst true ds]))(hd:noLocs ds=true):(runK c (n+1)).ev τ st (.gc e)=some (.lst ds,st):=by
 show((runK c n).ev τ st e).map (fun p=>gcD st p)=_
 rw[h]
 show some (gcD st _)=_
 rw[gc_new hd]
theorem gc_lit{es:List E}{ds:List D}(h:evs ((runK c n).ev τ) es st=some (ds,st))(hl:ds.length≤1000)(hd:noLocs ds=true):(runK c (n+2)).ev τ st (.gc (.lst es))=some (.lst ds,st):=by
 refine gc_evL ?_ hd
 show(evs ((runK c n).ev τ) es st).bind _=_
 rw[h]
 simp only[oBs]
 rw[if_neg (by unfold lim; omega)]
 rfl
theorem gc_add{a b:E}{x y:D}{xs ys:List D}(ha:(runK c n).ev τ st a=some (x,st))(hb:(runK c n).ev τ st b=some (y,st))(hx:x=.lst xs)(hy:y=.lst ys)(hl:xs.length+ys.length≤1000000)(hd:noLocs (xs++ys)=true):(runK c (n+2)).ev τ st (.gc (.bin .Add a b))=some (.lst (xs++ys),st):=by
 subst hx hy
 refine gc_evL ?_ hd
 show((runK c n).ev τ st a).bind _=_
 rw[ha]
 simp only[oBs,hb,binop,seqAt]
 rw[if_neg (by unfold lim; omega)]
 rfl
theorem src_lst{i:Nat}{ds:List D}(h:τ[i]?=some (some (.lst ds))):src (runK c (n+1)) τ st (.var i)=some (.lst (.lst ds),st):=by
 simp only[src,ev_k,stepEv,h,oBs,seqAt,oMs]
end
theorem at_lst'{ds:List D}(S:Store)(i:Nat):(Src.lst (.lst ds)).at S i=some ds[i]?:=rfl
theorem size_lst'{ds:List D}(S:Store):(Src.lst (.lst ds)).size S=ds.length:=rfl
noncomputable def cSame(f:Nat):List S:=[
 .ite (.isi (.var 1) [.tup,.lst] true) [.ite (.or (.not (.isi (.var 0) [.tup,.lst] true)) (.cmp .NotEq (.bcall .len [(.var 0)]) (.bcall .len [(.var 1)]))) [.ret (.lit (.bl false))] [],.set (.var 2) (.bcall .all [(.gc (.comp (.var 0) (.rng1 (.bcall .len [(.var 1)])) none (.gc (.call f [(.idx (.var 1) (.var 0)),(.idx (.var 2) (.var 0))])) [none,some 0,some 1]))]),.ret (.and (.var 2) (.cmp .Eq (.isi (.var 0) [.tup] false) (.isi (.var 1) [.tup] false)))] [],
 .set (.var 2) (.cmp .Eq (.isi (.var 0) [.int] false) (.isi (.var 1) [.int] false)),
 .set (.var 2) (.and (.var 2) (.cmp .Eq (.isi (.var 0) [.bl] false) (.isi (.var 1) [.bl] false))),
 .ret (.and (.var 2) (.and (.cmp .Eq (.isi (.var 0) [.str] false) (.isi (.var 1) [.str] false)) (.cmp .Eq (.var 0) (.var 1))))]
noncomputable def fSame(f:Nat):Fn:=⟨2,3,cSame f⟩
inductive Dp:Nat→D→Prop
 |non {k}:Dp k .non
 |bl {k b}:Dp k (.bl b)
 |int {k i}:Dp k (.int i)
 |str {k s}:Dp k (.str s)
 |tup {k ds} (h:∀ d∈ds,Dp k d) (hl:ds.length<100000):Dp (k+1) (.tup ds)
 |lst {k ds} (h:∀ d∈ds,Dp k d) (hl:ds.length<100000):Dp (k+1) (.lst ds)
theorem Dp.noLoc{k:Nat}{d:D}(h:Dp k d):noLoc d=true:=by
 induction h with
 |tup h hl ih=>rw[noLoc_tup]; exact noLocs_of ih
 |lst h hl ih=>rw[noLoc_lst]; exact noLocs_of ih
 |_=>rfl
section
variable {fns:List Fn}{f:Nat}
theorem same_scal(hf:fns[f]?=some (fSame f))(q m:Nat)(st:Store)(d:D)(t:Ty)(ht:∀ S,tyName S d=some t)(h1:tyIs .tup t=false)(h2:tyIs .lst t=false)(hi:Bool)(e1:tyIs .int t=hi)(hb:Bool)(e2:tyIs .bl t=hb)(hs:Bool)(e3:tyIs .str t=hs)(he:∀ S,eqD S d d=some true):callD fns (m+1) f [d,d] st=some (.bl true,st):=by
 refine call_of (q+20) hf rfl rfl ?_
 show exs (stepEx (rn fns m (q+20))) (cSame f) [some d,some d,none] st=_
 unfold cSame
 rw[exs_cons (τ':=[some d,some d,none]) (s':=st) (by
  refine(stepEx_ite_f (st':=st) ?_).trans rfl
  simp only[tst_k,stepTst,ev_k,stepEv,List.getElem?_cons_succ,List.getElem?_cons_zero,oBs,ht,oMs,List.any_cons,List.any_nil,h1,h2,truth,Bool.or_self])]
 rw[exs_cons (τ':=[some d,some d,some (.bl true)]) (s':=st) (by
  simp only[stepEx,ev_k,stepEv,List.getElem?_cons_succ,List.getElem?_cons_zero,oBs,ht,oMs,List.any_cons,List.any_nil,e1,cmpD,Bool.or_false,eqD_bb,beq_self_eq_true]
  rfl)]
 rw[exs_cons (τ':=[some d,some d,some (.bl true)]) (s':=st) (by
  simp only[stepEx,ev_k,stepEv,List.getElem?_cons_succ,List.getElem?_cons_zero,oBs,ht,oMs,List.any_cons,List.any_nil,e2,cmpD,Bool.or_false,eqD_bb,beq_self_eq_true]
  rfl)]
 refine exs_ret ?_
 simp only[stepEx,ev_k,stepEv,List.getElem?_cons_succ,List.getElem?_cons_zero,oBs,ht,oMs,List.any_cons,List.any_nil,e3,cmpD,Bool.or_false,eqD_bb,beq_self_eq_true,he]
theorem same_row(hf:fns[f]?=some (fSame f))(q m:Nat)(st:Store)(d:D)(ds:List D)(k:Bool)(hd:(d=.tup ds∧k=true)∨(d=.lst ds∧k=false))(hl:ds.length<100000)(ih:∀ x∈ds,callD fns m f [x,x] st=some (.bl true,st)):callD fns (m+1) f [d,d] st=some (.bl true,st):=by
 have ty:∀ S,∃ t,tyName S d=some t∧(tyIs .tup t||tyIs .lst t)=true∧tyIs .tup t=k:=fun S=>by
  rcases hd with⟨rfl,rfl⟩|⟨rfl,rfl⟩
  ·exact⟨.tup,rfl,rfl,rfl⟩
  ·exact⟨.lst,rfl,rfl,rfl⟩
 have ln:∀ S,bLen S [d]=some (.int ds.length,S):=fun S=>by
  rcases hd with⟨rfl,rfl⟩|⟨rfl,rfl⟩
  ·rfl
  ·rfl
 have ix:∀ S (i:Nat) x,ds[i]?=some x→idxD S d (.int ((0:Int)+i))=some x:=fun S i x hx=>by
  have hi:=(List.getElem?_eq_some_iff.mp hx).1
  have h1:(0:Int)≤0+i:=by omega
  have h2:(0:Int)+i<ds.length:=by omega
  have h3:((0:Int)+i).toNat=i:=by omega
  rcases hd with⟨rfl,rfl⟩|⟨rfl,rfl⟩
  ·simp only[idxD,atI,ixN,h1,h2,h3,if_true,oBs,hx]
  ·simp only[idxD,seqAt,atI,ixN,h1,h2,h3,if_true,oBs,hx]
 obtain⟨t,t1,t2,t3⟩:=ty st
 have hb:big (ds.length:Int)=false:=by unfold big; simp; omega
 have cm:∀ n:Nat,(rn fns m (n+10)).ev [some d,some d,none] st (.gc (.comp (.var 0) (.rng1 (.bcall .len [(.var 1)])) none (.gc (.call f [(.idx (.var 1) (.var 0)),(.idx (.var 2) (.var 0))])) [none,some 0,some 1]))=some (.lst ((List.range ds.length).map fun _=>.bl true),st):=fun n=>by
  refine gc_comp (n:=n+8) (s:=.rng 0 ds.length) (rest:=[some d,some d]) (List.range ds.length) (fun(i:Nat)=>.int ((0:Int)+i)) (fun _=>.bl true) ?_ (fun i=>at_rng 0 _ i) (by simp[Src.size]) rfl (by simpa using (by omega:ds.length<1000000)) (fun _ _=>rfl) fun i hi=>?_
  ·simp only[src,ev_k,stepEv,evs,List.getElem?_cons_succ,List.getElem?_cons_zero,oBs,bfun,ln,hb,Bool.false_eq_true,if_false]
   rfl
  ·have hi:i<ds.length:=by simpa using hi
   have hx:ds[i]?=some ds[i]:=by simp
   refine gc_ev (n:=n+7) ?_ rfl
   simp only[ev_k,stepEv,evs,List.getElem?_cons_succ,List.getElem?_cons_zero,oBs,ix _ i _ hx,oMs,call_k]
   exact ih _ (List.getElem_mem hi)
 refine call_of (q+20) hf rfl rfl ?_
 show exs (stepEx (rn fns m (q+20))) (cSame f) [some d,some d,none] st=_
 unfold cSame
 refine exs_ret ?_
 refine(stepEx_ite_t (st':=st) ?_).trans ?_
 ·simp only[tst_k,stepTst,ev_k,stepEv,List.getElem?_cons_succ,List.getElem?_cons_zero,oBs,t1,oMs,List.any_cons,List.any_nil,Bool.or_false,t2,truth]
 rw[ex_k]
 rw[exs_cons (τ':=[some d,some d,none]) (s':=st) (by
  refine(stepEx_ite_f (st':=st) ?_).trans rfl
  simp only[tst_k,stepTst,ev_k,stepEv,evs,List.getElem?_cons_succ,List.getElem?_cons_zero,oBs,t1,oMs,List.any_cons,List.any_nil,Bool.or_false,t2,truth,Bool.not_true,Bool.false_eq_true,if_false,bfun,ln,cmpD,neD,eqD_ii,beq_self_eq_true])]
 rw[exs_cons (τ':=[some d,some d,some (.bl true)]) (s':=st) (by
  have al:bAll st [.lst ((List.range ds.length).map fun _=>.bl true)]=some (.bl true,st):=by
   have:∀ n:Nat,asBools ((List.range n).map fun _=>D.bl true)=some (List.replicate n true):=fun n=>by
    rw[List.map_const',List.length_range]
    induction n with
    |zero=>rfl
    |succ n ih=>rw[List.replicate_succ,List.replicate_succ,asBools,ih]; rfl
   simp only[bAll,seqAt,oBs,this,oMs]
   simp
  simp only[stepEx]
  rw[ev_k]
  simp only[stepEv,evs,cm,oBs,bfun,al]
  rfl)]
 refine exs_ret ?_
 simp only[stepEx,ev_k,stepEv,List.getElem?_cons_succ,List.getElem?_cons_zero,oBs,t1,oMs,List.any_cons,List.any_nil,cmpD,Bool.or_false,eqD_bb,beq_self_eq_true]
theorem same_eq(hf:fns[f]?=some (fSame f)){k:Nat}{d:D}(h:Dp k d):∀ (m:Nat) (st:Store),k<m→callD fns m f [d,d] st=some (.bl true,st):=by
 induction h with
 |non=>intro m st hm; obtain⟨m,rfl⟩:∃ j,m=j+1:=⟨m - 1,by omega⟩; exact same_scal hf 0 m st .non .non (fun _=>rfl) rfl rfl _ rfl _ rfl _ rfl fun _=>eqD_nn _
 |@bl _ b=>intro m st hm; obtain⟨m,rfl⟩:∃ j,m=j+1:=⟨m - 1,by omega⟩; exact same_scal hf 0 m st (.bl b) .bl (fun _=>rfl) rfl rfl _ rfl _ rfl _ rfl fun _=>by rw[eqD_bb]; simp
 |@int _ b=>intro m st hm; obtain⟨m,rfl⟩:∃ j,m=j+1:=⟨m - 1,by omega⟩; exact same_scal hf 0 m st (.int b) .int (fun _=>rfl) rfl rfl _ rfl _ rfl _ rfl fun _=>by rw[eqD_ii]; simp
 |@str _ b=>intro m st hm; obtain⟨m,rfl⟩:∃ j,m=j+1:=⟨m - 1,by omega⟩; exact same_scal hf 0 m st (.str b) .str (fun _=>rfl) rfl rfl _ rfl _ rfl _ rfl fun _=>by rw[eqD_ss]; simp
 |@tup k ds h hl ih=>intro m st hm; obtain⟨m,rfl⟩:∃ j,m=j+1:=⟨m - 1,by omega⟩; exact same_row hf 0 m st _ ds true (.inl ⟨rfl,rfl⟩) hl fun x hx=>ih x hx m st (by omega)
 |@lst k ds h hl ih=>intro m st hm; obtain⟨m,rfl⟩:∃ j,m=j+1:=⟨m - 1,by omega⟩; exact same_row hf 0 m st _ ds false (.inr ⟨rfl,rfl⟩) hl fun x hx=>ih x hx m st (by omega)
end
end M
end
section
namespace M
open PySem (Str)
noncomputable def mk(cs:List Nat):Str:=⟨cs.toArray⟩
noncomputable def sgn(c:Nat):D:=.str ⟨#[c]⟩
theorem mk_cps(cs:List Nat):(mk cs).cps.toList=cs:=rfl
theorem mk_len(cs:List Nat):(mk cs).length=cs.length:=by simp[mk,Str.length]
theorem mk_app(a b:List Nat):mk a++mk b=mk (a++b):=by
 show(⟨a.toArray++b.toArray⟩:Str)=⟨(a++b).toArray⟩
 simp
theorem mk_inj{a b:List Nat}(h:mk a=mk b):a=b:=by
 have:=congrArg (fun z:Str=>z.cps.toList) h
 exact this
theorem mk_beq(a b:List Nat):(mk a==mk b)=(a==b):=by
 rw[Bool.eq_iff_iff,beq_iff_eq,beq_iff_eq]
 exact⟨mk_inj,fun h=>by rw[h]⟩
theorem mk_ascii{cs:List Nat}(h:∀ c∈cs,c<128):(mk cs).cps.all (· < 128)=true:=by
 simp only[mk]
 rw[← Array.all_toList]
 simpa using h
theorem oneOf_sgn(c:Nat):oneOf ⟨#[c]⟩=some c:=rfl
theorem asStrs_map:∀ zs:List Str,asStrs (zs.map D.str)=some zs
 |[]=>rfl
 |z::r=>by
  show(asStrs (r.map D.str)).map (z::·)=_
  rw[asStrs_map r]
  rfl
theorem at_str(z:Str)(S:Store)(i:Nat):(Src.str z).at S i=some ((z.cps.toList.map sgn)[i]?):=rfl
theorem at0{α:Type}(a:α)(r:List α):atI (a::r) 0=some a:=by simp[atI,ixN]
noncomputable def natD(n:Nat):List Nat:=(Nat.toDigits 10 n).map Char.toNat
theorem str_nat{i:Int}(h:0≤i):Str.ofString (toString i)=mk (natD i.toNat):=by
 obtain⟨m,rfl⟩:=Int.eq_ofNat_of_zero_le h
 have e:=PySem.W.KIN.signs_num m
 have:∀ a b:Str,a.cps.toList=b.cps.toList→a=b:=fun a b q=>by
  obtain⟨x⟩:=a
  obtain⟨y⟩:=b
  have:x=y:=Array.toList_inj.mp q
  rw[this]
 exact this _ _ e
theorem natD_step{n:Nat}(h:10≤n):natD n=natD (n / 10)++[n % 10+48]:=by
 have hm:n % 10<10:=Nat.mod_lt n (by decide)
 have t:Nat.toDigits 10 (n / 10)++Nat.toDigits 10 (n % 10)=Nat.toDigits 10 (10*(n / 10)+n % 10):=Nat.toDigits_append_toDigits (by decide) (by omega) hm
 rw[Nat.div_add_mod]at t
 unfold natD
 rw[← t,List.map_append,Nat.toDigits_of_lt_base hm]
 congr 1
 have:∀ d:Nat,d<10→(Nat.digitChar d).toNat=d+48:=by decide
 simp[this _ hm]
theorem natD_small{n:Nat}(h:n<10):natD n=[n+48]:=by
 unfold natD
 rw[Nat.toDigits_of_lt_base h]
 have:∀ d:Nat,d<10→(Nat.digitChar d).toNat=d+48:=by decide
 simp[this _ h]
theorem natD_fig(n:Nat):(natD n).all isFig=true:=by
 induction n using Nat.strongRecOn with
 |_ n ih=>
  by_cases h:n<10
  ·rw[natD_small h]
   simp[isFig]
   omega
  ·rw[natD_step (by omega),List.all_append,ih (n / 10) (by omega)]
   have:n % 10<10:=Nat.mod_lt n (by decide)
   simp[isFig]
   omega
theorem natD_lt(n:Nat):∀ c∈natD n,c<128:=fun c hc=>by
 have:=List.all_eq_true.mp (natD_fig n) c hc
 unfold isFig at this
 simp only[Bool.and_eq_true,decide_eq_true_eq]at this
 omega
noncomputable def cFig:List S:=[
 .ret (.and (.cmp .NotEq (.var 0) (.lit (.str ""))) (.bcall .all [(.gc (.comp (.var 0) (.var 0) none (.cmp .In (.var 0) (.glo "FIGURES" (.str "0123456789"))) [none]))]))]
noncomputable def fFig:Fn:=⟨1,1,cFig⟩
noncomputable def cNum(g:Nat):List S:=[
 .ite (.not (.gc (.call g [(.var 0)]))) [.ret (.lit .non)] [],
 .ite (.and (.cmp .Eq (.idx (.var 0) (.lit (.int 0))) (.lit (.str "0"))) (.cmp .NotEq (.var 0) (.lit (.str "0")))) [.ret (.lit .non)] [],
 .ret (.bcall .int [(.var 0)])]
noncomputable def fNum(g:Nat):Fn:=⟨1,1,cNum g⟩
theorem t0:PySem.Str.ofString "0" = mk [48]:=by decide +kernel
theorem te:PySem.Str.ofString "" = mk []:=by decide +kernel
noncomputable def digs:List Nat:=[48,49,50,51,52,53,54,55,56,57]
theorem td:PySem.Str.ofString "0123456789" = mk digs:=by decide +kernel
theorem fig_in(c:Nat):decide (c∈digs)=isFig c:=by
 unfold isFig
 rw[Bool.eq_iff_iff]
 simp only[digs,List.mem_cons,List.not_mem_nil,or_false,decide_eq_true_eq,Bool.and_eq_true]
 omega
noncomputable def numV(cs:List Nat):D:=if cs≠[]∧cs.all isFig=true∧¬ (cs.head?=some 48∧cs≠[48]) then .int (figVal cs:Nat) else .non
theorem figs_ok{fns:List Fn}{g:Nat}(hg:fns[g]?=some fFig)(q m:Nat)(st:Store)(cs:List Nat)(ha:∀ c∈cs,c<128)(hl:cs.length<1000):callD fns (m+1) g [.str (mk cs)] st=some (.bl (!cs.isEmpty&&cs.all isFig),st):=by
 refine call_of (q+20) (F:=fFig) hg rfl rfl ?_
 show exs (stepEx (rn fns m (q+20))) cFig [some (.str (mk cs))] st=_
 unfold cFig
 refine exs_ret ?_
 have e1:∀ n:Nat,(rn fns m (n+6)).ev [some (.str (mk cs))] st (.gc (.comp (.var 0) (.var 0) none (.cmp .In (.var 0) (.glo "FIGURES" (.str "0123456789"))) [none]))=some (.lst (cs.map fun c=>D.bl (isFig c)),st):=fun n=>by
  refine gc_comp (n:=n+4) (s:=.str (mk cs)) (rest:=[]) cs sgn (fun c=>D.bl (isFig c)) ?_ (fun i=>at_str _ _ i) (by simp[Src.size,mk_cps]) rfl (by omega) (fun _ _=>rfl) fun c hc=>?_
  ·simp only[src,ev_k,stepEv,List.getElem?_cons_zero,oBs,mk_ascii ha,if_true]
  ·simp only[ev_k,stepEv,List.getElem?_cons_zero,oBs,cmpD,inD,sgn,oneOf_sgn,oMs,td]
   show some (D.bl (decide (c∈digs)),st)=_
   rw[fig_in]
 have hb:∀ l:List Nat,asBools (l.map fun c=>D.bl (isFig c))=some (l.map isFig):=fun l=>by
  induction l with
  |nil=>rfl
  |cons a r ih=>simp[asBools,ih]
 have al:∀ S,bAll S [.lst (cs.map fun c=>D.bl (isFig c))]=some (.bl (cs.all isFig),S):=fun S=>by
  simp only[bAll,seqAt,oBs,hb,oMs,List.all_map]
  rfl
 have hne:(mk cs==mk [])=cs.isEmpty:=by
  rw[mk_beq]
  cases cs<;>rfl
 cases he:cs.isEmpty with
 |true=>
  simp only[stepEx,ev_k,stepEv,List.getElem?_cons_zero,oBs,te,cmpD,neD,eqD_ss,hne,he,oMs,Bool.not_true,Bool.false_and]
 |false=>
  simp only[stepEx]
  rw[ev_k]
  have e3:∀ n:Nat,(rn fns m (n+3)).ev [some (.str (mk cs))] st (.cmp .NotEq (.var 0) (.lit (.str "")))=some (.bl true,st):=fun n=>by
   simp only[ev_k,stepEv,List.getElem?_cons_zero,oBs,te,cmpD,neD,eqD_ss,hne,he,oMs,Bool.not_false]
  simp only[stepEv,e3,oBs]
  rw[ev_k]
  simp only[stepEv,evs,e1,oBs,bfun,al,oMs,Bool.not_false,Bool.true_and]
theorem number_ok{fns:List Fn}{g f:Nat}(hg:fns[g]?=some fFig)(hf:fns[f]?=some (fNum g))(q m:Nat)(st:Store)(cs:List Nat)(ha:∀ c∈cs,c<128)(hl:cs.length<600):callD fns (m+2) f [.str (mk cs)] st=some (numV cs,st):=by
 have e0:=figs_ok hg 0 m st cs ha (by omega)
 refine call_of (q+20) (F:=fNum g) hf rfl rfl ?_
 show exs (stepEx (rn fns (m+1) (q+20))) (cNum g) [some (.str (mk cs))] st=_
 have t1:∀ n:Nat,(rn fns (m+1) (n+8)).tst [some (.str (mk cs))] st (.not (.gc (.call g [(.var 0)])))=some (!(!cs.isEmpty&&cs.all isFig),st):=fun n=>by
  simp only[tst_k,stepTst,ev_k,stepEv,evs,List.getElem?_cons_zero,oBs,call_k,e0,oMs,gc_bl,truth]
 unfold cNum numV
 by_cases h1:cs≠[]∧cs.all isFig=true
 ·have hb:(!(!cs.isEmpty&&cs.all isFig))=false:=by
   rw[h1.2,Bool.and_true]
   simpa using h1.1
  rw[exs_cons (τ':=[some (.str (mk cs))]) (s':=st) (by refine(stepEx_ite_f (st':=st) ?_).trans rfl; rw[t1,hb])]
  cases cs with
  |nil=>exact absurd rfl h1.1
  |cons c cr=>
   have hli:¬ lim<(mk (c::cr)).length:=by rw[mk_len]; unfold lim; omega
   have hix:∀ S,idxD S (.str (mk (c::cr))) (.int 0)=some (.str (mk [c])):=fun S=>by
    simp only[idxD,hli,if_false,mk_cps,at0]
    rfl
   have hm:(mk [c]==mk [48])=(c==48):=by rw[mk_beq]; simp[Bool.eq_iff_iff]
   have t2:∀ n:Nat,(rn fns (m+1) (n+8)).tst [some (.str (mk (c::cr)))] st (.and (.cmp .Eq (.idx (.var 0) (.lit (.int 0))) (.lit (.str "0"))) (.cmp .NotEq (.var 0) (.lit (.str "0"))))=some ((c==48) && !((c::cr)==[48]),st):=fun n=>by
    simp only[tst_k,stepTst,ev_k,stepEv,List.getElem?_cons_zero,oBs,hix,oMs,cmpD,neD,eqD_ss,t0,hm,mk_beq]
    cases (c==48)<;>rfl
   by_cases h2:(c::cr).head?=some 48∧(c::cr)≠[48]
   ·rw[if_neg (by rintro⟨_,_,h⟩; exact h h2)]
    have hc:c=48:=by simpa using h2.1
    have h3:((c==48) && !((c::cr)==[48]))=true:=by
     rw[Bool.and_eq_true]
     exact⟨by simpa using hc,by rw[Bool.not_eq_true',beq_eq_false_iff_ne]; exact h2.2⟩
    refine exs_ret ((stepEx_ite_t (st':=st) (by rw[t2,h3])).trans ?_)
    rw[ex_k]
    exact exs_ret rfl
   ·rw[if_pos ⟨h1.1,h1.2,h2⟩]
    have hint:∀ S,bInt S [.str (mk (c::cr))]=some (.int (figVal (c::cr):Nat),S):=fun S=>by
     simp only[bInt,mk_cps,mk_len]
     rw[if_pos]
     rw[h1.2]
     simpa using (show cr.length+1≤640 by simp at hl; omega)
    have h3:((c==48) && !((c::cr)==[48]))=false:=by
     cases hx:((c==48) && !((c::cr)==[48])) with
     |false=>rfl
     |true=>
      rw[Bool.and_eq_true]at hx
      exact absurd ⟨by simpa using hx.1,by have:=hx.2; rw[Bool.not_eq_true',beq_eq_false_iff_ne]at this; exact this⟩ h2
    rw[exs_cons (τ':=[some (.str (mk (c::cr)))]) (s':=st) (by refine(stepEx_ite_f (st':=st) ?_).trans rfl; rw[t2,h3])]
    refine exs_ret ?_
    simp only[stepEx,ev_k,stepEv,evs,List.getElem?_cons_zero,oBs,bfun,hint,oMs]
 ·rw[if_neg (fun h=>h1 ⟨h.1,h.2.1⟩)]
  have hb:(!(!cs.isEmpty&&cs.all isFig))=true:=by
   by_cases q:cs=[]
   ·subst q; rfl
   ·have:¬ cs.all isFig=true:=fun z=>h1 ⟨q,z⟩
    simp only[Bool.not_eq_true]at this
    rw[this,Bool.and_false]
    rfl
  refine exs_ret ((stepEx_ite_t (st':=st) (by rw[t1,hb])).trans ?_)
  rw[ex_k]
  exact exs_ret rfl
noncomputable def joinC(c:Nat):List (List Nat)→List Nat
 |[]=>[]
 |[p]=>p
 |p::q::r=>p++c::joinC c (q::r)
theorem join_mk(c:Nat):∀ ps:List (List Nat),Str.join (mk [c]) (ps.map mk)=mk (joinC c ps)
 |[]=>rfl
 |[p]=>rfl
 |p::q::r=>by
  have ih:=join_mk c (q::r)
  show mk p++mk [c]++Str.join (mk [c]) ((q::r).map mk)=_
  rw[ih,mk_app,mk_app]
  show mk (p++[c]++joinC c (q::r))=mk (p++c::joinC c (q::r))
  simp
theorem joinC_mem(c:Nat):∀ (ps:List (List Nat)) (x:Nat),x∈joinC c ps→x=c∨∃ p∈ps,x∈p
 |[],x,h=>by simp[joinC]at h
 |[p],x,h=>.inr ⟨p,List.mem_cons_self,h⟩
 |p::q::r,x,h=>by
  have h:x∈p++c::joinC c (q::r):=h
  rcases List.mem_append.mp h with z|z
  ·exact .inr ⟨p,List.mem_cons_self,z⟩
  ·rcases List.mem_cons.mp z with y|y
   ·exact .inl y
   ·rcases joinC_mem c (q::r) x y with w|⟨p',hp,w⟩
    ·exact .inl w
    ·exact .inr ⟨p',List.mem_cons_of_mem _ hp,w⟩
theorem natD_len:∀ (k n:Nat),n<10 ^ (k+1)→(natD n).length≤k+1
 |0,n,h=>by rw[natD_small (by simpa using h)]; simp
 |k+1,n,h=>by
  by_cases h1:n<10
  ·rw[natD_small h1]; simp
  ·have:n / 10<10 ^ (k+1):=by
    rw[Nat.div_lt_iff_lt_mul (by decide)]
    rw[Nat.pow_succ]at h
    exact h
   have ih:=natD_len k (n / 10) this
   rw[natD_step (by omega),List.length_append,List.length_singleton]
   omega
def Sm(i:Int):Prop:=0≤i∧i<10 ^ 45
theorem Sm.log{i:Int}(h:Sm i):i.natAbs.log2<1920:=by
 obtain⟨h0,h1⟩:=h
 have h2:i.natAbs<10 ^ 45:=by omega
 by_cases hz:i.natAbs=0
 ·rw[hz]; decide
 ·exact(Nat.log2_lt hz).mpr (Nat.lt_of_lt_of_le h2 (Nat.le_trans (show 10 ^ 45≤2 ^ 150 by decide) (Nat.pow_le_pow_right (by decide) (by decide))))
theorem Sm.len{i:Int}(h:Sm i):(natD i.toNat).length≤45:=natD_len 44 i.toNat (by have:=h.1; have:=h.2; omega)
theorem Sm.str{i:Int}(h:Sm i)(S:Store):bStr S [.int i]=some (.str (mk (natD i.toNat)),S):=by
 simp only[bStr]
 rw[if_pos h.log,str_nat h.1]
theorem fig_ne{c n:Nat}(hc:isFig c=false):c ∉ natD n:=fun h=>by
 have:=List.all_eq_true.mp (natD_fig n) c h
 rw[hc]at this
 cases this
theorem join_list{S:Store}{d:D}{c:Nat}{ps:List (List Nat)}(hl:seqAt S d=some (ps.map fun p=>D.str (mk p)))(hb:∀ p∈ps,p.length≤1000)(hn:ps.length≤1000):mJoin S (.str (mk [c])) [d]=some (.str (mk (joinC c ps)),S):=by
 have e1:asStrs (ps.map fun p=>D.str (mk p))=some (ps.map mk):=by
  have:=asStrs_map (ps.map mk)
  rw[List.map_map]at this
  exact this
 simp only[mJoin,hl,e1,oBs,join_mk]
 rw[if_pos]
 have hs:∀ qs:List (List Nat),(∀ p∈qs,p.length≤1000)→(List.map (fun x:Str=>x.length) (qs.map mk)).sum≤qs.length*1000:=fun qs=>by
  induction qs with
  |nil=>simp
  |cons q r ih=>
   intro h
   have h1:=h q List.mem_cons_self
   have h2:=ih fun z hz=>h z (List.mem_cons_of_mem _ hz)
   simp only[List.map_cons,List.sum_cons,List.length_cons,mk_len]
   have:(r.length+1)*1000=r.length*1000+1000:=Nat.succ_mul _ _
   omega
 have:=hs ps hb
 rw[List.length_map,mk_len,List.length_singleton]
 unfold lim
 have:ps.length*1000≤1000*1000:=Nat.mul_le_mul_right _ hn
 omega
end M
end
section
namespace M
open PySem (Str)
noncomputable def tD(p:List Nat):D:=.str (mk p)
noncomputable def iD(k:Nat):D:=.int (k:Int)
def nSm(k:Nat):Prop:=k<10 ^ 45
theorem nSm.sm{k:Nat}(h:nSm k):Sm (k:Int):=⟨by omega,by unfold nSm at h; omega⟩
theorem nSm.str{k:Nat}(h:nSm k)(S:Store):bStr S [iD k]=some (tD (natD k),S):=h.sm.str S
theorem nSm.len{k:Nat}(h:nSm k):(natD k).length≤45:=h.sm.len
theorem xBlank:PySem.Str.ofString " " = mk [32]:=by decide +kernel
theorem eq_tD(a b:List Nat):eqT (tD a) (tD b)=(a==b):=by
 show eqT (.str (mk a)) (.str (mk b))=_
 rw[eqT_ss,mk_beq]
theorem flats_map{α:Type}(g:α→D)(n:Nat)(h:∀ x,flat n (g x)=true):∀ xs:List α,flats n (xs.map g)=true
 |[]=>rfl
 |x::r=>by rw[List.map_cons,flats,h,flats_map g n h r]; rfl
theorem in_tD(S:Store)(w:List Nat)(ws:List (List Nat)):inD S (tD w) (.lst (ws.map tD))=some (ws.any (· == w)):=by
 simp only[inD,seqAt,oBs]
 rw[flats_map tD 9 (fun _=>rfl),show flat 9 (tD w)=true from rfl]
 simp only[Bool.and_self,if_true,List.any_map]
 congr 1
 refine List.any_congr rfl fun x=>?_
 exact eq_tD x w
theorem ix_tD(S:Store)(a b:List (List Nat))(w:List Nat)(h:w ∉ a):mIndex S (.lst ((a++w::b).map tD)) [tD w]=some (.int a.length,S):=by
 simp only[mIndex,seqAt,oBs]
 rw[flats_map tD 9 (fun _=>rfl),show flat 9 (tD w)=true from rfl]
 simp only[Bool.and_self,if_true]
 have:((a++w::b).map tD).findIdx? (fun y=>eqT y (tD w))=some a.length:=by
  rw[List.findIdx?_map]
  have e:((fun y=>eqT y (tD w))∘tD)=fun x=>x==w:=by funext x; exact eq_tD x w
  rw[e,List.findIdx?_eq_some_iff_getElem]
  refine⟨by simp,by simp,fun j hj=>?_⟩
  rw[List.getElem_append_left hj]
  intro z
  rw[beq_iff_eq]at z
  exact h (z▸List.getElem_mem hj)
 rw[this]
 rfl
theorem cutIx_nat(n d v:Nat):cutIx n d (some (v:Int))=min v n:=by
 show(if (v:Int)<0 then((v:Int)+(n:Int)).toNat else min (v:Int).toNat n)=_
 rw[if_neg (by omega)]
 rfl
theorem cut_take{α:Type}(xs:List α)(n:Nat)(h:n≤xs.length):cut xs none (some (n:Int))=xs.take n:=by
 unfold cut
 rw[cutIx_nat,Nat.min_eq_left h]
 rfl
theorem cut_drop{α:Type}(xs:List α)(n:Nat)(h:n≤xs.length):cut xs (some (n:Int)) none=xs.drop n:=by
 unfold cut
 rw[cutIx_nat,Nat.min_eq_left h]
 exact List.take_of_length_le (by rw[List.length_drop]; exact Nat.le_refl _)
theorem cut_mid{α:Type}(xs:List α)(a b:Nat)(h1:a≤b)(h:b≤xs.length):cut xs (some (a:Int)) (some (b:Int))=(xs.drop a).take (b - a):=by
 unfold cut
 rw[cutIx_nat,cutIx_nat,Nat.min_eq_left h,Nat.min_eq_left (Nat.le_trans h1 h)]
theorem gc_sli{c:CF}{n:Nat}{τ:Sl}{st:Store}{a:E}{lo hi:Option E}{xs:List D}{l h:Option Int}(ha:(runK c n).ev τ st a=some (.lst xs,st))(hlo:part (runK c n) τ st lo=some (l,st))(hhi:part (runK c n) τ st hi=some (h,st))(hd:noLocs (cut xs l h)=true):(runK c (n+2)).ev τ st (.gc (.sli a lo hi))=some (.lst (cut xs l h),st):=by
 refine gc_evL ?_ hd
 show((runK c n).ev τ st a).bind _=_
 rw[ha]
 simp only[oBs,hlo,hhi,sliD,seqAt,oMs]
 rfl
theorem nl_tD(ws:List (List Nat)):noLocs (ws.map tD)=true:=noLocs_map fun _ _=>rfl
theorem nl_iD(ws:List Nat):noLocs (ws.map iD)=true:=noLocs_map fun _ _=>rfl
noncomputable def cNums(g:Nat):List S:=[
 .set (.var 1) (.gc (.comp (.var 0) (.var 0) none (.gc (.call g [(.var 0)])) [none])),
 .ite (.cmp .In (.lit .non) (.var 1)) [.rais] [],
 .ret (.var 1)]
noncomputable def fNums(g:Nat):Fn:=⟨1,2,cNums g⟩
theorem eq_ts(S:Store)(a b:List (List Nat)):eqD S (.lst (a.map tD)) (.lst (b.map tD))=some (a==b):=by
 show(if flats 9 (a.map tD)&&flats 9 (b.map tD) then some (eqTs (a.map tD) (b.map tD)) else none)=_
 rw[flats_map tD 9 (fun _=>rfl),flats_map tD 9 (fun _=>rfl)]
 simp only[Bool.and_self,if_true,Option.some.injEq]
 induction a generalizing b with
 |nil=>cases b<;>rfl
 |cons x r ih=>
  cases b with
  |nil=>rfl
  |cons y t=>
   show(eqT (tD x) (tD y)&&eqTs (r.map tD) (t.map tD))=_
   rw[eq_tD,ih t]
   rfl
theorem src_idx{c:CF}{n:Nat}{τ:Sl}{st:Store}{a b:E}{ds:List D}(h:(runK c n).ev τ st (.idx a b)=some (.tup ds,st)):src (runK c n) τ st (.idx a b)=some (.tup ds,st):=by
 show((runK c n).ev τ st (.idx a b)).bind _=_
 rw[h]
 rfl
theorem comp_str{c:CF}{n:Nat}{τ:Sl}{st:Store}{it:E}(ps:List (D×List Nat))(hit:src (runK c (n+4)) τ st it=some (.tup (ps.map Prod.fst),st))(hs:∀ p∈ps,∀ S,bStr S [p.1]=some (tD p.2,S))(hl:ps.length<1000):
  (runK c (n+6)).ev τ st (.gc (.comp (.var 0) it none (.bcall .str [(.var 0)]) [none]))=some (.lst ((ps.map Prod.snd).map tD),st):=by
 have:=gc_comp (n:=n+4) (τ:=τ) (st:=st) (it:=it) (elt:=.bcall .str [(.var 0)]) (sr:=[none]) (rest:=[]) (s:=.tup (ps.map Prod.fst)) ps Prod.fst (fun p=>tD p.2) hit (fun i=>rfl) (by simp[Src.size]) rfl (by omega) (fun _ _=>rfl) (fun p hp=>by
  simp only[ev_k,stepEv,evs,List.getElem?_cons_zero,oBs,bfun,hs p hp])
 rw[this,List.map_map]
 rfl
theorem seq_mid(A r:Store)(w:Bool)(ds:List D):seqAt (A++.lst w ds::r) (.loc A.length)=some ds:=by simp[seqAt,listAt]
theorem wat_mid(A r:Store)(ds:List D):wlistAt (A++.lst true ds::r) A.length=some ds:=by simp[wlistAt]
theorem set_mid(A r:Store)(c c':Cell):(A++c::r).set A.length c'=A++c'::r:=by
 rw[List.set_append_right _ _ (Nat.le_refl _)]; simp
theorem seq_end(A:Store)(w:Bool)(ds:List D):seqAt (A++[.lst w ds]) (.loc A.length)=some ds:=seq_mid A [] w ds
noncomputable def sD(ns:List Int):D:=.lst (ns.map D.int)
theorem drw{fns:List Fn}{g N:Nat}{ns:List Int}(hg:fns[g]?=some fDraw)(hN:1≤N)(hn:ns.length≤63)(st:Store)(k j many:Int)(hj:0≤j)(hj2:j<100000)(hm:0<many):callD fns N g [sD ns,.int k,.int j,.int many] st=some (.int (drawV ns k j many),st):=draw_eq hg hN hn hj hj2 hm
theorem pA(S:Store)(a b:Int):binop S .Add (.int a) (.int b)=some (.int (a+b),S):=rfl
theorem getD_mem{α:Type}(xs:List α)(z:α)(i:Int)(h0:0≤i)(h1:i<xs.length):xs.getD i.toNat z∈xs:=by
 have h2:i.toNat<xs.length:=by omega
 rw[List.getD_eq_getElem?_getD,List.getElem?_eq_getElem h2]
 exact List.getElem_mem h2
theorem ix_lst{α:Type}(g:α→D)(xs:List α)(z:α)(i:Int)(h0:0≤i)(h1:i<xs.length)(S:Store):idxD S (.lst (xs.map g)) (.int i)=some (g (xs.getD i.toNat z)):=by
 have h2:i.toNat<xs.length:=by omega
 simp only[idxD,seqAt,oBs,atI,ixN,h0,if_true,List.length_map,h1,List.getElem?_map]
 rw[List.getD_eq_getElem?_getD,List.getElem?_eq_getElem h2]
 rfl
noncomputable def gSize(ns:List Int)(k j:Int):Int:=[2,10,1000,10 ^ 10].getD (drawV ns k j 4).toNat 2
noncomputable def greatV(ns:List Int)(k j:Int):Int:=if drawV ns k (j+2) 6=0 then drawV ns k (j+1) (gSize ns k j)*10 ^ 30+drawV ns k (j+3) (10 ^ 10) else drawV ns k (j+1) (gSize ns k j)
theorem gSize_ok(ns:List Int)(k j:Int):0<gSize ns k j∧gSize ns k j≤10 ^ 10:=by
 have a0:=drawV_lo ns k j (many:=4) (by omega)
 have a1:=drawV_hi ns k j (many:=4) (by omega)
 have:=getD_mem ([2,10,1000,10 ^ 10]:List Int) 2 (drawV ns k j 4) a0 a1
 unfold gSize
 simp only[List.mem_cons,List.not_mem_nil,or_false]at this
 omega
theorem great_sm(ns:List Int)(k j:Int):Sm (greatV ns k j):=by
 obtain⟨g0,g1⟩:=gSize_ok ns k j
 have a0:=drawV_lo ns k (j+1) g0
 have a1:=drawV_hi ns k (j+1) g0
 have b0:=drawV_lo ns k (j+3) (many:=10 ^ 10) (by omega)
 have b1:=drawV_hi ns k (j+3) (many:=10 ^ 10) (by omega)
 unfold greatV Sm
 split<;>omega
noncomputable def greatN(ns:List Int)(k j:Int):Nat:=(greatV ns k j).toNat
theorem great_n(ns:List Int)(k j:Int):nSm (greatN ns k j)∧D.int (greatV ns k j)=iD (greatN ns k j):=by
 have h:=great_sm ns k j
 refine⟨by unfold nSm greatN; have:=h.1; have:=h.2; omega,?_⟩
 show D.int _=D.int (((greatV ns k j).toNat:Nat):Int)
 rw[Int.toNat_of_nonneg h.1]
noncomputable def cGreat(g:Nat):List S:=[
 .set (.var 3) (.idx (.gc (.lst [(.lit (.int 2)),(.lit (.int 10)),(.lit (.int 1000)),(.bin .Pow (.lit (.int 10)) (.lit (.int 10)))])) (.gc (.call g [(.var 0),(.var 1),(.var 2),(.lit (.int 4))]))),
 .set (.var 4) (.gc (.call g [(.var 0),(.var 1),(.bin .Add (.var 2) (.lit (.int 1))),(.var 3)])),
 .ite (.cmp .Eq (.gc (.call g [(.var 0),(.var 1),(.bin .Add (.var 2) (.lit (.int 2))),(.lit (.int 6))])) (.lit (.int 0))) [.ret (.bin .Add (.bin .Mult (.var 4) (.bin .Pow (.lit (.int 10)) (.lit (.int 30)))) (.gc (.call g [(.var 0),(.var 1),(.bin .Add (.var 2) (.lit (.int 3))),(.bin .Pow (.lit (.int 10)) (.lit (.int 10)))])))] [],
 .ret (.var 4)]
noncomputable def fGreat(g:Nat):Fn:=⟨3,5,cGreat g⟩
theorem great_ok{fns:List Fn}{g f:Nat}(hg:fns[g]?=some fDraw)(hf:fns[f]?=some (fGreat g)){m:Nat}(hm:2≤m)(st:Store)(ns:List Int)(k j:Int)(hn:ns.length≤63)(hj:0≤j)(hj2:j<900):callD fns m f [sD ns,.int k,.int j] st=some (iD (greatN ns k j),st):=by
 rw[← (great_n ns k j).2]
 obtain⟨m,rfl⟩:∃ q,m=q+1:=⟨m - 1,by omega⟩
 have dr:=fun j' many h1 h2 h3=>drw hg (N:=m) (by omega) hn st k j' many h1 h2 h3
 have a0:=drawV_lo ns k j (many:=4) (by omega)
 have a1:=drawV_hi ns k j (many:=4) (by omega)
 obtain⟨g0,g1⟩:=gSize_ok ns k j
 have m0:=drawV_lo ns k (j+1) g0
 have m1:=drawV_hi ns k (j+1) g0
 have p10:∀ S,binop S .Pow (.int 10) (.int 10)=some (.int (10 ^ 10),S):=fun S=>rfl
 have p30:∀ S,binop S .Pow (.int 10) (.int 30)=some (.int (10 ^ 30),S):=fun S=>rfl
 refine call_of (0+30) (F:=fGreat g) hf rfl rfl ?_
 show exs (stepEx (rn fns m (0+30))) (cGreat g) [some (sD ns),some (.int k),some (.int j),none,none] st=_
 unfold cGreat
 rw[exs_cons (τ':=[some (sD ns),some (.int k),some (.int j),some (.int (gSize ns k j)),none]) (s':=st) (by
  have l1:∀ n:Nat,(rn fns m (n+8)).ev [some (sD ns),some (.int k),some (.int j),none,none] st (.gc (.lst [(.lit (.int 2)),(.lit (.int 10)),(.lit (.int 1000)),(.bin .Pow (.lit (.int 10)) (.lit (.int 10)))]))=some (.lst (([2,10,1000,10 ^ 10]:List Int).map D.int),st):=fun n=>by
   refine gc_lit (n:=n+6) ?_ (by simp) (noLocs_map fun _ _=>rfl)
   simp only[evs,ev_k,stepEv,oBs,p10]
   rfl
  have c1:∀ n:Nat,(rn fns m (n+8)).ev [some (sD ns),some (.int k),some (.int j),none,none] st (.gc (.call g [(.var 0),(.var 1),(.var 2),(.lit (.int 4))]))=some (.int (drawV ns k j 4),st):=fun n=>by
   simp only[ev_k,stepEv,evs,List.getElem?_cons_succ,List.getElem?_cons_zero,oBs,call_k,dr j 4 hj (by omega) (by omega),oMs,gc_int]
  simp only[stepEx]
  rw[ev_k]
  simp only[stepEv,l1,c1,oBs,ix_lst D.int ([2,10,1000,10 ^ 10]:List Int) 2 _ a0 a1,oMs]
  rfl)]
 rw[exs_cons (τ':=[some (sD ns),some (.int k),some (.int j),some (.int (gSize ns k j)),some (.int (drawV ns k (j+1) (gSize ns k j)))]) (s':=st) (by
  simp only[stepEx,ev_k,stepEv,evs,List.getElem?_cons_succ,List.getElem?_cons_zero,oBs,pA,call_k,dr (j+1) _ (by omega) (by omega) g0,oMs,gc_int]
  rfl)]
 generalize hM:drawV ns k (j+1) (gSize ns k j)=M at m0 m1
 have t2:∀ n:Nat,(rn fns m (n+8)).tst [some (sD ns),some (.int k),some (.int j),some (.int (gSize ns k j)),some (.int M)] st (.cmp .Eq (.gc (.call g [(.var 0),(.var 1),(.bin .Add (.var 2) (.lit (.int 2))),(.lit (.int 6))])) (.lit (.int 0)))=some ((drawV ns k (j+2) 6==0),st):=fun n=>by
  simp only[tst_k,stepTst,ev_k,stepEv,evs,List.getElem?_cons_succ,List.getElem?_cons_zero,oBs,pA,call_k,dr (j+2) 6 (by omega) (by omega) (by omega),oMs,gc_int,cmpD,eqD_ii]
 unfold greatV
 rw[hM]
 by_cases h:drawV ns k (j+2) 6=0
 ·rw[if_pos h]
  refine exs_ret ((stepEx_ite_t (st':=st) (by rw[t2,h]; rfl)).trans ?_)
  rw[ex_k]
  refine exs_ret ?_
  have p3:∀ S,binop S .Mult (.int M) (.int (10 ^ 30))=some (.int (M*10 ^ 30),S):=fun S=>by
   have mo:=mulOk_l (a:=M) (b:=10 ^ 30) (by omega) (by omega)
   simp only[binop]
   rw[if_pos mo]
  simp only[stepEx,ev_k,stepEv,evs,List.getElem?_cons_succ,List.getElem?_cons_zero,oBs,p30,p10,p3,pA,call_k,dr (j+3) (10 ^ 10) (by omega) (by omega) (by omega),oMs,gc_int]
 ·rw[if_neg h]
  have hb:(drawV ns k (j+2) 6==0)=false:=by simpa using h
  rw[exs_cons (τ':=[some (sD ns),some (.int k),some (.int j),some (.int (gSize ns k j)),some (.int M)]) (s':=st) (by refine(stepEx_ite_f (st':=st) ?_).trans rfl; rw[t2,hb])]
  exact exs_ret rfl
end M
end
section
namespace M
open PySem (Str Operator CmpOp)
inductive XE (fns:List Fn) (d:Nat) (C:Nat→List D→Store→Store→Prop):Sl→Store→E→Store→Prop
 |call {τ st f es ds st1 st'} (n:Nat) (h:evs ((rn fns d n).ev τ) es st=some (ds,st1)) (x:C f ds st1 st'):XE fns d C τ st (.call f es) st'
 |gc {τ st e st'} (x:XE fns d C τ st e st'):XE fns d C τ st (.gc e) st'
 |tuple {τ st e st'} (x:XE fns d C τ st e st'):XE fns d C τ st (.bcall .tuple [e]) st'
 |idx {τ st a b st'} (x:XE fns d C τ st a st'):XE fns d C τ st (.idx a b) st'
 |bin {τ st op a b v st1 st'} (n:Nat) (h:(rn fns d n).ev τ st a=some (v,st1)) (x:XE fns d C τ st1 b st'):XE fns d C τ st (.bin op a b) st'
 |tup {τ st pre e post ds st1 st'} (n:Nat) (h:evs ((rn fns d n).ev τ) pre st=some (ds,st1)) (x:XE fns d C τ st1 e st'):XE fns d C τ st (.tup (pre++e::post)) st'
 |comp {τ st t it elt sr s st' τ1 dd} (n i:Nat) (τs:Nat→Sl) (sts:Nat→Store) (h:src (rn fns d n) τ st it=some (s,sts 0)) (h0:τs 0=inner sr τ) (hi:i<lim)
   (hj:∀ j,j<i→∃ dd v,s.at (sts j) j=some (some dd)∧turnC (rn fns d n) t none elt (τs j) (sts j) dd=some (some v,τs (j+1),sts (j+1))) (ha:s.at (sts i) i=some (some dd)) (ht:setT t dd (τs i)=some τ1)
   (x:XE fns d C τ1 (sts i) elt st'):XE fns d C τ st (.comp t it none elt sr) st'
noncomputable def ncomp:E→Bool
 |.comp _ _ _ _ _=>false
 |.gc e=>ncomp e
 |_=>true
inductive XS (fns:List Fn) (d:Nat) (C:Nat→List D→Store→Store→Prop):Sl→Store→List S→Store→Prop
 |rais {τ st ss}:XS fns d C τ st (.rais::ss) st
 |set {τ st i e ss st'} (hc:ncomp e=true) (x:XE fns d C τ st e st'):XS fns d C τ st (.set (.var i) e::ss) st'
 |ret {τ st e ss st'} (x:XE fns d C τ st e st'):XS fns d C τ st (.ret e::ss) st'
 |iteT {τ st c a b ss st1 st'} (n:Nat) (h:(rn fns d n).tst τ st c=some (true,st1)) (x:XS fns d C τ st1 a st'):XS fns d C τ st (.ite c a b::ss) st'
 |iteF {τ st c a b ss st1 st'} (n:Nat) (h:(rn fns d n).tst τ st c=some (false,st1)) (x:XS fns d C τ st1 b st'):XS fns d C τ st (.ite c a b::ss) st'
 |next {τ st s ss τ1 st1 st'} (n:Nat) (h:stepEx (rn fns d n) τ st s=some (.nx τ1,st1)) (x:XS fns d C τ1 st1 ss st'):XS fns d C τ st (s::ss) st'
noncomputable def XC(fns:List Fn)(ok:Nat→Bool):Nat→Nat→List D→Store→Store→Prop
 |0=>fun _ _ _ _=>False
 |d+1=>fun f ds st st'=>ok f=true∧∃ F,fns[f]?=some F∧ds.length=F.np∧XS fns d (XC fns ok d) (ds.map some++List.replicate (F.nl - ds.length) none) st F.body st'
theorem XC.ok{fns:List Fn}{ok:Nat→Bool}:∀ {d f:Nat}{ds:List D}{st st':Store},XC fns ok d f ds st st'→ok f=true
 |0,_,_,_,_,h=>h.elim
 |_+1,_,_,_,_,h=>h.1
end M
end
section
namespace K34
open M
open PySem (Str)
noncomputable def b_all_figures:List M.S:=[
 .ret (.and (.cmp .NotEq (.var 0) (.lit (.str ""))) (.bcall .all [(.gc (.comp (.var 0) (.var 0) none (.cmp .In (.var 0) (.glo "FIGURES" (.str "0123456789"))) [none]))]))]
noncomputable def f_all_figures:M.Fn:=⟨1,1,b_all_figures⟩
noncomputable def b_number:List M.S:=[
 .ite (.not (.gc (.call 0 [(.var 0)]))) [.ret (.lit .non)] [],
 .ite (.and (.cmp .Eq (.idx (.var 0) (.lit (.int 0))) (.lit (.str "0"))) (.cmp .NotEq (.var 0) (.lit (.str "0")))) [.ret (.lit .non)] [],
 .ret (.bcall .int [(.var 0)])]
noncomputable def f_number:M.Fn:=⟨1,1,b_number⟩
noncomputable def b_read_numbers:List M.S:=[
 .set (.var 1) (.gc (.comp (.var 0) (.var 0) none (.gc (.call 1 [(.var 0)])) [none])),
 .ite (.cmp .In (.lit .non) (.var 1)) [.rais] [],
 .ret (.var 1)]
noncomputable def f_read_numbers:M.Fn:=⟨1,2,b_read_numbers⟩
noncomputable def b_parted_at:List M.S:=[
 .ite (.cmp .NotIn (.var 1) (.var 0)) [.rais] [],
 .set (.var 2) (.meth (.var 0) .index [(.var 1)]),
 .ret (.tup [(.gc (.sli (.var 0) none (some (.var 2)))),(.gc (.sli (.var 0) (some (.bin .Add (.var 2) (.lit (.int 1)))) none))])]
noncomputable def f_parted_at:M.Fn:=⟨2,3,b_parted_at⟩
noncomputable def b_read_other:List M.S:=[
 .ite (.cmp .NotIn (.idx (.var 0) (.lit (.int 1))) (.glo "WORDS" (.tup [(.str "given"),(.str "fallen"),(.str "unvested"),(.str "ground"),(.str "younger")]))) [.rais] [],
 .set (.var 1) (.gc (.call 2 [(.gc (.lst [(.idx (.var 0) (.lit (.int 0))),(.idx (.var 0) (.lit (.int 2)))]))])),
 .ret (.tup [(.idx (.var 1) (.lit (.int 0))),(.idx (.var 0) (.lit (.int 1))),(.idx (.var 1) (.lit (.int 1)))])]
noncomputable def f_read_other:M.Fn:=⟨1,2,b_read_other⟩
noncomputable def b_read_others:List M.S:=[
 .ite (.cmp .NotEq (.bin .Mod (.bcall .len [(.var 0)]) (.glo "THINGS" (.int 3))) (.lit (.int 0))) [.rais] [],
 .ret (.bcall .tuple [(.gc (.comp (.var 0) (.rng3 (.lit (.int 0)) (.bcall .len [(.var 0)]) (.glo "THINGS" (.int 3))) none (.gc (.call 4 [(.gc (.sli (.var 1) (some (.var 0)) (some (.bin .Add (.var 0) (.glo "THINGS" (.int 3))))))])) [none,some 0]))])]
noncomputable def f_read_others:M.Fn:=⟨1,1,b_read_others⟩
noncomputable def b_read_way:List M.S:=[
 .ite (.cmp .Eq (.var 0) (.gc (.lst [(.lit (.str "ground"))]))) [.ret (.tup [(.lit (.str "ground"))])] [],
 .ite (.or (.cmp .NotEq (.gc (.sli (.var 0) none (some (.lit (.int 1))))) (.gc (.lst [(.lit (.str "dip"))]))) (.cmp .NotEq (.bcall .len [(.var 0)]) (.lit (.int 3)))) [.rais] [],
 .ret (.bin .Add (.tup [(.lit (.str "dip"))]) (.bcall .tuple [(.gc (.call 2 [(.gc (.sli (.var 0) (some (.lit (.int 1))) none))]))]))]
noncomputable def f_read_way:M.Fn:=⟨1,1,b_read_way⟩
noncomputable def b_read_held:List M.S:=[
 .set (.var 2) (.gc (.call 3 [(.var 0),(.lit (.str "years"))])),
 .set (.var 3) (.idx (.var 2) (.lit (.int 0))),
 .ite (.or (.cmp .NotEq (.gc (.sli (.var 3) none (some (.lit (.int 1))))) (.gc (.lst [(.lit (.str "held"))]))) (.cmp .Lt (.bcall .len [(.var 3)]) (.lit (.int 2)))) [.rais] [],
 .set (.var 4) (.idx (.gc (.call 2 [(.gc (.sli (.var 3) (some (.lit (.int 1))) (some (.lit (.int 2)))))])) (.lit (.int 0))),
 .ret (.tup [(.lit (.str "held")),(.var 4),(.gc (.call 6 [(.gc (.sli (.var 3) (some (.lit (.int 2))) none))])),(.bcall .tuple [(.gc (.call 2 [(.idx (.var 2) (.lit (.int 1)))]))]),(.var 1)])]
noncomputable def f_read_held:M.Fn:=⟨2,5,b_read_held⟩
noncomputable def b_read_paper:List M.S:=[
 .set (.var 1) (.gc (.call 3 [(.gc (.meth (.var 0) .split [(.lit (.str " "))])),(.lit (.str "others"))])),
 .set (.var 2) (.gc (.call 5 [(.idx (.var 1) (.lit (.int 1)))])),
 .ite (.cmp .Eq (.idx (.var 1) (.lit (.int 0))) (.gc (.lst [(.lit (.str "open"))]))) [.ret (.tup [(.lit (.str "open")),(.var 2)])] [],
 .ret (.call 7 [(.idx (.var 1) (.lit (.int 0))),(.var 2)])]
noncomputable def f_read_paper:M.Fn:=⟨1,3,b_read_paper⟩
noncomputable def b_law_draw:List M.S:=[
 .set (.var 4) (.lit (.int 0)),
 .set (.var 5) (.lit (.int 1)),
 .ite (.cmp .Gt (.bcall .len [(.var 0)]) (.lit (.int 0))) [.set (.var 4) (.idx (.var 0) (.bin .Mod (.var 1) (.bcall .len [(.var 0)]))),.set (.var 5) (.bin .FloorDiv (.var 1) (.bcall .len [(.var 0)]))] [],
 .set (.var 6) (.var 4),
 .forr (.var 7) (.rng1 (.var 2)) [.set (.var 6) (.bin .FloorDiv (.var 6) (.bin .Pow (.lit (.int 10)) (.lit (.int 10))))],
 .ite (.and (.cmp .Eq (.var 5) (.lit (.int 0))) (.and (.cmp .GtE (.var 4) (.bin .Pow (.lit (.int 10)) (.lit (.int 18)))) (.cmp .Gt (.var 6) (.lit (.int 0))))) [.ret (.bin .Mod (.bin .Mod (.var 6) (.bin .Pow (.lit (.int 10)) (.lit (.int 10)))) (.var 3))] [],
 .set (.var 8) (.bin .Mod (.bin .Add (.bin .Add (.bin .Add (.bin .Mult (.var 4) (.lit (.int 7919))) (.bin .Mult (.var 1) (.lit (.int 104729)))) (.bin .Mult (.var 2) (.lit (.int 1299709)))) (.lit (.int 31))) (.lit (.int 1000000007))),
 .set (.var 9) (.bin .Mod (.bin .Add (.bin .Mult (.var 8) (.lit (.int 48271))) (.bin .FloorDiv (.var 4) (.lit (.int 1009)))) (.lit (.int 998244353))),
 .set (.var 9) (.bin .Mod (.bin .Add (.bin .Mult (.var 9) (.bin .Add (.bin .Mod (.var 8) (.lit (.int 9973))) (.lit (.int 1)))) (.var 2)) (.lit (.int 1000000009))),
 .ret (.bin .Mod (.bin .Mod (.bin .Add (.bin .Add (.bin .Mult (.var 8) (.lit (.int 69621))) (.bin .Mult (.var 9) (.lit (.int 40692)))) (.bin .FloorDiv (.var 9) (.lit (.int 1013)))) (.lit (.int 2147483647))) (.var 3))]
noncomputable def f_law_draw:M.Fn:=⟨4,10,b_law_draw⟩
noncomputable def b_law_same:List M.S:=[
 .ite (.isi (.var 1) [.tup,.lst] true) [.ite (.or (.not (.isi (.var 0) [.tup,.lst] true)) (.cmp .NotEq (.bcall .len [(.var 0)]) (.bcall .len [(.var 1)]))) [.ret (.lit (.bl false))] [],.set (.var 2) (.bcall .all [(.gc (.comp (.var 0) (.rng1 (.bcall .len [(.var 1)])) none (.gc (.call 10 [(.idx (.var 1) (.var 0)),(.idx (.var 2) (.var 0))])) [none,some 0,some 1]))]),.ret (.and (.var 2) (.cmp .Eq (.isi (.var 0) [.tup] false) (.isi (.var 1) [.tup] false)))] [],
 .set (.var 2) (.cmp .Eq (.isi (.var 0) [.int] false) (.isi (.var 1) [.int] false)),
 .set (.var 2) (.and (.var 2) (.cmp .Eq (.isi (.var 0) [.bl] false) (.isi (.var 1) [.bl] false))),
 .ret (.and (.var 2) (.and (.cmp .Eq (.isi (.var 0) [.str] false) (.isi (.var 1) [.str] false)) (.cmp .Eq (.var 0) (.var 1))))]
noncomputable def f_law_same:M.Fn:=⟨2,3,b_law_same⟩
noncomputable def b_law_number:List M.S:=[
 .ite (.or (.cmp .Eq (.var 0) (.lit (.str ""))) (.and (.cmp .Gt (.bcall .len [(.var 0)]) (.lit (.int 1))) (.cmp .Eq (.idx (.var 0) (.lit (.int 0))) (.lit (.str "0"))))) [.ret (.lit .non)] [],
 .set (.var 1) (.lit (.int 0)),
 .forr (.var 2) (.var 0) [.set (.var 3) (.meth (.lit (.str "0123456789")) .find [(.var 2)]),.ite (.cmp .Lt (.var 3) (.lit (.int 0))) [.ret (.lit .non)] [],.set (.var 1) (.bin .Add (.bin .Mult (.var 1) (.lit (.int 10))) (.var 3))],
 .ret (.var 1)]
noncomputable def f_law_number:M.Fn:=⟨1,4,b_law_number⟩
noncomputable def b_law_numbers:List M.S:=[
 .set (.var 1) (.gc (.comp (.var 0) (.var 0) none (.gc (.call 11 [(.var 0)])) [none])),
 .ite (.bcall .any [(.gc (.comp (.var 0) (.var 1) none (.cmp .Is (.var 0) (.lit .non)) [none]))]) [.ret (.lit .non)] [],
 .ret (.var 1)]
noncomputable def f_law_numbers:M.Fn:=⟨1,2,b_law_numbers⟩
noncomputable def b_law_great:List M.S:=[
 .set (.var 3) (.idx (.gc (.lst [(.lit (.int 2)),(.lit (.int 10)),(.lit (.int 1000)),(.bin .Pow (.lit (.int 10)) (.lit (.int 10)))])) (.gc (.call 9 [(.var 0),(.var 1),(.var 2),(.lit (.int 4))]))),
 .set (.var 4) (.gc (.call 9 [(.var 0),(.var 1),(.bin .Add (.var 2) (.lit (.int 1))),(.var 3)])),
 .ite (.cmp .Eq (.gc (.call 9 [(.var 0),(.var 1),(.bin .Add (.var 2) (.lit (.int 2))),(.lit (.int 6))])) (.lit (.int 0))) [.ret (.bin .Add (.bin .Mult (.var 4) (.bin .Pow (.lit (.int 10)) (.lit (.int 30)))) (.gc (.call 9 [(.var 0),(.var 1),(.bin .Add (.var 2) (.lit (.int 3))),(.bin .Pow (.lit (.int 10)) (.lit (.int 10)))])))] [],
 .ret (.var 4)]
noncomputable def f_law_great:M.Fn:=⟨3,5,b_law_great⟩
noncomputable def b_law_bent:List M.S:=[
 .set (.var 4) (.gc (.call 9 [(.var 0),(.var 1),(.var 2),(.bin .Add (.bcall .len [(.var 3)]) (.lit (.int 1)))])),
 .set (.var 5) (.lit (.str " 0123456789,-+._~aehijknoprstuvwxyz\nA")),
 .set (.var 6) (.idx (.var 5) (.gc (.call 9 [(.var 0),(.var 1),(.bin .Add (.var 2) (.lit (.int 1))),(.bcall .len [(.var 5)])]))),
 .set (.var 7) (.gc (.call 9 [(.var 0),(.var 1),(.bin .Add (.var 2) (.lit (.int 2))),(.lit (.int 6))])),
 .ite (.cmp .Eq (.var 7) (.lit (.int 0))) [.ret (.bin .Add (.gc (.bin .Add (.gc (.sli (.var 3) none (some (.var 4)))) (.var 6))) (.gc (.sli (.var 3) (some (.var 4)) none)))] [],
 .ite (.cmp .Eq (.var 7) (.lit (.int 1))) [.ret (.bin .Add (.gc (.sli (.var 3) none (some (.var 4)))) (.gc (.sli (.var 3) (some (.bin .Add (.var 4) (.lit (.int 1)))) none)))] [],
 .ite (.cmp .Eq (.var 7) (.lit (.int 2))) [.ret (.bin .Add (.gc (.bin .Add (.gc (.sli (.var 3) none (some (.var 4)))) (.var 6))) (.gc (.sli (.var 3) (some (.bin .Add (.var 4) (.lit (.int 1)))) none)))] [],
 .ite (.cmp .Eq (.var 7) (.lit (.int 3))) [.ret (.sli (.var 3) none (some (.var 4)))] [],
 .ite (.cmp .Eq (.var 7) (.lit (.int 4))) [.ret (.sli (.var 3) (some (.var 4)) none)] [],
 .ret (.bin .Add (.var 3) (.idx (.gc (.lst [(.lit (.str " ")),(.lit (.str "\n")),(.lit (.str " 0")),(.lit (.str "0")),(.lit (.str ",1"))])) (.gc (.call 9 [(.var 0),(.var 1),(.bin .Add (.var 2) (.lit (.int 3))),(.lit (.int 5))]))))]
noncomputable def f_law_bent:M.Fn:=⟨4,8,b_law_bent⟩
noncomputable def b_law_flat_paper:List M.S:=[
 .set (.var 1) (.lst [(.idx (.var 0) (.lit (.int 0)))]),
 .ite (.cmp .Eq (.idx (.var 0) (.lit (.int 0))) (.lit (.str "held"))) [.set (.var 1) (.bin .Add (.gc (.bin .Add (.var 1) (.gc (.lst [(.bcall .str [(.idx (.var 0) (.lit (.int 1)))])])))) (.gc (.comp (.var 0) (.idx (.var 0) (.lit (.int 2))) none (.bcall .str [(.var 0)]) [none]))),.set (.var 1) (.bin .Add (.gc (.bin .Add (.var 1) (.gc (.lst [(.lit (.str "years"))])))) (.gc (.comp (.var 0) (.idx (.var 0) (.lit (.int 3))) none (.bcall .str [(.var 0)]) [none])))] [],
 .expr (.meth (.var 1) .append [(.lit (.str "others"))]),
 .forr (.tup [2,3,4]) (.idx (.var 0) (.neg (.lit (.int 1)))) [.set (.var 1) (.bin .Add (.var 1) (.gc (.lst [(.bcall .str [(.var 2)]),(.var 3),(.bcall .str [(.var 4)])])))],
 .ret (.meth (.lit (.str " ")) .join [(.var 1)])]
noncomputable def f_law_flat_paper:M.Fn:=⟨1,5,b_law_flat_paper⟩
noncomputable def b_law_loose_paper:List M.S:=[
 .set (.var 2) (.lst []),
 .forr (.var 3) (.rng1 (.gc (.call 9 [(.var 0),(.var 1),(.lit (.int 0)),(.lit (.int 6))]))) [.set (.var 4) (.idx (.gc (.lst [(.lit (.str "given")),(.lit (.str "fallen")),(.lit (.str "unvested")),(.lit (.str "ground")),(.lit (.str "younger"))])) (.gc (.call 9 [(.var 0),(.bin .Add (.var 1) (.var 3)),(.lit (.int 1)),(.lit (.int 5))]))),.expr (.meth (.var 2) .append [(.tup [(.gc (.call 13 [(.var 0),(.bin .Add (.var 1) (.var 3)),(.lit (.int 2))])),(.var 4),(.gc (.call 13 [(.var 0),(.bin .Add (.var 1) (.var 3)),(.lit (.int 6))]))])])],
 .ite (.cmp .Eq (.gc (.call 9 [(.var 0),(.var 1),(.lit (.int 10)),(.lit (.int 3))])) (.lit (.int 0))) [.ret (.tup [(.lit (.str "open")),(.bcall .tuple [(.var 2)])])] [],
 .set (.var 5) (.tup [(.lit (.str "ground"))]),
 .ite (.cmp .Gt (.gc (.call 9 [(.var 0),(.var 1),(.lit (.int 11)),(.lit (.int 3))])) (.lit (.int 0))) [.set (.var 5) (.tup [(.lit (.str "dip")),(.gc (.call 13 [(.var 0),(.var 1),(.lit (.int 12))])),(.gc (.call 13 [(.var 0),(.var 1),(.lit (.int 16))]))])] [],
 .set (.var 6) (.gc (.comp (.var 0) (.rng1 (.gc (.call 9 [(.var 0),(.var 1),(.lit (.int 24)),(.lit (.int 7))]))) none (.gc (.call 13 [(.var 1),(.bin .Add (.var 2) (.var 0)),(.lit (.int 20))])) [none,some 0,some 1])),
 .ret (.tup [(.lit (.str "held")),(.gc (.call 13 [(.var 0),(.var 1),(.lit (.int 25))])),(.var 5),(.bcall .tuple [(.var 6)]),(.bcall .tuple [(.var 2)])])]
noncomputable def f_law_loose_paper:M.Fn:=⟨2,7,b_law_loose_paper⟩
noncomputable def b_law_part_of:List M.S:=[
 .forr (.var 2) (.rng1 (.bcall .len [(.var 0)])) [.ite (.cmp .Eq (.idx (.var 0) (.var 2)) (.var 1)) [.ret (.tup [(.gc (.sli (.var 0) none (some (.var 2)))),(.gc (.sli (.var 0) (some (.bin .Add (.var 2) (.lit (.int 1)))) none))])] []],
 .ret (.tup [(.var 0),(.lit .non)])]
noncomputable def f_law_part_of:M.Fn:=⟨2,3,b_law_part_of⟩
noncomputable def b_law_read_others:List M.S:=[
 .set (.var 1) (.lst []),
 .ite (.or (.cmp .Is (.var 0) (.lit .non)) (.cmp .NotEq (.bin .Mult (.bin .FloorDiv (.bcall .len [(.var 0)]) (.lit (.int 3))) (.lit (.int 3))) (.bcall .len [(.var 0)]))) [.ret (.lit .non)] [],
 .forr (.var 2) (.rng3 (.lit (.int 0)) (.bcall .len [(.var 0)]) (.lit (.int 3))) [.set (.var 3) (.gc (.call 12 [(.gc (.lst [(.idx (.var 0) (.var 2)),(.idx (.var 0) (.bin .Add (.var 2) (.lit (.int 2))))]))])),.ite (.or (.cmp .Is (.var 3) (.lit .non)) (.cmp .NotIn (.idx (.var 0) (.bin .Add (.var 2) (.lit (.int 1)))) (.tup [(.lit (.str "given")),(.lit (.str "fallen")),(.lit (.str "unvested")),(.lit (.str "ground")),(.lit (.str "younger"))]))) [.ret (.lit .non)] [],.expr (.meth (.var 1) .append [(.tup [(.idx (.var 3) (.lit (.int 0))),(.idx (.var 0) (.bin .Add (.var 2) (.lit (.int 1)))),(.idx (.var 3) (.lit (.int 1)))])])],
 .ret (.bcall .tuple [(.var 1)])]
noncomputable def f_law_read_others:M.Fn:=⟨1,4,b_law_read_others⟩
noncomputable def b_law_read_paper:List M.S:=[
 .set (.tup [1,2]) (.gc (.call 17 [(.gc (.meth (.var 0) .split [(.lit (.str " "))])),(.lit (.str "others"))])),
 .set (.var 3) (.gc (.call 18 [(.var 2)])),
 .ite (.or (.cmp .Is (.var 3) (.lit .non)) (.cmp .Eq (.var 1) (.gc (.lst [(.lit (.str "open"))])))) [.ret (.idx (.gc (.lst [(.tup [(.lit (.str "open")),(.var 3)]),(.lit .non)])) (.bcall .int [(.cmp .Is (.var 3) (.lit .non))]))] [],
 .set (.tup [4,5]) (.gc (.call 17 [(.var 1),(.lit (.str "years"))])),
 .ite (.or (.cmp .Is (.var 5) (.lit .non)) (.or (.cmp .NotEq (.gc (.sli (.var 4) none (some (.lit (.int 1))))) (.gc (.lst [(.lit (.str "held"))]))) (.cmp .NotIn (.bcall .len [(.var 4)]) (.tup [(.lit (.int 3)),(.lit (.int 5))])))) [.ret (.lit .non)] [],
 .ite (.cmp .NotEq (.idx (.var 4) (.lit (.int 2))) (.idx (.gc (.lst [(.lit (.str "ground")),(.lit (.str "dip"))])) (.bin .Sub (.bin .FloorDiv (.bcall .len [(.var 4)]) (.lit (.int 2))) (.lit (.int 1))))) [.ret (.lit .non)] [],
 .set (.var 6) (.gc (.call 12 [(.gc (.bin .Add (.gc (.sli (.var 4) (some (.lit (.int 1))) (some (.lit (.int 2))))) (.gc (.sli (.var 4) (some (.lit (.int 3))) none))))])),
 .set (.var 7) (.gc (.call 12 [(.var 5)])),
 .ite (.or (.cmp .Is (.var 6) (.lit .non)) (.cmp .Is (.var 7) (.lit .non))) [.ret (.lit .non)] [],
 .ret (.tup [(.lit (.str "held")),(.idx (.var 6) (.lit (.int 0))),(.bin .Add (.tup [(.idx (.var 4) (.lit (.int 2)))]) (.bcall .tuple [(.gc (.sli (.var 6) (some (.lit (.int 1))) none))])),(.bcall .tuple [(.var 7)]),(.var 3)])]
noncomputable def f_law_read_paper:M.Fn:=⟨1,8,b_law_read_paper⟩
noncomputable def b_law_told:List M.S:=[
 .ite (.and (.isi (.var 0) [.str] false) (.cmp .LtE (.bcall .len [(.var 0)]) (.lit (.int 590)))) [] [.brk],
 .forr (.var 1) (.var 0) [],
 .expr (.gc (.call 24 [(.var 0)])),
 .ret (.gc (.call 19 [(.var 0)]))]
noncomputable def f_law_told:M.Fn:=⟨1,2,b_law_told⟩
noncomputable def b_law_words_bent:List M.S:=[
 .set (.var 3) (.gc (.meth (.var 2) .split [(.lit (.str " "))])),
 .set (.var 4) (.gc (.lst [(.lit (.str "others")),(.lit (.str "years")),(.lit (.str "dip")),(.lit (.str "ground")),(.lit (.str "held")),(.lit (.str "open")),(.lit (.str "7"))])),
 .set (.var 4) (.gc (.bin .Add (.var 4) (.gc (.lst [(.lit (.str "0")),(.lit (.str "")),(.lit (.str "07")),(.lit (.str "younger")),(.lit (.str "stands")),(.lit (.str "-1")),(.lit (.str "fallen"))])))),
 .set (.var 5) (.gc (.call 9 [(.var 0),(.var 1),(.lit (.int 30)),(.bcall .len [(.var 3)])])),
 .set (.var 6) (.gc (.call 9 [(.var 0),(.var 1),(.lit (.int 31)),(.lit (.int 5))])),
 .ite (.cmp .Eq (.var 6) (.lit (.int 0))) [.set (.var 3) (.gc (.bin .Add (.gc (.sli (.var 3) none (some (.var 5)))) (.gc (.sli (.var 3) (some (.bin .Add (.var 5) (.lit (.int 1)))) none))))] [],
 .ite (.cmp .Eq (.var 6) (.lit (.int 1))) [.set (.var 3) (.gc (.bin .Add (.gc (.bin .Add (.gc (.sli (.var 3) none (some (.var 5)))) (.gc (.sli (.var 3) (some (.var 5)) (some (.bin .Add (.var 5) (.lit (.int 1)))))))) (.gc (.sli (.var 3) (some (.var 5)) none))))] [],
 .ite (.cmp .Eq (.var 6) (.lit (.int 2))) [.set (.var 3) (.gc (.bin .Add (.gc (.bin .Add (.gc (.sli (.var 3) none (some (.var 5)))) (.gc (.rev (.gc (.sli (.var 3) (some (.var 5)) (some (.bin .Add (.var 5) (.lit (.int 2)))))))))) (.gc (.sli (.var 3) (some (.bin .Add (.var 5) (.lit (.int 2)))) none))))] [],
 .ite (.cmp .Eq (.var 6) (.lit (.int 3))) [.set (.var 3) (.gc (.bin .Add (.gc (.bin .Add (.gc (.sli (.var 3) none (some (.var 5)))) (.gc (.lst [(.idx (.var 4) (.gc (.call 9 [(.var 0),(.var 1),(.lit (.int 32)),(.lit (.int 14))])))])))) (.gc (.sli (.var 3) (some (.var 5)) none))))] [],
 .ite (.cmp .Eq (.var 6) (.lit (.int 4))) [.set (.var 3) (.gc (.bin .Add (.gc (.bin .Add (.gc (.sli (.var 3) none (some (.var 5)))) (.gc (.lst [(.idx (.var 4) (.gc (.call 9 [(.var 0),(.var 1),(.lit (.int 32)),(.lit (.int 14))])))])))) (.gc (.sli (.var 3) (some (.bin .Add (.var 5) (.lit (.int 1)))) none))))] [],
 .ret (.meth (.lit (.str " ")) .join [(.var 3)])]
noncomputable def f_law_words_bent:M.Fn:=⟨3,7,b_law_words_bent⟩
noncomputable def b_law_small:List M.S:=[
 .set (.var 1) (.bcall .tuple [(.gc (.comp (.tup [0,1,2]) (.idx (.var 0) (.neg (.lit (.int 1)))) none (.tup [(.bin .Mod (.var 0) (.lit (.int 1000))),(.var 1),(.bin .Mod (.var 2) (.lit (.int 1000)))]) [none,none,none]))]),
 .ite (.cmp .Eq (.idx (.var 0) (.lit (.int 0))) (.lit (.str "open"))) [.ret (.tup [(.lit (.str "open")),(.var 1)])] [],
 .set (.var 2) (.gc (.bin .Add (.gc (.sli (.idx (.var 0) (.lit (.int 2))) none (some (.lit (.int 1))))) (.bcall .tuple [(.gc (.comp (.var 0) (.gc (.sli (.idx (.var 0) (.lit (.int 2))) (some (.lit (.int 1))) none)) none (.bin .Mod (.var 0) (.lit (.int 1000))) [none]))]))),
 .ret (.tup [(.lit (.str "held")),(.bin .Mod (.idx (.var 0) (.lit (.int 1))) (.lit (.int 1000))),(.var 2),(.bcall .tuple [(.gc (.comp (.var 0) (.idx (.var 0) (.lit (.int 3))) none (.bin .Mod (.var 0) (.lit (.int 1000))) [none]))]),(.var 1)])]
noncomputable def f_law_small:M.Fn:=⟨1,3,b_law_small⟩
noncomputable def b_law:List M.S:=[
 .set (.var 1) (.gc (.call 15 [(.gc (.call 22 [(.gc (.call 16 [(.var 0),(.lit (.int 1))]))]))])),
 .set (.var 2) (.gc (.lst [(.lit (.str "")),(.lit (.str " ")),(.lit (.str "open")),(.lit (.str "open others ")),(.lit (.str "held")),(.lit (.str "held 5")),(.lit (.str "held 5 ground")),(.lit (.str "held 5 ground years"))])),
 .set (.var 2) (.gc (.bin .Add (.var 2) (.gc (.lst [(.lit (.str "held 5 dip 2 0 years others")),(.lit (.str "held 5 ground years others 1 ground")),(.lit (.str "open years others"))])))),
 .set (.var 2) (.gc (.bin .Add (.var 2) (.gc (.lst [(.lit (.str "held 5 dip 2 years others")),(.lit (.str "held 5 dip years others")),(.lit (.str "held 5 ground 2 0 years 5 others"))])))),
 .set (.var 2) (.gc (.bin .Add (.var 2) (.gc (.lst [(.lit (.str "open others\n")),(.lit (.str "held 5 ground others years")),(.lit (.str "held 5 ground years 5 years others"))])))),
 .ite (.cmp .Eq (.gc (.call 9 [(.var 0),(.lit (.int 0)),(.lit (.int 0)),(.lit (.int 9))])) (.lit (.int 0))) [.set (.var 1) (.idx (.var 2) (.gc (.call 9 [(.var 0),(.lit (.int 0)),(.lit (.int 1)),(.bcall .len [(.var 2)])])))] [],
 .forr (.var 3) (.rng1 (.idx (.gc (.lst [(.lit (.int 0)),(.lit (.int 1)),(.lit (.int 1)),(.lit (.int 1)),(.lit (.int 2))])) (.gc (.call 9 [(.var 0),(.lit (.int 0)),(.lit (.int 2)),(.lit (.int 5))])))) [.ite (.cmp .Eq (.gc (.call 9 [(.var 0),(.bin .Add (.lit (.int 10)) (.var 3)),(.lit (.int 3)),(.lit (.int 2))])) (.lit (.int 0))) [.set (.var 1) (.gc (.call 21 [(.var 0),(.bin .Add (.lit (.int 10)) (.var 3)),(.var 1)]))] [.set (.var 1) (.gc (.call 14 [(.var 0),(.bin .Add (.lit (.int 10)) (.var 3)),(.lit (.int 4)),(.var 1)]))]],
 .ret (.call 10 [(.gc (.call 20 [(.var 1)])),(.gc (.call 19 [(.var 1)]))])]
noncomputable def f_law:M.Fn:=⟨1,4,b_law⟩
noncomputable def f_ch0:M.Fn:=⟨1,1,[.ret (.gc (.call 25 [(.var 0)]))]⟩
noncomputable def f_ch1:M.Fn:=⟨1,1,[.ret (.gc (.call 26 [(.var 0)]))]⟩
noncomputable def f_ch2:M.Fn:=⟨1,1,[.ret (.gc (.call 27 [(.var 0)]))]⟩
noncomputable def f_ch3:M.Fn:=⟨1,1,[.ret (.gc (.call 28 [(.var 0)]))]⟩
noncomputable def f_ch4:M.Fn:=⟨1,1,[.ret (.gc (.call 29 [(.var 0)]))]⟩
noncomputable def f_ch5:M.Fn:=⟨1,1,[.ret (.gc (.call 30 [(.var 0)]))]⟩
noncomputable def f_ch6:M.Fn:=⟨1,1,[.ret (.gc (.call 31 [(.var 0)]))]⟩
noncomputable def f_ch7:M.Fn:=⟨1,1,[.ret (.var 0)]⟩
noncomputable def fns:List M.Fn:=[f_all_figures,f_number,f_read_numbers,f_parted_at,f_read_other,f_read_others,f_read_way,f_read_held,f_read_paper,f_law_draw,f_law_same,f_law_number,f_law_numbers,f_law_great,f_law_bent,f_law_flat_paper,f_law_loose_paper,f_law_part_of,f_law_read_others,f_law_read_paper,f_law_told,f_law_words_bent,f_law_small,f_law,f_ch0,f_ch1,f_ch2,f_ch3,f_ch4,f_ch5,f_ch6,f_ch7]
theorem hFig:fns[0]?=some fFig:=rfl
theorem hNum:fns[1]?=some (fNum 0):=rfl
theorem hNums:fns[2]?=some (fNums 1):=rfl
theorem hDraw:fns[9]?=some fDraw:=rfl
theorem hSame:fns[10]?=some (fSame 10):=rfl
theorem hGreat:fns[13]?=some (fGreat 9):=rfl
noncomputable def wOpen:List Nat:=[111,112,101,110]
noncomputable def wHeld:List Nat:=[104,101,108,100]
noncomputable def wGround:List Nat:=[103,114,111,117,110,100]
noncomputable def wDip:List Nat:=[100,105,112]
noncomputable def wYears:List Nat:=[121,101,97,114,115]
noncomputable def wOthers:List Nat:=[111,116,104,101,114,115]
noncomputable def wGiven:List Nat:=[103,105,118,101,110]
noncomputable def wFallen:List Nat:=[102,97,108,108,101,110]
noncomputable def wUnvested:List Nat:=[117,110,118,101,115,116,101,100]
noncomputable def wYounger:List Nat:=[121,111,117,110,103,101,114]
theorem xOpen:PySem.Str.ofString "open" = mk wOpen:=by decide +kernel
theorem xHeld:PySem.Str.ofString "held" = mk wHeld:=by decide +kernel
theorem xGround:PySem.Str.ofString "ground" = mk wGround:=by decide +kernel
theorem xDip:PySem.Str.ofString "dip" = mk wDip:=by decide +kernel
theorem xYears:PySem.Str.ofString "years" = mk wYears:=by decide +kernel
theorem xOthers:PySem.Str.ofString "others" = mk wOthers:=by decide +kernel
theorem xGiven:PySem.Str.ofString "given" = mk wGiven:=by decide +kernel
theorem xFallen:PySem.Str.ofString "fallen" = mk wFallen:=by decide +kernel
theorem xUnvested:PySem.Str.ofString "unvested" = mk wUnvested:=by decide +kernel
theorem xYounger:PySem.Str.ofString "younger" = mk wYounger:=by decide +kernel
noncomputable def wordsO:List (List Nat):=[wGiven,wFallen,wUnvested,wGround,wYounger]
noncomputable def okF(f:Nat):Bool:=f != 20
abbrev Xc:=XC fns okF
theorem xc_of{f d:Nat}{F:Fn}{ds:List D}{τ:Sl}{st st':Store}(ho:okF f=true)(hf:fns[f]?=some F)(hl:ds.length=F.np)(hτ:ds.map some++List.replicate (F.nl - ds.length) none=τ)(h:XS fns d (Xc d) τ st F.body st'):Xc (d+1) f ds st st':=⟨ho,F,hf,hl,by rw[hτ]; exact h⟩
def wOk(w:List Nat):Prop:=(∀ c∈w,c<128)∧w.length<600
noncomputable def nOk(w:List Nat):Bool:=!w.isEmpty&&w.all isFig && !(w.head?==some 48 && !(w==[48]))
theorem numV_y{w:List Nat}(h:nOk w=true):numV w=.int (figVal w:Nat):=by
 unfold nOk at h
 unfold numV
 rw[if_pos]
 simp only[Bool.and_eq_true,Bool.not_eq_true',Bool.and_eq_false_iff,beq_eq_false_iff_ne]at h
 refine⟨fun z=>by rw[z]at h; simp at h,h.1.2,fun ⟨a,b⟩=>?_⟩
 rcases h.2 with q|q
 ·exact q a
 ·simp at q; exact b q
theorem numV_n{w:List Nat}(h:nOk w=false):numV w=.non:=by
 unfold nOk at h
 unfold numV
 rw[if_neg]
 rintro⟨a,b,d⟩
 simp only[Bool.and_eq_false_iff,Bool.not_eq_false',Bool.and_eq_true,beq_iff_eq]at h
 rcases h with (h|h)|⟨h1,h2⟩
 ·exact a (List.isEmpty_iff.mp h)
 ·rw[b]at h; cases h
 ·exact d ⟨h1,by simpa using h2⟩
theorem numV_nl(w:List Nat):noLoc (numV w)=true:=by unfold numV; split<;>rfl
theorem numV_flat(n:Nat)(w:List Nat):flat n (numV w)=true:=by
 unfold numV
 split
 ·exact flat_i _ _
 ·exact flat_n _
theorem nl_num(ws:List (List Nat)):noLocs (ws.map numV)=true:=noLocs_map fun w _=>numV_nl w
section
variable {m:Nat}{st:Store}{ws:List (List Nat)}(hw:∀ w∈ws,wOk w)(hl:ws.length<1000)
include hw hl
theorem comp_num(n:Nat)(o:Option D):(rn fns (m+2) (n+10)).ev [some (.lst (ws.map tD)),o] st (.gc (.comp (.var 0) (.var 0) none (.gc (.call 1 [(.var 0)])) [none]))=some (.lst (ws.map numV),st):=by
 refine gc_comp (n:=n+8) (s:=.lst (.lst (ws.map tD))) (rest:=[]) ws tD numV (src_lst rfl) (fun i=>at_lst' _ _) (by rw[size_lst']; simp) rfl (by omega) (fun w _=>numV_nl w) fun w hw'=>?_
 refine gc_ev (n:=n+7) ?_ (numV_nl w)
 have:=number_ok hFig hNum 0 m st w (hw w hw').1 (hw w hw').2
 simp only[ev_k,stepEv,evs,List.getElem?_cons_zero,oBs,call_k]
 exact this
theorem in_num:inD st .non (.lst (ws.map numV))=some (!ws.all nOk):=by
 simp only[inD,seqAt,oBs]
 rw[flats_map numV 9 (numV_flat 9),show flat 9 D.non=true from rfl]
 simp only[Bool.and_self,if_true,List.any_map]
 congr 1
 rw[Bool.eq_iff_iff,List.any_eq_true,Bool.not_eq_true',List.all_eq_false]
 constructor
 ·rintro⟨x,hx,e⟩
  refine⟨x,hx,fun z=>?_⟩
  have e:eqT (numV x) .non=true:=e
  rw[numV_y z]at e
  cases e
 ·rintro⟨x,hx,e⟩
  refine⟨x,hx,?_⟩
  show eqT (numV x) .non=true
  rw[numV_n (by simpa using e)]
  rfl
theorem rnums_ok(ha:ws.all nOk=true):callD fns (m+3) 2 [.lst (ws.map tD)] st=some (.lst (ws.map numV),st):=by
 refine call_of (0+20) (F:=fNums 1) hNums rfl rfl ?_
 show exs (stepEx (rn fns (m+2) (0+20))) (cNums 1) [some (.lst (ws.map tD)),none] st=_
 unfold cNums
 rw[exs_cons (τ':=[some (.lst (ws.map tD)),some (.lst (ws.map numV))]) (s':=st) (by simp only[stepEx,comp_num hw hl,oBs]; rfl)]
 have i1:=in_num (st:=st) hw hl
 rw[ha]at i1
 rw[exs_cons (τ':=[some (.lst (ws.map tD)),some (.lst (ws.map numV))]) (s':=st) (by
  refine(stepEx_ite_f (st':=st) ?_).trans rfl
  simp only[tst_k,stepTst,ev_k,stepEv,List.getElem?_cons_succ,List.getElem?_cons_zero,oBs,cmpD,i1,oMs,Bool.not_true])]
 refine exs_ret ?_
 simp only[stepEx,ev_k,stepEv,List.getElem?_cons_succ,List.getElem?_cons_zero,oMs]
theorem rnums_x(ha:ws.all nOk=false):Xc (m+3) 2 [.lst (ws.map tD)] st st:=by
 refine xc_of rfl hNums rfl rfl ?_
 show XS fns (m+2) _ [some (.lst (ws.map tD)),none] st (cNums 1) st
 refine .next (0+20) (τ1:=[some (.lst (ws.map tD)),some (.lst (ws.map numV))]) (st1:=st) (by simp only[stepEx,comp_num hw hl,oBs]; rfl) ?_
 have i1:=in_num (st:=st) hw hl
 rw[ha]at i1
 exact .iteT 10 (st1:=st) (by simp only[tst_k,stepTst,ev_k,stepEv,List.getElem?_cons_succ,List.getElem?_cons_zero,oBs,cmpD,i1,oMs,Bool.not_false]) .rais
end
theorem parted_ok(m:Nat)(st:Store)(a b:List (List Nat))(w:List Nat)(h:w ∉ a):callD fns (m+1) 3 [.lst ((a++w::b).map tD),tD w] st=some (.tup [.lst (a.map tD),.lst (b.map tD)],st):=by
 refine call_of (0+20) (F:=f_parted_at) rfl rfl rfl ?_
 show exs (stepEx (rn fns m (0+20))) b_parted_at [some (.lst ((a++w::b).map tD)),some (tD w),none] st=_
 unfold b_parted_at
 have i1:inD st (tD w) (.lst ((a++w::b).map tD))=some true:=by
  rw[in_tD]
  simp
 rw[exs_cons (τ':=[some (.lst ((a++w::b).map tD)),some (tD w),none]) (s':=st) (by
  refine(stepEx_ite_f (st':=st) ?_).trans rfl
  simp only[tst_k,stepTst,ev_k,stepEv,List.getElem?_cons_succ,List.getElem?_cons_zero,oBs,cmpD,i1,oMs,Bool.not_true])]
 have my:mty st .index (.lst ((a++w::b).map tD))=true:=rfl
 rw[exs_cons (τ':=[some (.lst ((a++w::b).map tD)),some (tD w),some (.int a.length)]) (s':=st) (by
  simp only[stepEx,ev_k,stepEv,evs,List.getElem?_cons_succ,List.getElem?_cons_zero,oBs,my,if_true,mfun,ix_tD st a b w h]
  rfl)]
 have s1:∀ n:Nat,(rn fns m (n+10)).ev [some (.lst ((a++w::b).map tD)),some (tD w),some (.int a.length)] st (.gc (.sli (.var 0) none (some (.var 2))))=some (.lst (a.map tD),st):=fun n=>by
  have:=gc_sli (c:=callD fns m) (n:=n+8) (τ:=[some (.lst ((a++w::b).map tD)),some (tD w),some (.int a.length)]) (st:=st) (a:=.var 0) (lo:=none) (hi:=some (.var 2)) (xs:=(a++w::b).map tD) (l:=none) (h:=some (a.length:Int)) rfl rfl rfl (by rw[cut_take _ _ (by simp),← List.map_take]; exact nl_tD _)
  rw[cut_take _ _ (by simp),← List.map_take]at this
  simpa using this
 have s2:∀ n:Nat,(rn fns m (n+10)).ev [some (.lst ((a++w::b).map tD)),some (tD w),some (.int a.length)] st (.gc (.sli (.var 0) (some (.bin .Add (.var 2) (.lit (.int 1)))) none))=some (.lst (b.map tD),st):=fun n=>by
  have hi:(a.length:Int)+1=((a.length+1:Nat):Int):=by omega
  have:=gc_sli (c:=callD fns m) (n:=n+8) (τ:=[some (.lst ((a++w::b).map tD)),some (tD w),some (.int a.length)]) (st:=st) (a:=.var 0) (lo:=some (.bin .Add (.var 2) (.lit (.int 1)))) (hi:=none) (xs:=(a++w::b).map tD) (l:=some ((a.length+1:Nat):Int)) (h:=none) rfl (by
   simp only[part,ev_k,stepEv,List.getElem?_cons_succ,List.getElem?_cons_zero,oBs,binop,hi]) rfl (by rw[cut_drop _ _ (by simp),← List.map_drop]; exact nl_tD _)
  rw[cut_drop _ _ (by simp),← List.map_drop,show(a++w::b).drop (a.length+1)=b by rw[← List.drop_drop]; simp]at this
  exact this
 refine exs_ret ?_
 simp only[stepEx,ev_k (n:=19),stepEv,evs,s1 9,s2 9,oBs,oMs]
 rfl
theorem parted_x(m:Nat)(st:Store)(ws:List (List Nat))(w:List Nat)(h:w ∉ ws):Xc (m+1) 3 [.lst (ws.map tD),tD w] st st:=by
 refine xc_of (F:=f_parted_at) rfl rfl rfl rfl ?_
 have i1:inD st (tD w) (.lst (ws.map tD))=some false:=by
  rw[in_tD]
  simp
  intro x hx z
  exact h (z▸hx)
 exact .iteT 10 (st1:=st) (by
  show(rn fns m 10).tst [some (.lst (ws.map tD)),some (tD w),none] st _=_
  simp only[tst_k,stepTst,ev_k,stepEv,List.getElem?_cons_succ,List.getElem?_cons_zero,oBs,cmpD,i1,oMs,Bool.not_false]) .rais
abbrev T3:=List Nat×List Nat×List Nat
noncomputable def tP(t:T3):List (List Nat):=[t.1,t.2.1,t.2.2]
noncomputable def tV(t:T3):D:=.tup [numV t.1,tD t.2.1,numV t.2.2]
noncomputable def tOk(t:T3):Bool:=nOk t.1&&wordsO.contains t.2.1&&nOk t.2.2
def tW(t:T3):Prop:=∀ w∈tP t,wOk w
theorem tV_nl(t:T3):noLoc (tV t)=true:=by
 show noLocs [numV t.1,tD t.2.1,numV t.2.2]=true
 simp only[noLocs_cons,numV_nl,noLocs_nil,Bool.and_true,Bool.true_and]
 rfl
theorem words_tup:(.tup [(.str "given"),(.str "fallen"),(.str "unvested"),(.str "ground"),(.str "younger")]:D)=.tup (wordsO.map tD):=by
 rw[xGiven,xFallen,xUnvested,xGround,xYounger]
 rfl
theorem words_in(S:Store)(w:List Nat):inD S (tD w) (.tup (wordsO.map tD))=some (wordsO.contains w):=by
 simp only[inD]
 rw[flats_map tD 9 (fun _=>rfl),show flat 9 (tD w)=true from rfl]
 simp only[Bool.and_self,if_true,List.any_map]
 congr 1
 rw[Bool.eq_iff_iff,List.any_eq_true,List.contains_iff_mem]
 constructor
 ·rintro⟨x,hx,e⟩
  have e:eqT (tD x) (tD w)=true:=e
  rw[eq_tD,beq_iff_eq]at e
  exact e▸hx
 ·intro h
  exact⟨w,h,by show eqT (tD w) (tD w)=true; rw[eq_tD]; simp⟩
section
variable (m:Nat)(st:Store)(t:T3)(hw:tW t)
theorem other_l(n:Nat)(o:Option D):(rn fns (m+3) (n+10)).ev [some (.lst ((tP t).map tD)),o] st (.gc (.lst [(.idx (.var 0) (.lit (.int 0))),(.idx (.var 0) (.lit (.int 2)))]))=some (.lst ([t.1,t.2.2].map tD),st):=by
 have x0:∀ S,idxD S (.lst ((tP t).map tD)) (.int 0)=some (tD t.1):=fun S=>rfl
 have x2:∀ S,idxD S (.lst ((tP t).map tD)) (.int 2)=some (tD t.2.2):=fun S=>rfl
 refine gc_lit (n:=n+8) ?_ (by simp) (nl_tD _)
 simp only[evs,ev_k,stepEv,List.getElem?_cons_succ,List.getElem?_cons_zero,oBs,x0,x2,oMs]
 rfl
theorem other_t(n:Nat):(rn fns (m+3) (n+10)).tst [some (.lst ((tP t).map tD)),none] st (.cmp .NotIn (.idx (.var 0) (.lit (.int 1))) (.glo "WORDS" (.tup [(.str "given"),(.str "fallen"),(.str "unvested"),(.str "ground"),(.str "younger")])))=some (!wordsO.contains t.2.1,st):=by
 have x1:∀ S,idxD S (.lst ((tP t).map tD)) (.int 1)=some (tD t.2.1):=fun S=>rfl
 rw[words_tup]
 simp only[tst_k,stepTst,ev_k,stepEv,List.getElem?_cons_zero,oBs,x1,cmpD,words_in,oMs]
include hw
theorem other_ok(h:tOk t=true):callD fns (m+4) 4 [.lst ((tP t).map tD)] st=some (tV t,st):=by
 unfold tOk at h
 simp only[Bool.and_eq_true]at h
 refine call_of (0+20) (F:=f_read_other) rfl rfl rfl ?_
 show exs (stepEx (rn fns (m+3) (0+20))) b_read_other [some (.lst ((tP t).map tD)),none] st=_
 unfold b_read_other
 rw[exs_cons (τ':=[some (.lst ((tP t).map tD)),none]) (s':=st) (by
  refine(stepEx_ite_f (st':=st) ?_).trans rfl
  rw[other_t,h.1.2]
  rfl)]
 have n1:=rnums_ok (m:=m) (st:=st) (ws:=[t.1,t.2.2]) (fun w h=>hw w (by simp at h; rcases h with h|h<;>simp[tP,h])) (by simp) (by simp[h.1.1,h.2])
 have c1:∀ n:Nat,(rn fns (m+3) (n+13)).ev [some (.lst ((tP t).map tD)),none] st (.gc (.call 2 [(.gc (.lst [(.idx (.var 0) (.lit (.int 0))),(.idx (.var 0) (.lit (.int 2)))]))]))=some (.lst ([t.1,t.2.2].map numV),st):=fun n=>by
  refine gc_ev (n:=n+12) ?_ (nl_num _)
  rw[ev_k]
  simp only[stepEv,evs,other_l,oBs,call_k]
  exact n1
 rw[exs_cons (τ':=[some (.lst ((tP t).map tD)),some (.lst ([t.1,t.2.2].map numV))]) (s':=st) (by simp only[stepEx,c1,oBs]; rfl)]
 have x1:∀ S,idxD S (.lst ((tP t).map tD)) (.int 1)=some (tD t.2.1):=fun S=>rfl
 have y0:∀ S,idxD S (.lst ([t.1,t.2.2].map numV)) (.int 0)=some (numV t.1):=fun S=>rfl
 have y1:∀ S,idxD S (.lst ([t.1,t.2.2].map numV)) (.int 1)=some (numV t.2.2):=fun S=>rfl
 refine exs_ret ?_
 simp only[stepEx,ev_k,stepEv,evs,List.getElem?_cons_succ,List.getElem?_cons_zero,oBs,x1,y0,y1,oMs]
 rfl
theorem other_x(h:tOk t=false):Xc (m+4) 4 [.lst ((tP t).map tD)] st st:=by
 refine xc_of (F:=f_read_other) rfl rfl rfl rfl ?_
 show XS fns (m+3) _ [some (.lst ((tP t).map tD)),none] st b_read_other st
 by_cases hc:wordsO.contains t.2.1=true
 ·refine .next (0+20) (τ1:=[some (.lst ((tP t).map tD)),none]) (st1:=st) (by
   refine(stepEx_ite_f (st':=st) ?_).trans rfl
   rw[other_t,hc]
   rfl) ?_
  refine .set rfl (.gc (.call (0+11) (ds:=[.lst ([t.1,t.2.2].map tD)]) (st1:=st) (by simp only[evs,other_l,oBs]) ?_))
  refine rnums_x (m:=m) (ws:=[t.1,t.2.2]) (fun w h=>hw w (by simp at h; rcases h with h|h<;>simp[tP,h])) (by simp) ?_
  unfold tOk at h
  rw[hc]at h
  simpa using h
 ·exact .iteT (0+10) (st1:=st) (by rw[other_t,show wordsO.contains t.2.1=false by simpa using hc]; rfl) .rais
end
theorem flat_len(os:List T3):(os.flatMap tP).length=3*os.length:=by
 induction os with
 |nil=>rfl
 |cons o r ih=>rw[List.flatMap_cons,List.length_append,ih]; simp[tP]; omega
theorem flat_at:∀ (os:List T3) (i:Nat) (o:T3),os[i]?=some o→((os.flatMap tP).drop (3*i)).take 3=tP o
 |[],i,o,h=>by simp at h
 |o'::r,0,o,h=>by
  cases h
  rw[List.flatMap_cons,Nat.mul_zero,List.drop_zero]
  exact List.take_append_of_le_length (by simp[tP])
 |o'::r,i+1,o,h=>by
  rw[List.flatMap_cons,show 3*(i+1)=(tP o').length+3*i by simp[tP]; omega,← List.drop_drop,List.drop_left]
  exact flat_at r i o (by simpa using h)
section
variable (m:Nat)(st:Store)
noncomputable def eOth:E:=.gc (.call 4 [(.gc (.sli (.var 1) (some (.var 0)) (some (.bin .Add (.var 0) (.glo "THINGS" (.int 3))))))])
noncomputable def iOth:E:=.rng3 (.lit (.int 0)) (.bcall .len [(.var 0)]) (.glo "THINGS" (.int 3))
variable (os:List T3)(hl:os.length<300)
include hl
theorem oth_src(n:Nat):src (rn fns (m+4) (n+5)) [some (.lst ((os.flatMap tP).map tD))] st iOth=some (.rgs 0 3 os.length,st):=by
 have hlen:((os.flatMap tP).map tD).length=3*os.length:=by rw[List.length_map,flat_len]
 have ln:∀ S,bLen S [.lst ((os.flatMap tP).map tD)]=some (.int ((3*os.length:Nat):Int),S):=fun S=>by simp only[bLen,seqAt,oMs,hlen]
 have hb:big ((3*os.length:Nat):Int)=false:=by unfold big; simp; omega
 have sz:(if (0:Int)<((3*os.length:Nat):Int) then(((3*os.length:Nat):Int) - 0 - 1) / 3+1 else 0).toNat=os.length:=by split<;>omega
 simp only[iOth,src,ev_k,stepEv,evs,List.getElem?_cons_zero,oBs,bfun,ln,hb]
 rw[sz]
 rfl
theorem oth_sli(n i:Nat)(o:T3)(h2:os[i]?=some o):(rn fns (m+4) (n+8)).ev [some (.int ((0:Int)+(i:Nat)*3)),some (.lst ((os.flatMap tP).map tD))] st (.gc (.sli (.var 1) (some (.var 0)) (some (.bin .Add (.var 0) (.glo "THINGS" (.int 3))))))=some (.lst ((tP o).map tD),st):=by
 have hlen:((os.flatMap tP).map tD).length=3*os.length:=by rw[List.length_map,flat_len]
 have hlt:=(List.getElem?_eq_some_iff.mp h2).1
 have e1:(0:Int)+(i:Nat)*3=((3*i:Nat):Int):=by omega
 have e2:((3*i:Nat):Int)+3=((3*i+3:Nat):Int):=by omega
 rw[e1]
 have e3:cut ((os.flatMap tP).map tD) (some ((3*i:Nat):Int)) (some ((3*i+3:Nat):Int))=(tP o).map tD:=by
  rw[cut_mid _ _ _ (by omega) (by omega),show 3*i+3 - 3*i=3 by omega,← List.map_drop,← List.map_take,flat_at os i o h2]
 have:=gc_sli (c:=callD fns (m+4)) (n:=n+6) (τ:=[some (.int ((3*i:Nat):Int)),some (.lst ((os.flatMap tP).map tD))]) (st:=st) (a:=.var 1) (lo:=some (.var 0)) (hi:=some (.bin .Add (.var 0) (.glo "THINGS" (.int 3)))) (xs:=(os.flatMap tP).map tD) (l:=some ((3*i:Nat):Int)) (h:=some ((3*i+3:Nat):Int)) rfl rfl (by
  simp only[part,ev_k,stepEv,List.getElem?_cons_zero,oBs,binop,e2]) (by rw[e3]; exact nl_tD _)
 rw[e3]at this
 exact this
variable (hw:∀ o∈os,tW o)
include hw
theorem oth_elt(n i:Nat)(o:T3)(h2:os[i]?=some o)(ho:tOk o=true):(rn fns (m+4) (n+12)).ev [some (.int ((0:Int)+(i:Nat)*3)),some (.lst ((os.flatMap tP).map tD))] st eOth=some (tV o,st):=by
 refine gc_ev (n:=n+11) ?_ (tV_nl o)
 rw[ev_k]
 simp only[stepEv,evs,oth_sli m st os hl _ i o h2,oBs,call_k]
 exact other_ok m st o (hw o (List.mem_of_getElem? h2)) ho
theorem oth_t:∀ n:Nat,(rn fns (m+4) (n+10)).tst [some (.lst ((os.flatMap tP).map tD))] st (.cmp .NotEq (.bin .Mod (.bcall .len [(.var 0)]) (.glo "THINGS" (.int 3))) (.lit (.int 0)))=some (false,st):=fun n=>by
 have hlen:((os.flatMap tP).map tD).length=3*os.length:=by rw[List.length_map,flat_len]
 have ln:∀ S,bLen S [.lst ((os.flatMap tP).map tD)]=some (.int ((3*os.length:Nat):Int),S):=fun S=>by simp only[bLen,seqAt,oMs,hlen]
 have md:∀ S,binop S .Mod (.int ((3*os.length:Nat):Int)) (.int 3)=some (.int 0,S):=fun S=>by
  simp only[binop]
  rw[if_pos (by omega),show((3*os.length:Nat):Int) % 3=0 by omega]
 simp only[tst_k,stepTst,ev_k,stepEv,evs,List.getElem?_cons_zero,oBs,bfun,ln,md,cmpD,neD,eqD_ii,oMs]
 rfl
theorem others_ok(ho:os.all tOk=true):callD fns (m+5) 5 [.lst ((os.flatMap tP).map tD)] st=some (.tup (os.map tV),st):=by
 refine call_of (0+20) (F:=f_read_others) rfl rfl rfl ?_
 show exs (stepEx (rn fns (m+4) (0+20))) b_read_others [some (.lst ((os.flatMap tP).map tD))] st=_
 unfold b_read_others
 rw[exs_cons (τ':=[some (.lst ((os.flatMap tP).map tD))]) (s':=st) ((stepEx_ite_f (st':=st) (oth_t m st os hl hw _)).trans rfl)]
 have cm:∀ n:Nat,(rn fns (m+4) (n+16)).ev [some (.lst ((os.flatMap tP).map tD))] st (.gc (.comp (.var 0) iOth none eOth [none,some 0]))=some (.lst (os.map tV),st):=fun n=>by
  have key:=gc_comp (c:=callD fns (m+4)) (n:=n+14) (τ:=[some (.lst ((os.flatMap tP).map tD))]) (st:=st) (it:=iOth) (elt:=eOth) (sr:=[none,some 0]) (s:=.rgs 0 3 os.length) (rest:=[some (.lst ((os.flatMap tP).map tD))]) ((List.range os.length).zip os) (fun p=>.int ((0:Int)+(p.1:Nat)*3)) (fun p=>tV p.2) (oth_src m st os hl _) (fun i=>by
   simp only[Src.at,List.getElem?_map]
   by_cases hi:i<os.length
   ·rw[if_pos hi]
    have:((List.range os.length).zip os)[i]?=some (i,os[i]):=by
     rw[List.getElem?_zip_eq_some]
     exact⟨by rw[List.getElem?_range hi],by simp⟩
    rw[this]
    rfl
   ·rw[if_neg hi,List.getElem?_eq_none (by simpa using hi)]
    rfl) (by simp[Src.size]) rfl (by simp; omega) (fun p _=>tV_nl p.2) (fun p hp=>by
   obtain⟨j,o⟩:=p
   obtain⟨i,hi⟩:=List.mem_iff_getElem?.mp hp
   rw[List.getElem?_zip_eq_some]at hi
   obtain⟨h1,h2⟩:=hi
   have hlt:=(List.getElem?_eq_some_iff.mp h2).1
   rw[List.getElem?_range hlt]at h1
   have hij:i=j:=Option.some.inj h1
   subst hij
   exact oth_elt m st os hl hw (n+2) i o h2 (List.all_eq_true.mp ho o (List.mem_of_getElem? h2)))
  rw[key]
  congr 3
  rw[show(fun p:Nat×T3=>tV p.2)=tV∘Prod.snd from rfl,← List.map_map,List.map_snd_zip (by simp)]
 refine exs_ret ?_
 simp only[stepEx]
 rw[ev_k]
 have cm':=cm 3
 simp only[iOth,eOth]at cm'
 simp only[stepEv,evs,cm',oBs,bfun,bTuple,seqAt,oMs]
theorem others_x(ho:os.all tOk=false):Xc (m+5) 5 [.lst ((os.flatMap tP).map tD)] st st:=by
 refine xc_of (F:=f_read_others) rfl rfl rfl rfl ?_
 show XS fns (m+4) _ [some (.lst ((os.flatMap tP).map tD))] st b_read_others st
 refine .next (0+20) (τ1:=[some (.lst ((os.flatMap tP).map tD))]) (st1:=st) ((stepEx_ite_f (st':=st) (oth_t m st os hl hw _)).trans rfl) ?_
 obtain⟨i,o,hi,hb,hp⟩:∃ (i:Nat) (o:T3),os[i]?=some o∧tOk o=false∧∀ (j:Nat) (o':T3),j<i→os[j]?=some o'→tOk o'=true:=by
  clear hl hw
  induction os with
  |nil=>cases ho
  |cons a r ih=>
   by_cases ha:tOk a=true
   ·obtain⟨i,o,h1,h2,h3⟩:=ih (by simpa[ha] using ho)
    refine⟨i+1,o,h1,h2,fun j o' hj e=>?_⟩
    cases j with
    |zero=>cases e; exact ha
    |succ j=>exact h3 j o' (by omega) e
   ·exact⟨0,a,rfl,by simpa using ha,fun j _ hj=>by omega⟩
 have hlt:=(List.getElem?_eq_some_iff.mp hi).1
 refine .ret (.tuple (.gc (.comp (s:=.rgs 0 3 os.length) (dd:=.int ((0:Int)+(i:Nat)*3)) (τ1:=[some (.int ((0:Int)+(i:Nat)*3)),some (.lst ((os.flatMap tP).map tD))]) (0+14) i (fun j=>[if j=0 then none else some (.int ((0:Int)+((j - 1:Nat):Int)*3)),some (.lst ((os.flatMap tP).map tD))]) (fun _=>st) (oth_src m st os hl _) rfl (by unfold lim; omega) (fun j hj=>?_) ?_ rfl (.gc (.call (0+9) (ds:=[.lst ((tP o).map tD)]) (st1:=st) (by simp only[evs,oth_sli m st os hl _ i o hi,oBs]) (other_x m st o (hw o (List.mem_of_getElem? hi)) hb))))))
 ·have hj':j<os.length:=by omega
  refine⟨.int ((0:Int)+(j:Nat)*3),tV os[j],by simp[Src.at,hj'],?_⟩
  have:=oth_elt m st os hl hw 2 j os[j] (by simp) (hp j os[j] hj (by simp))
  show(setT (.var 0) _ _).bind _=_
  show((rn fns (m+4) (2+12)).ev [some (.int ((0:Int)+(j:Nat)*3)),some (.lst ((os.flatMap tP).map tD))] st eOth).map _=_
  rw[this]
  rfl
 ·simp[Src.at,hlt]
end
theorem others_x3(m:Nat)(st:Store)(ws:List (List Nat))(h3:ws.length % 3≠0):Xc (m+1) 5 [.lst (ws.map tD)] st st:=by
 refine xc_of (F:=f_read_others) rfl rfl rfl rfl ?_
 show XS fns m _ [some (.lst (ws.map tD))] st b_read_others st
 have ln:∀ S,bLen S [.lst (ws.map tD)]=some (.int ((ws.length:Nat):Int),S):=fun S=>by simp only[bLen,seqAt,oMs,List.length_map]
 have md:∀ S,binop S .Mod (.int ((ws.length:Nat):Int)) (.int 3)=some (.int ((ws.length % 3:Nat):Int),S):=fun S=>by
  simp only[binop]
  rw[if_pos (by omega)]
  congr 3
 refine .iteT (0+10) (st1:=st) ?_ .rais
 simp only[tst_k,stepTst,ev_k,stepEv,evs,List.getElem?_cons_zero,oBs,bfun,ln,md,cmpD,neD,eqD_ii,oMs]
 congr 2
 simp
 omega
theorem cutTk{α:Type}(xs:List α)(n:Nat):cut xs none (some (n:Int))=xs.take n:=by
 unfold cut
 rw[cutIx_nat]
 show(xs.drop 0).take (min n xs.length - 0)=_
 rw[List.drop_zero,Nat.sub_zero]
 by_cases h:n≤xs.length
 ·rw[Nat.min_eq_left h]
 ·rw[Nat.min_eq_right (by omega),List.take_of_length_le (Nat.le_refl _),List.take_of_length_le (by omega)]
theorem cutDr{α:Type}(xs:List α)(n:Nat):cut xs (some (n:Int)) none=xs.drop n:=by
 unfold cut
 rw[cutIx_nat]
 show(xs.drop (min n xs.length)).take (xs.length - min n xs.length)=_
 by_cases h:n≤xs.length
 ·rw[Nat.min_eq_left h,List.take_of_length_le (by rw[List.length_drop]; exact Nat.le_refl _)]
 ·rw[Nat.min_eq_right (by omega),Nat.sub_self,List.take_zero,List.drop_eq_nil_of_le (by omega)]
theorem cutMd{α:Type}(xs:List α)(a b:Nat)(h:a≤b):cut xs (some (a:Int)) (some (b:Int))=(xs.drop a).take (b - a):=by
 unfold cut
 rw[cutIx_nat,cutIx_nat]
 by_cases h1:b≤xs.length
 ·rw[Nat.min_eq_left h1,Nat.min_eq_left (by omega)]
 ·by_cases h2:a≤xs.length
  ·rw[Nat.min_eq_left h2,Nat.min_eq_right (by omega),List.take_of_length_le (by rw[List.length_drop]; exact Nat.le_refl _),List.take_of_length_le (by rw[List.length_drop]; omega)]
  ·rw[Nat.min_eq_right (by omega),Nat.min_eq_right (by omega),List.drop_eq_nil_of_le (by omega),List.drop_eq_nil_of_le (by omega)]
   simp
theorem gcTk{c:CF}{n:Nat}{τ:Sl}{st:Store}{a:E}{ws:List (List Nat)}(k:Nat)(ha:(runK c (n+1)).ev τ st a=some (.lst (ws.map tD),st)):(runK c (n+3)).ev τ st (.gc (.sli a none (some (.lit (.int (k:Int))))))=some (.lst ((ws.take k).map tD),st):=by
 have:=gc_sli (c:=c) (n:=n+1) (τ:=τ) (st:=st) (a:=a) (lo:=none) (hi:=some (.lit (.int (k:Int)))) (xs:=ws.map tD) (l:=none) (h:=some (k:Int)) ha rfl rfl (by rw[cutTk,← List.map_take]; exact nl_tD _)
 rw[cutTk,← List.map_take]at this
 exact this
theorem gcDr{c:CF}{n:Nat}{τ:Sl}{st:Store}{a:E}{ws:List (List Nat)}(k:Nat)(ha:(runK c (n+1)).ev τ st a=some (.lst (ws.map tD),st)):(runK c (n+3)).ev τ st (.gc (.sli a (some (.lit (.int (k:Int)))) none))=some (.lst ((ws.drop k).map tD),st):=by
 have:=gc_sli (c:=c) (n:=n+1) (τ:=τ) (st:=st) (a:=a) (lo:=some (.lit (.int (k:Int)))) (hi:=none) (xs:=ws.map tD) (l:=some (k:Int)) (h:=none) ha rfl rfl (by rw[cutDr,← List.map_drop]; exact nl_tD _)
 rw[cutDr,← List.map_drop]at this
 exact this
theorem gcMd{c:CF}{n:Nat}{τ:Sl}{st:Store}{a:E}{ws:List (List Nat)}(k l:Nat)(h:k≤l)(ha:(runK c (n+1)).ev τ st a=some (.lst (ws.map tD),st)):(runK c (n+3)).ev τ st (.gc (.sli a (some (.lit (.int (k:Int)))) (some (.lit (.int (l:Int))))))=some (.lst (((ws.drop k).take (l - k)).map tD),st):=by
 have:=gc_sli (c:=c) (n:=n+1) (τ:=τ) (st:=st) (a:=a) (lo:=some (.lit (.int (k:Int)))) (hi:=some (.lit (.int (l:Int)))) (xs:=ws.map tD) (l:=some (k:Int)) (h:=some (l:Int)) ha rfl rfl (by rw[cutMd _ _ _ h,← List.map_drop,← List.map_take]; exact nl_tD _)
 rw[cutMd _ _ _ h,← List.map_drop,← List.map_take]at this
 exact this
theorem gcL1{c:CF}{n:Nat}{τ:Sl}{st:Store}{s:Str}{w:List Nat}(hs:s=mk w):(runK c (n+5)).ev τ st (.gc (.lst [(.lit (.str s))]))=some (.lst ([w].map tD),st):=by
 subst hs
 exact gc_lit (n:=n+3) rfl (by simp) (nl_tD _)
noncomputable def wayV:List (List Nat)→Option D
 |[g]=>if g=wGround then some (.tup [tD g]) else none
 |[g,x,y]=>if g=wDip∧nOk x=true∧nOk y=true then some (.tup [tD g,numV x,numV y]) else none
 |_=>none
theorem wayV_nl{ws:List (List Nat)}{d:D}(h:wayV ws=some d):noLoc d=true:=by
 unfold wayV at h
 split at h
 ·split at h
  ·cases h; rfl
  ·cases h
 ·split at h
  ·cases h
   rw[noLoc_tup]
   simp only[noLocs_cons,numV_nl,noLocs_nil,Bool.and_true,Bool.true_and]
   rfl
  ·cases h
 ·cases h
section
variable (m:Nat)(st:Store)(ws:List (List Nat))
theorem way_t1(n:Nat):(rn fns (m+3) (n+10)).tst [some (.lst (ws.map tD))] st (.cmp .Eq (.var 0) (.gc (.lst [(.lit (.str "ground"))])))=some (ws==[wGround],st):=by
 have v0:∀ n:Nat,(rn fns (m+3) (n+1)).ev [some (.lst (ws.map tD))] st (.var 0)=some (.lst (ws.map tD),st):=fun n=>rfl
 rw[tst_k]
 simp only[stepTst,v0,gcL1 xGround,oBs,cmpD,eq_ts,oMs]
theorem way_t2(n:Nat):(rn fns (m+3) (n+10)).tst [some (.lst (ws.map tD))] st (.or (.cmp .NotEq (.gc (.sli (.var 0) none (some (.lit (.int 1))))) (.gc (.lst [(.lit (.str "dip"))]))) (.cmp .NotEq (.bcall .len [(.var 0)]) (.lit (.int 3))))=some (!(ws.take 1==[wDip]) || !(ws.length==3),st):=by
 have s1:∀ n:Nat,(rn fns (m+3) (n+3)).ev [some (.lst (ws.map tD))] st (.gc (.sli (.var 0) none (some (.lit (.int 1)))))=some (.lst ((ws.take 1).map tD),st):=fun n=>gcTk 1 rfl
 have ln:∀ S,bLen S [.lst (ws.map tD)]=some (.int ((ws.length:Nat):Int),S):=fun S=>by simp only[bLen,seqAt,oMs,List.length_map]
 have e3:((ws.length:Int)==3)=(ws.length==3):=by rw[Bool.eq_iff_iff,beq_iff_eq,beq_iff_eq]; omega
 rw[tst_k]
 simp only[stepTst,tst_k,s1,gcL1 xDip,oBs,cmpD,neD,eq_ts,oMs]
 cases (ws.take 1==[wDip]) with
 |false=>rfl
 |true=>
  simp only[Bool.not_true,Bool.false_eq_true,if_false,ev_k,stepEv,evs,List.getElem?_cons_zero,oBs,bfun,ln,eqD_ii,oMs,e3,Bool.false_or]
variable (hw:∀ w∈ws,wOk w)
include hw
theorem way_ok{d:D}(h:wayV ws=some d):callD fns (m+4) 6 [.lst (ws.map tD)] st=some (d,st):=by
 refine call_of (0+20) (F:=f_read_way) rfl rfl rfl ?_
 show exs (stepEx (rn fns (m+3) (0+20))) b_read_way [some (.lst (ws.map tD))] st=_
 unfold b_read_way
 unfold wayV at h
 split at h
 ·rename_i g
  split at h
  ·rename_i hg
   cases h
   subst hg
   refine exs_ret ((stepEx_ite_t (st':=st) (by rw[way_t1]; rfl)).trans ?_)
   rw[ex_k]
   refine exs_ret ?_
   rw[xGround]
   rfl
  ·cases h
 ·rename_i g x y
  split at h
  ·rename_i hg
   cases h
   obtain⟨rfl,hx,hy⟩:=hg
   rw[exs_cons (τ':=[some (.lst ([wDip,x,y].map tD))]) (s':=st) (by refine(stepEx_ite_f (st':=st) ?_).trans rfl; rw[way_t1]; rfl)]
   rw[exs_cons (τ':=[some (.lst ([wDip,x,y].map tD))]) (s':=st) (by refine(stepEx_ite_f (st':=st) ?_).trans rfl; rw[way_t2]; rfl)]
   have c3:∀ n:Nat,(rn fns (m+3) (n+8)).ev [some (.lst ([wDip,x,y].map tD))] st (.gc (.call 2 [(.gc (.sli (.var 0) (some (.lit (.int 1))) none))]))=some (.lst ([x,y].map numV),st):=fun n=>by
    have s3:∀ n:Nat,(rn fns (m+3) (n+3)).ev [some (.lst ([wDip,x,y].map tD))] st (.gc (.sli (.var 0) (some (.lit (.int 1))) none))=some (.lst ([x,y].map tD),st):=fun n=>gcDr (ws:=[wDip,x,y]) 1 rfl
    refine gc_ev (n:=n+7) ?_ (nl_num _)
    rw[ev_k]
    simp only[stepEv,evs,s3,oBs,call_k]
    exact rnums_ok (m:=m) (fun w h=>hw w (by simp at h; rcases h with h|h<;>simp[h])) (by simp) (by simp[hx,hy])
   refine exs_ret ?_
   simp only[stepEx]
   rw[ev_k]
   simp only[stepEv]
   have a1:∀ n:Nat,(rn fns (m+3) (n+8)).ev [some (.lst ([wDip,x,y].map tD))] st (.tup [(.lit (.str "dip"))])=some (.tup [tD wDip],st):=fun n=>by rw[xDip]; rfl
   have a2:∀ n:Nat,(rn fns (m+3) (n+10)).ev [some (.lst ([wDip,x,y].map tD))] st (.bcall .tuple [(.gc (.call 2 [(.gc (.sli (.var 0) (some (.lit (.int 1))) none))]))])=some (.tup ([x,y].map numV),st):=fun n=>by
    rw[ev_k]
    simp only[stepEv,evs,c3,oBs,bfun,bTuple,seqAt,oMs]
   simp only[a1,a2,oBs]
   rfl
  ·cases h
 ·cases h
theorem way_x(h:wayV ws=none):Xc (m+4) 6 [.lst (ws.map tD)] st st:=by
 refine xc_of (F:=f_read_way) rfl rfl rfl rfl ?_
 show XS fns (m+3) _ [some (.lst (ws.map tD))] st b_read_way st
 have hg:(ws==[wGround])=false:=by
  cases e:ws==[wGround] with
  |false=>rfl
  |true=>
   rw[beq_iff_eq]at e
   subst e
   cases h
 refine .next (0+20) (τ1:=[some (.lst (ws.map tD))]) (st1:=st) (by refine(stepEx_ite_f (st':=st) ?_).trans rfl; rw[way_t1,hg]) ?_
 by_cases h2:(!(ws.take 1==[wDip]) || !(ws.length==3))=true
 ·exact .iteT (0+10) (st1:=st) (by rw[way_t2,h2]) .rais
 ·have h2:(!(ws.take 1==[wDip]) || !(ws.length==3))=false:=by simpa using h2
  refine .next (0+20) (τ1:=[some (.lst (ws.map tD))]) (st1:=st) (by refine(stepEx_ite_f (st':=st) ?_).trans rfl; rw[way_t2,h2]) ?_
  simp only[Bool.or_eq_false_iff,Bool.not_eq_false',beq_iff_eq]at h2
  obtain⟨g,x,y,rfl⟩:∃ g x y,ws=[g,x,y]:=by
   match ws,h2.2 with
   |[g,x,y],_=>exact⟨g,x,y,rfl⟩
  have hd:g=wDip:=by simpa using h2.1
  subst hd
  have s3:∀ n:Nat,(rn fns (m+3) (n+3)).ev [some (.lst ([wDip,x,y].map tD))] st (.gc (.sli (.var 0) (some (.lit (.int 1))) none))=some (.lst ([x,y].map tD),st):=fun n=>gcDr (ws:=[wDip,x,y]) 1 rfl
  refine .ret (.bin (0+8) (v:=.tup [tD wDip]) (st1:=st) (by rw[xDip]; rfl) (.tuple (.gc (.call (0+8) (ds:=[.lst ([x,y].map tD)]) (st1:=st) (by simp only[evs,s3,oBs]) ?_))))
  refine rnums_x (m:=m) (fun w h=>hw w (by simp at h; rcases h with h|h<;>simp[h])) (by simp) ?_
  unfold wayV at h
  simp only[true_and]at h
  split at h
  ·cases h
  ·rename_i q
   simp only[List.all_cons,List.all_nil,Bool.and_true]
   cases hx:nOk x<;>cases hy:nOk y<;>first|rfl|exact absurd ⟨hx,hy⟩ q
end
noncomputable def heldV(a b:List (List Nat))(oo:D):Option D:=match a with
 |h::c::r=>if h=wHeld∧nOk c=true then(wayV r).bind fun wd=>if b.all nOk=true then some (.tup [tD wHeld,numV c,wd,.tup (b.map numV),oo]) else none else none
 |_=>none
section
variable (m:Nat)(st:Store)(a b:List (List Nat))(oo:D)
noncomputable def hT(X:D)(a b:List (List Nat))(oo:D)(c:Option D):Sl:=[some X,some oo,some (.tup [.lst (a.map tD),.lst (b.map tD)]),some (.lst (a.map tD)),c]
theorem np_ab:noLoc (.tup [.lst (a.map tD),.lst (b.map tD)])=true:=by
 rw[noLoc_tup,noLocs_cons,noLocs_cons,noLoc_lst,noLoc_lst,nl_tD,nl_tD]
 rfl
theorem held_t(X:D)(n:Nat):(rn fns (m+4) (n+10)).tst (hT X a b oo none) st (.or (.cmp .NotEq (.gc (.sli (.var 3) none (some (.lit (.int 1))))) (.gc (.lst [(.lit (.str "held"))]))) (.cmp .Lt (.bcall .len [(.var 3)]) (.lit (.int 2))))=some (!(a.take 1==[wHeld])||decide (a.length<2),st):=by
 have s1:∀ n:Nat,(rn fns (m+4) (n+3)).ev (hT X a b oo none) st (.gc (.sli (.var 3) none (some (.lit (.int 1)))))=some (.lst ((a.take 1).map tD),st):=fun n=>gcTk 1 rfl
 have ln:∀ S,bLen S [.lst (a.map tD)]=some (.int ((a.length:Nat):Int),S):=fun S=>by simp only[bLen,seqAt,oMs,List.length_map]
 have e3:decide ((a.length:Int)<2)=decide (a.length<2):=by rw[Bool.eq_iff_iff,decide_eq_true_iff,decide_eq_true_iff]; omega
 have v3:∀ n:Nat,(rn fns (m+4) (n+1)).ev (hT X a b oo none) st (.var 3)=some (.lst (a.map tD),st):=fun n=>rfl
 rw[tst_k]
 simp only[stepTst,tst_k,s1,gcL1 xHeld,oBs,cmpD,neD,eq_ts,oMs]
 cases (a.take 1==[wHeld]) with
 |false=>rfl
 |true=>
  simp only[Bool.not_true,Bool.false_eq_true,if_false]
  rw[ev_k]
  simp only[stepEv,evs,v3,oBs,bfun,ln]
  rw[ev_k]
  simp only[stepEv,oBs,cmpD,oMs,e3,Bool.false_or]
variable (hw:∀ w∈a,wOk w)(hb:∀ w∈b,wOk w)(hl:b.length<1000)(hy:wYears ∉ a)(hoo:noLoc oo=true)
include hy in
theorem held_1(n:Nat):stepEx (rn fns (m+4) (n+20)) [some (.lst ((a++wYears::b).map tD)),some oo,none,none,none] st (.set (.var 2) (.gc (.call 3 [(.var 0),(.lit (.str "years"))])))=some (.nx [some (.lst ((a++wYears::b).map tD)),some oo,some (.tup [.lst (a.map tD),.lst (b.map tD)]),none,none],st):=by
 have:∀ n:Nat,(rn fns (m+4) (n+10)).ev [some (.lst ((a++wYears::b).map tD)),some oo,none,none,none] st (.gc (.call 3 [(.var 0),(.lit (.str "years"))]))=some (.tup [.lst (a.map tD),.lst (b.map tD)],st):=fun n=>by
  refine gc_ev (n:=n+9) ?_ (np_ab a b)
  rw[xYears]
  simp only[ev_k,stepEv,evs,List.getElem?_cons_zero,oBs,call_k]
  exact parted_ok (m+3) st a b wYears hy
 simp only[stepEx,this,oBs]
 rfl
include hb hl in
theorem held_y(X:D)(c:Option D)(ha:b.all nOk=true)(n:Nat):(rn fns (m+4) (n+10)).ev (hT X a b oo c) st (.bcall .tuple [(.gc (.call 2 [(.idx (.var 2) (.lit (.int 1)))]))])=some (.tup (b.map numV),st):=by
 have:∀ n:Nat,(rn fns (m+4) (n+8)).ev (hT X a b oo c) st (.gc (.call 2 [(.idx (.var 2) (.lit (.int 1)))]))=some (.lst (b.map numV),st):=fun n=>by
  refine gc_ev (n:=n+7) ?_ (nl_num _)
  have v2:∀ n:Nat,(rn fns (m+4) (n+2)).ev (hT X a b oo c) st (.idx (.var 2) (.lit (.int 1)))=some (.lst (b.map tD),st):=fun n=>rfl
  rw[ev_k]
  simp only[stepEv,evs,v2,oBs,call_k]
  exact rnums_ok (m:=m+1) hb hl ha
 rw[ev_k]
 simp only[stepEv,evs,this,oBs,bfun,bTuple,seqAt,oMs]
end
section
variable (m:Nat)(st:Store)(c:List Nat)(r b:List (List Nat))(oo X:D)
theorem held_w(w:Option D)(hw:∀ x∈r,wOk x){d:D}(h:wayV r=some d)(n:Nat):(rn fns (m+4) (n+10)).ev (hT X (wHeld::c::r) b oo w) st (.gc (.call 6 [(.gc (.sli (.var 3) (some (.lit (.int 2))) none))]))=some (d,st):=by
 have s3:∀ n:Nat,(rn fns (m+4) (n+3)).ev (hT X (wHeld::c::r) b oo w) st (.gc (.sli (.var 3) (some (.lit (.int 2))) none))=some (.lst (r.map tD),st):=fun n=>gcDr (ws:=wHeld::c::r) 2 rfl
 refine gc_ev (n:=n+9) ?_ (wayV_nl h)
 rw[ev_k]
 simp only[stepEv,evs,s3,oBs,call_k]
 exact way_ok m st r hw h
theorem held_c(hc:wOk c)(h:nOk c=true)(n:Nat):stepEx (rn fns (m+4) (n+20)) (hT X (wHeld::c::r) b oo none) st (.set (.var 4) (.idx (.gc (.call 2 [(.gc (.sli (.var 3) (some (.lit (.int 1))) (some (.lit (.int 2)))))])) (.lit (.int 0))))=some (.nx (hT X (wHeld::c::r) b oo (some (numV c))),st):=by
 have s2:∀ n:Nat,(rn fns (m+4) (n+3)).ev (hT X (wHeld::c::r) b oo none) st (.gc (.sli (.var 3) (some (.lit (.int 1))) (some (.lit (.int 2)))))=some (.lst ([c].map tD),st):=fun n=>gcMd (ws:=wHeld::c::r) 1 2 (by omega) rfl
 have c2:∀ n:Nat,(rn fns (m+4) (n+8)).ev (hT X (wHeld::c::r) b oo none) st (.gc (.call 2 [(.gc (.sli (.var 3) (some (.lit (.int 1))) (some (.lit (.int 2)))))]))=some (.lst ([c].map numV),st):=fun n=>by
  refine gc_ev (n:=n+7) ?_ (nl_num _)
  rw[ev_k]
  simp only[stepEv,evs,s2,oBs,call_k]
  exact rnums_ok (m:=m+1) (fun w h=>by simp at h; rw[h]; exact hc) (by simp) (by simp[h])
 have x0:∀ S,idxD S (.lst ([c].map numV)) (.int 0)=some (numV c):=fun S=>rfl
 have z0:∀ n:Nat,(rn fns (m+4) (n+1)).ev (hT X (wHeld::c::r) b oo none) st (.lit (.int 0))=some (.int 0,st):=fun n=>rfl
 simp only[stepEx]
 rw[ev_k]
 simp only[stepEv,c2,z0,oBs,x0,oMs]
 rfl
end
section
variable (m:Nat)(st:Store)(a b:List (List Nat))(oo:D)(hw:∀ w∈a,wOk w)(hb:∀ w∈b,wOk w)(hl:b.length<1000)(hy:wYears ∉ a)(hoo:noLoc oo=true)
include hw hb hl hy
theorem held_ok{d:D}(h:heldV a b oo=some d):callD fns (m+5) 7 [.lst ((a++wYears::b).map tD),oo] st=some (d,st):=by
 unfold heldV at h
 split at h
 ·rename_i hh c r
  split at h
  ·rename_i hc
   obtain⟨rfl,hc⟩:=hc
   cases hwv:wayV r with
   |none=>rw[hwv]at h; cases h
   |some wd=>
    rw[hwv,oBs]at h
    split at h
    ·rename_i hba
     cases h
     refine call_of (0+20) (F:=f_read_held) rfl rfl rfl ?_
     show exs (stepEx (rn fns (m+4) (0+20))) b_read_held [some (.lst ((wHeld::c::r++wYears::b).map tD)),some oo,none,none,none] st=_
     unfold b_read_held
     rw[exs_cons (held_1 m st (wHeld::c::r) b oo hy 0)]
     rw[exs_cons (τ':=hT (.lst ((wHeld::c::r++wYears::b).map tD)) (wHeld::c::r) b oo none) (s':=st) rfl]
     rw[exs_cons (τ':=hT (.lst ((wHeld::c::r++wYears::b).map tD)) (wHeld::c::r) b oo none) (s':=st) (by
      refine(stepEx_ite_f (st':=st) ?_).trans rfl
      rw[held_t]
      simp)]
     rw[exs_cons (held_c m st c r b oo _ (hw c (by simp)) hc 0)]
     refine exs_ret ?_
     have e1:∀ n:Nat,(rn fns (m+4) (n+1)).ev (hT (.lst ((wHeld::c::r++wYears::b).map tD)) (wHeld::c::r) b oo (some (numV c))) st (.lit (.str "held"))=some (tD wHeld,st):=fun n=>by rw[xHeld]; rfl
     have e2:∀ n:Nat,(rn fns (m+4) (n+1)).ev (hT (.lst ((wHeld::c::r++wYears::b).map tD)) (wHeld::c::r) b oo (some (numV c))) st (.var 4)=some (numV c,st):=fun n=>rfl
     have e5:∀ n:Nat,(rn fns (m+4) (n+1)).ev (hT (.lst ((wHeld::c::r++wYears::b).map tD)) (wHeld::c::r) b oo (some (numV c))) st (.var 1)=some (oo,st):=fun n=>rfl
     simp only[stepEx]
     rw[ev_k]
     simp only[stepEv,evs,e1,e2,e5,held_w m st c r b oo _ _ (fun x hx=>hw x (by simp[hx])) hwv,held_y m st _ b oo hb hl _ _ hba,oBs]
     rfl
    ·cases h
  ·cases h
 ·cases h
theorem held_x(h:heldV a b oo=none):Xc (m+5) 7 [.lst ((a++wYears::b).map tD),oo] st st:=by
 refine xc_of (F:=f_read_held) rfl rfl rfl rfl ?_
 show XS fns (m+4) _ [some (.lst ((a++wYears::b).map tD)),some oo,none,none,none] st b_read_held st
 refine .next _ (held_1 m st a b oo hy 0) ?_
 refine .next (0+20) (τ1:=hT (.lst ((a++wYears::b).map tD)) a b oo none) (st1:=st) rfl ?_
 by_cases ht:(!(a.take 1==[wHeld])||decide (a.length<2))=true
 ·exact .iteT (0+10) (st1:=st) (by rw[held_t,ht]) .rais
 ·have ht:(!(a.take 1==[wHeld])||decide (a.length<2))=false:=by simpa using ht
  refine .next (0+20) (τ1:=hT (.lst ((a++wYears::b).map tD)) a b oo none) (st1:=st) (by refine(stepEx_ite_f (st':=st) ?_).trans rfl; rw[held_t,ht]) ?_
  simp only[Bool.or_eq_false_iff,Bool.not_eq_false',beq_iff_eq,decide_eq_false_iff_not]at ht
  obtain⟨hh,c,r,rfl⟩:∃ hh c r,a=hh::c::r:=by
   match a,ht.2 with
   |hh::c::r,_=>exact⟨hh,c,r,rfl⟩
   |[],q=>simp at q
   |[_],q=>simp at q
  have hd:hh=wHeld:=by simpa using ht.1
  subst hd
  by_cases hc:nOk c=true
  ·refine .next _ (held_c m st c r b oo _ (hw c (by simp)) hc 0) ?_
   unfold heldV at h
   simp only[hc,true_and,and_self,if_true]at h
   cases hwv:wayV r with
   |none=>
    have s3:∀ n:Nat,(rn fns (m+4) (n+3)).ev (hT (.lst ((wHeld::c::r++wYears::b).map tD)) (wHeld::c::r) b oo (some (numV c))) st (.gc (.sli (.var 3) (some (.lit (.int 2))) none))=some (.lst (r.map tD),st):=fun n=>gcDr (ws:=wHeld::c::r) 2 rfl
    exact .ret (.tup (pre:=[.lit (.str "held"),.var 4]) (0+5) (st1:=st) rfl (.gc (.call (0+9) (ds:=[.lst (r.map tD)]) (st1:=st) (by simp only[evs,s3,oBs]) (way_x m st r (fun x hx=>hw x (by simp[hx])) hwv))))
   |some wd=>
    rw[hwv,oBs]at h
    have hba:b.all nOk=false:=by
     cases hh:b.all nOk with
     |false=>rfl
     |true=>rw[hh]at h; cases h
    refine .ret (.tup (pre:=[.lit (.str "held"),.var 4,(.gc (.call 6 [(.gc (.sli (.var 3) (some (.lit (.int 2))) none))]))]) (ds:=[.str "held",numV c,wd]) (0+10) (st1:=st) ?_ (.tuple (.gc (.call (0+8) (ds:=[.lst (b.map tD)]) (st1:=st) rfl (rnums_x (m:=m+1) hb hl hba)))))
    have e1:∀ n:Nat,(rn fns (m+4) (n+1)).ev (hT (.lst ((wHeld::c::r++wYears::b).map tD)) (wHeld::c::r) b oo (some (numV c))) st (.lit (.str "held"))=some (.str "held",st):=fun n=>rfl
    have e2:∀ n:Nat,(rn fns (m+4) (n+1)).ev (hT (.lst ((wHeld::c::r++wYears::b).map tD)) (wHeld::c::r) b oo (some (numV c))) st (.var 4)=some (numV c,st):=fun n=>rfl
    simp only[evs,e1,e2,held_w m st c r b oo _ _ (fun x hx=>hw x (by simp[hx])) hwv,oBs]
  ·have hc:nOk c=false:=by simpa using hc
   have s2:∀ n:Nat,(rn fns (m+4) (n+3)).ev (hT (.lst ((wHeld::c::r++wYears::b).map tD)) (wHeld::c::r) b oo none) st (.gc (.sli (.var 3) (some (.lit (.int 1))) (some (.lit (.int 2)))))=some (.lst ([c].map tD),st):=fun n=>gcMd (ws:=wHeld::c::r) 1 2 (by omega) rfl
   exact .set rfl (.idx (.gc (.call (0+9) (ds:=[.lst ([c].map tD)]) (st1:=st) (by simp only[evs,s2,oBs]) (rnums_x (m:=m+1) (fun w h=>by simp at h; rw[h]; exact hw c (by simp)) (by simp) (by simp[hc])))))
end
noncomputable def cutAt(w:List Nat):List (List Nat)→Option (List (List Nat)×List (List Nat))
 |[]=>none
 |x::r=>if x=w then some ([],r) else(cutAt w r).map fun p=>(x::p.1,p.2)
theorem cutAt_some{w:List Nat}:∀ {ws a b:List (List Nat)},cutAt w ws=some (a,b)→ws=a++w::b∧w ∉ a
 |[],a,b,h=>by cases h
 |x::r,a,b,h=>by
  unfold cutAt at h
  split at h
  ·rename_i e
   cases h
   exact⟨by rw[e]; rfl,by simp⟩
  ·rename_i e
   obtain⟨p,h1,h2⟩:=Option.map_eq_some_iff.mp h
   cases h2
   obtain⟨q1,q2⟩:=cutAt_some h1
   exact⟨by rw[q1]; rfl,fun z=>(List.mem_cons.mp z).elim (fun z=>e z.symm) q2⟩
theorem cutAt_none{w:List Nat}:∀ {ws:List (List Nat)},cutAt w ws=none→w ∉ ws
 |[],_=>by simp
 |x::r,h=>by
  unfold cutAt at h
  split at h
  ·cases h
  ·rename_i e
   have:=cutAt_none (ws:=r) (by simpa using h)
   exact fun z=>(List.mem_cons.mp z).elim (fun z=>e z.symm) this
noncomputable def thr:List (List Nat)→Option (List T3)
 |[]=>some []
 |a::b::c::r=>(thr r).map ((a,b,c)::·)
 |_=>none
theorem thr_some:∀ {ws:List (List Nat)}{os:List T3},thr ws=some os→ws=os.flatMap tP
 |[],os,h=>by cases h; rfl
 |[_],os,h=>by cases h
 |[_,_],os,h=>by cases h
 |a::b::c::r,os,h=>by
  unfold thr at h
  obtain⟨p,h1,h2⟩:=Option.map_eq_some_iff.mp h
  cases h2
  rw[List.flatMap_cons,← thr_some h1]
  rfl
theorem thr_none:∀ {ws:List (List Nat)},thr ws=none→ws.length % 3≠0
 |[],h=>by cases h
 |[_],h=>by simp
 |[_,_],h=>by simp
 |a::b::c::r,h=>by
  unfold thr at h
  have:=thr_none (ws:=r) (by simpa using h)
  simp only[List.length_cons]
  omega
noncomputable def papO(ws:List (List Nat)):Option D:=
 (cutAt wOthers ws).bind fun p=>(thr p.2).bind fun os=>if os.all tOk=true then(if p.1=[wOpen] then some (.tup [tD wOpen,.tup (os.map tV)]) else(cutAt wYears p.1).bind fun q=>heldV q.1 q.2 (.tup (os.map tV))) else none
theorem os_nl(os:List T3):noLoc (.tup (os.map tV))=true:=by
 rw[noLoc_tup]
 exact noLocs_map fun t _=>tV_nl t
theorem splitC_mem(c:Nat):∀ (cs:List Nat),∀ w∈splitC c cs,∀ x∈w,x∈cs
 |[],w,h,x,hx=>by
  simp only[splitC,List.mem_singleton]at h
  subst h
  cases hx
 |y::r,w,h,x,hx=>by
  have ih:=splitC_mem c r
  unfold splitC at h
  split at h
  ·rcases List.mem_cons.mp h with h|h
   ·subst h; cases hx
   ·exact List.mem_cons_of_mem _ (ih w h x hx)
  ·split at h
   ·rw[List.mem_singleton]at h
    subst h
    rw[List.mem_singleton]at hx; rw[hx]; exact List.mem_cons_self
   ·rename_i p ps e
    rcases List.mem_cons.mp h with h|h
    ·subst h
     rcases List.mem_cons.mp hx with z|z
     ·rw[z]; exact List.mem_cons_self
     ·exact List.mem_cons_of_mem _ (ih p (by rw[e]; exact List.mem_cons_self) x z)
    ·exact List.mem_cons_of_mem _ (ih w (by rw[e]; exact List.mem_cons_of_mem _ h) x hx)
noncomputable def wl(ws:List (List Nat)):Nat:=(ws.map fun w=>w.length+1).sum
theorem wl_cons(w:List Nat)(ws:List (List Nat)):wl (w::ws)=w.length+1+wl ws:=rfl
theorem wl_app(a b:List (List Nat)):wl (a++b)=wl a+wl b:=by unfold wl; rw[List.map_append,List.sum_append]
theorem wl_nil:wl []=0:=rfl
theorem wl_split(c:Nat):∀ (cs:List Nat),wl (splitC c cs)=cs.length+1
 |[]=>rfl
 |y::r=>by
  have ih:=wl_split c r
  unfold splitC
  split
  ·rw[wl_cons,ih]; simp; omega
  ·split
   ·rename_i e
    rw[e,wl_nil]at ih
    omega
   ·rename_i p ps e
    rw[e,wl_cons]at ih
    rw[wl_cons]
    simp only[List.length_cons]
    omega
theorem wl_le:∀ {ws:List (List Nat)}{w:List Nat},w∈ws→w.length+1≤wl ws
 |x::r,w,h=>by
  rw[wl_cons]
  rcases List.mem_cons.mp h with h|h
  ·rw[h]; omega
  ·have:=wl_le h; omega
theorem wl_len:∀ (ws:List (List Nat)),ws.length≤wl ws
 |[]=>Nat.zero_le _
 |w::r=>by rw[wl_cons,List.length_cons]; have:=wl_len r; omega
def Gt(B:Nat)(cs:List Nat):Prop:=(∀ c∈cs,c<128)∧cs.length≤B
theorem split_w{B:Nat}{cs:List Nat}(h:Gt B cs)(hB:B<600):∀ w∈splitC 32 cs,wOk w:=fun w hw=>by
 refine⟨fun c hc=>h.1 c (splitC_mem 32 cs w hw c hc),?_⟩
 have:=wl_le hw
 rw[wl_split]at this
 have:=h.2
 omega
theorem split_n{B:Nat}{cs:List Nat}(h:Gt B cs):(splitC 32 cs).length≤B+1:=by
 have:=wl_len (splitC 32 cs)
 rw[wl_split]at this
 have:=h.2
 omega
theorem gc_split{c:CF}{n:Nat}{τ:Sl}{st:Store}{i:Nat}{cs:List Nat}(hv:τ[i]?=some (some (.str (mk cs))))(hl:cs.length<1000000):(runK c (n+4)).ev τ st (.gc (.meth (.var i) .split [(.lit (.str " "))]))=some (.lst ((splitC 32 cs).map tD),st):=by
 refine gc_evL (n:=n+3) ?_ (nl_tD _)
 rw[xBlank]
 have my:∀ S,mty S .split (.str (mk cs))=true:=fun S=>rfl
 have sp:∀ S,mSplit S (.str (mk cs)) [.str (mk [32])]=some (.loc S.length,S++[.lst true ((splitC 32 cs).map tD)]):=fun S=>by
  show((oneOf (mk [32])).bind fun c=>if (mk cs).length<1000000 then some (alloc S (.lst true ((splitC c (mk cs).cps.toList).map fun p=>.str ⟨p.toArray⟩))) else none)=_
  rw[show oneOf (mk [32])=some 32 from rfl,mk_len,oBs,if_pos hl]
  rfl
 rw[ev_k]
 simp only[stepEv,ev_k,hv,oBs,my,if_true,evs,mfun,sp]
theorem flat_w{os:List T3}{P:List Nat→Prop}(h:∀ w∈os.flatMap tP,P w):∀ o∈os,∀ w∈tP o,P w:=fun o ho w hw=>h w (List.mem_flatMap.mpr ⟨o,ho,hw⟩)
section
variable (m:Nat)(st:Store){B:Nat}(cs:List Nat)(hg:Gt B cs)(hB:B<600)
include hg hB
theorem paper_1{a b:List (List Nat)}(h:splitC 32 cs=a++wOthers::b)(ha:wOthers ∉ a)(n:Nat):stepEx (rn fns (m+5) (n+20)) [some (.str (mk cs)),none,none] st (.set (.var 1) (.gc (.call 3 [(.gc (.meth (.var 0) .split [(.lit (.str " "))])),(.lit (.str "others"))])))=some (.nx [some (.str (mk cs)),some (.tup [.lst (a.map tD),.lst (b.map tD)]),none],st):=by
 have sp:∀ n:Nat,(rn fns (m+5) (n+4)).ev [some (.str (mk cs)),none,none] st (.gc (.meth (.var 0) .split [(.lit (.str " "))]))=some (.lst ((splitC 32 cs).map tD),st):=fun n=>gc_split rfl (by have:=hg.2; omega)
 have lo:∀ n:Nat,(rn fns (m+5) (n+1)).ev [some (.str (mk cs)),none,none] st (.lit (.str "others"))=some (tD wOthers,st):=fun n=>by rw[xOthers]; rfl
 have:∀ n:Nat,(rn fns (m+5) (n+10)).ev [some (.str (mk cs)),none,none] st (.gc (.call 3 [(.gc (.meth (.var 0) .split [(.lit (.str " "))])),(.lit (.str "others"))]))=some (.tup [.lst (a.map tD),.lst (b.map tD)],st):=fun n=>by
  refine gc_ev (n:=n+9) ?_ (np_ab a b)
  rw[ev_k]
  simp only[stepEv,evs,sp,lo,oBs,call_k]
  rw[h]
  exact parted_ok (m+4) st a b wOthers ha
 simp only[stepEx,this,oBs]
 rfl
theorem paper_2{a:List (List Nat)}{os:List T3}(hl:os.length<300)(hw:∀ o∈os,tW o)(ho:os.all tOk=true)(n:Nat):stepEx (rn fns (m+5) (n+20)) [some (.str (mk cs)),some (.tup [.lst (a.map tD),.lst ((os.flatMap tP).map tD)]),none] st (.set (.var 2) (.gc (.call 5 [(.idx (.var 1) (.lit (.int 1)))])))=some (.nx [some (.str (mk cs)),some (.tup [.lst (a.map tD),.lst ((os.flatMap tP).map tD)]),some (.tup (os.map tV))],st):=by
 have v2:∀ n:Nat,(rn fns (m+5) (n+2)).ev [some (.str (mk cs)),some (.tup [.lst (a.map tD),.lst ((os.flatMap tP).map tD)]),none] st (.idx (.var 1) (.lit (.int 1)))=some (.lst ((os.flatMap tP).map tD),st):=fun n=>rfl
 have:∀ n:Nat,(rn fns (m+5) (n+10)).ev [some (.str (mk cs)),some (.tup [.lst (a.map tD),.lst ((os.flatMap tP).map tD)]),none] st (.gc (.call 5 [(.idx (.var 1) (.lit (.int 1)))]))=some (.tup (os.map tV),st):=fun n=>by
  refine gc_ev (n:=n+9) ?_ (os_nl os)
  rw[ev_k]
  simp only[stepEv,evs,v2,oBs,call_k]
  exact others_ok m st os hl hw ho
 simp only[stepEx,this,oBs]
 rfl
theorem paper_t{a b:List (List Nat)}(oo:D)(n:Nat):(rn fns (m+5) (n+10)).tst [some (.str (mk cs)),some (.tup [.lst (a.map tD),.lst (b.map tD)]),some oo] st (.cmp .Eq (.idx (.var 1) (.lit (.int 0))) (.gc (.lst [(.lit (.str "open"))])))=some (a==[wOpen],st):=by
 have v2:∀ n:Nat,(rn fns (m+5) (n+2)).ev [some (.str (mk cs)),some (.tup [.lst (a.map tD),.lst (b.map tD)]),some oo] st (.idx (.var 1) (.lit (.int 0)))=some (.lst (a.map tD),st):=fun n=>rfl
 rw[tst_k]
 simp only[stepTst,v2,gcL1 xOpen,oBs,cmpD,eq_ts,oMs]
theorem paper_w{a b:List (List Nat)}(h:splitC 32 cs=a++wOthers::b):(∀ w∈a,wOk w)∧(∀ w∈b,wOk w)∧a.length<601∧b.length<601:=by
 have h1:=split_w hg hB
 have h2:=split_n hg
 rw[h]at h1 h2
 simp only[List.length_append,List.length_cons]at h2
 exact⟨fun w hw=>h1 w (by simp[hw]),fun w hw=>h1 w (by simp[hw]),by omega,by omega⟩
theorem paper_ok{d:D}(h:papO (splitC 32 cs)=some d):callD fns (m+6) 8 [.str (mk cs)] st=some (d,st):=by
 unfold papO at h
 obtain⟨⟨a,b⟩,h1,h⟩:=Option.bind_eq_some_iff.mp h
 obtain⟨os,h2,h⟩:=Option.bind_eq_some_iff.mp h
 obtain⟨e1,n1⟩:=cutAt_some h1
 have e2:b=os.flatMap tP:=thr_some h2
 obtain⟨wa,wb,la,lb⟩:=paper_w cs hg hB e1
 subst e2
 rw[flat_len]at lb
 split at h
 ·rename_i ho
  refine call_of (0+20) (F:=f_read_paper) rfl rfl rfl ?_
  show exs (stepEx (rn fns (m+5) (0+20))) b_read_paper [some (.str (mk cs)),none,none] st=_
  unfold b_read_paper
  rw[exs_cons (paper_1 m st cs hg hB e1 n1 0),exs_cons (paper_2 m st cs hg hB (by omega) (flat_w (P:=wOk) wb) ho 0)]
  split at h
  ·rename_i hop
   cases h
   have hop:a=[wOpen]:=hop
   refine exs_ret ((stepEx_ite_t (st':=st) (by rw[paper_t m st cs hg hB,hop]; rfl)).trans ?_)
   rw[ex_k]
   refine exs_ret ?_
   rw[xOpen]
   rfl
  ·rename_i hop
   have hop:¬ a=[wOpen]:=hop
   rw[exs_cons (τ':=[some (.str (mk cs)),some (.tup [.lst (a.map tD),.lst ((os.flatMap tP).map tD)]),some (.tup (os.map tV))]) (s':=st) (by
    refine(stepEx_ite_f (st':=st) ?_).trans rfl
    rw[paper_t m st cs hg hB,show(a==[wOpen])=false by simpa using hop])]
   obtain⟨⟨q1,q2⟩,h3,h4⟩:=Option.bind_eq_some_iff.mp h
   obtain⟨e3,n3⟩:=cutAt_some h3
   refine exs_ret ?_
   have v0:∀ n:Nat,(rn fns (m+5) (n+2)).ev [some (.str (mk cs)),some (.tup [.lst (a.map tD),.lst ((os.flatMap tP).map tD)]),some (.tup (os.map tV))] st (.idx (.var 1) (.lit (.int 0)))=some (.lst (a.map tD),st):=fun n=>rfl
   have v1:∀ n:Nat,(rn fns (m+5) (n+2)).ev [some (.str (mk cs)),some (.tup [.lst (a.map tD),.lst ((os.flatMap tP).map tD)]),some (.tup (os.map tV))] st (.var 2)=some (.tup (os.map tV),st):=fun n=>rfl
   have hh:callD fns (m+5) 7 [.lst (a.map tD),.tup (os.map tV)] st=some (d,st):=by
    have e3:a=q1++wYears::q2:=e3
    rw[e3]at wa la ⊢
    simp only[List.length_append,List.length_cons]at la
    exact held_ok m st q1 q2 _ (fun w hw=>wa w (by simp[hw])) (fun w hw=>wa w (by simp[hw])) (by omega) n3 h4
   simp only[stepEx]
   rw[ev_k]
   simp only[stepEv,evs,v0,v1,oBs,call_k,hh,oMs]
 ·cases h
theorem paper_x(h:papO (splitC 32 cs)=none):Xc (m+6) 8 [.str (mk cs)] st st:=by
 refine xc_of (F:=f_read_paper) rfl rfl rfl rfl ?_
 show XS fns (m+5) _ [some (.str (mk cs)),none,none] st b_read_paper st
 unfold papO at h
 cases h1:cutAt wOthers (splitC 32 cs) with
 |none=>
  have sp:∀ n:Nat,(rn fns (m+5) (n+4)).ev [some (.str (mk cs)),none,none] st (.gc (.meth (.var 0) .split [(.lit (.str " "))]))=some (.lst ((splitC 32 cs).map tD),st):=fun n=>gc_split rfl (by have:=hg.2; omega)
  have lo:∀ n:Nat,(rn fns (m+5) (n+1)).ev [some (.str (mk cs)),none,none] st (.lit (.str "others"))=some (tD wOthers,st):=fun n=>by rw[xOthers]; rfl
  exact .set rfl (.gc (.call (0+9) (ds:=[.lst ((splitC 32 cs).map tD),tD wOthers]) (st1:=st) (by simp only[evs,sp,lo,oBs]) (parted_x (m+4) st _ _ (cutAt_none h1))))
 |some p=>
  obtain⟨a,b⟩:=p
  rw[h1,oBs]at h
  obtain⟨e1,n1⟩:=cutAt_some h1
  obtain⟨wa,wb,la,lb⟩:=paper_w cs hg hB e1
  refine .next _ (paper_1 m st cs hg hB e1 n1 0) ?_
  cases h2:thr b with
  |none=>exact .set rfl (.gc (.call (0+9) (ds:=[.lst (b.map tD)]) (st1:=st) rfl (others_x3 (m+4) st b (thr_none h2))))
  |some os=>
   have e2:b=os.flatMap tP:=thr_some h2
   subst e2
   rw[flat_len]at lb
   simp only[h2,oBs]at h
   by_cases ho:os.all tOk=true
   ·rw[if_pos ho]at h
    refine .next _ (paper_2 m st cs hg hB (by omega) (flat_w (P:=wOk) wb) ho 0) ?_
    split at h
    ·cases h
    ·rename_i hop
     refine .next (0+20) (τ1:=[some (.str (mk cs)),some (.tup [.lst (a.map tD),.lst ((os.flatMap tP).map tD)]),some (.tup (os.map tV))]) (st1:=st) (by
      refine(stepEx_ite_f (st':=st) ?_).trans rfl
      rw[paper_t m st cs hg hB,show(a==[wOpen])=false by simpa using hop]) ?_
     refine .ret (.call (0+9) (ds:=[.lst (a.map tD),.tup (os.map tV)]) (st1:=st) rfl ?_)
     cases h3:cutAt wYears a with
     |none=>
      refine xc_of (F:=f_read_held) rfl rfl rfl rfl ?_
      exact .set rfl (.gc (.call (0+9) (ds:=[.lst (a.map tD),tD wYears]) (st1:=st) (by rw[xYears]; rfl) (parted_x (m+3) st _ _ (cutAt_none h3))))
     |some q=>
      obtain⟨q1,q2⟩:=q
      rw[h3,oBs]at h
      obtain⟨e3,n3⟩:=cutAt_some h3
      rw[e3]at wa la ⊢
      simp only[List.length_append,List.length_cons]at la
      exact held_x m st q1 q2 _ (fun w hw=>wa w (by simp[hw])) (fun w hw=>wa w (by simp[hw])) (by omega) n3 h
   ·have ho:os.all tOk=false:=by simpa using ho
    exact .set rfl (.gc (.call (0+9) (ds:=[.lst ((os.flatMap tP).map tD)]) (st1:=st) rfl (others_x m st os (by omega) (flat_w (P:=wOk) wb) ho)))
end
theorem loop_go{f:Sl→Store→D→Option (Out×Store)}{s:Src}{ds:List D}{i0:Nat}(P:Nat→Sl→Store→Prop)(hat:∀ i τ st,P i τ st→s.at st i=some ds[i]?)(hi0:i0≤ds.length)
  (hs:∀ i τ st d,i<i0→ds[i]?=some d→P i τ st→∃ τ' st',f τ st d=some (.nx τ',st')∧P (i+1) τ' st') (k:Nat):∀ (q i:Nat) (τ:Sl) (st:Store),i+q=i0→P i τ st→∃ τ' st',P i0 τ' st'∧loop s f (q+k) i τ st=loop s f k i0 τ' st'
 |0,i,τ,st,h,p=>⟨τ,st,by rw[← h]; exact p,by rw[Nat.zero_add,← h]; rfl⟩
 |q+1,i,τ,st,h,p=>by
  have hi:i<ds.length:=by omega
  obtain⟨τ1,st1,e1,p1⟩:=hs i τ st ds[i] (by omega) (by simp) p
  obtain⟨τ',st',p',e'⟩:=loop_go P hat hi0 hs k q (i+1) τ1 st1 (by omega) p1
  refine⟨τ',st',p',?_⟩
  rw[Nat.add_right_comm,loop,hat i τ st p,List.getElem?_eq_getElem hi]
  simp only[oBs,e1]
  exact e'
theorem loop_all{f:Sl→Store→D→Option (Out×Store)}{s:Src}{ds:List D}(P:Nat→Sl→Store→Prop)(hat:∀ i τ st,P i τ st→s.at st i=some ds[i]?)
  (hs:∀ i τ st d,i<ds.length→ds[i]?=some d→P i τ st→∃ τ' st',f τ st d=some (.nx τ',st')∧P (i+1) τ' st'){τ:Sl}{st:Store}(p:P 0 τ st):∃ τ' st',P ds.length τ' st'∧loop s f (ds.length+1) 0 τ st=some (.nx τ',st'):=by
 obtain⟨τ',st',p',e⟩:=loop_go P hat (Nat.le_refl _) hs 1 ds.length 0 τ st (by omega) p
 refine⟨τ',st',p',e.trans ?_⟩
 rw[loop,hat _ _ _ p',List.getElem?_eq_none (Nat.le_refl _)]
 rfl
theorem loop_rt{f:Sl→Store→D→Option (Out×Store)}{s:Src}{ds:List D}{i0:Nat}(P:Nat→Sl→Store→Prop)(Q:Store→Prop)(v:D)(hat:∀ i τ st,P i τ st→s.at st i=some ds[i]?)(hi0:i0<ds.length)
  (hs:∀ i τ st d,i<i0→ds[i]?=some d→P i τ st→∃ τ' st',f τ st d=some (.nx τ',st')∧P (i+1) τ' st') (hr:∀ τ st d,ds[i0]?=some d→P i0 τ st→∃ st',f τ st d=some (.rt v,st')∧Q st'){τ:Sl}{st:Store}(p:P 0 τ st):∃ st',Q st'∧loop s f (ds.length+1) 0 τ st=some (.rt v,st'):=by
 obtain⟨τ',st',p',e⟩:=loop_go P hat (Nat.le_of_lt hi0) hs (ds.length - i0+1) i0 0 τ st (by omega) p
 rw[show i0+(ds.length - i0+1)=ds.length+1 by omega]at e
 obtain⟨st2,e2,q2⟩:=hr τ' st' ds[i0] (by simp) p'
 refine⟨st2,q2,e.trans ?_⟩
 rw[loop,hat _ _ _ p',List.getElem?_eq_getElem hi0]
 simp only[oBs,e2]
theorem first_bad{α:Type}(p:α→Bool):∀ xs:List α,xs.all p=false→∃ (i:Nat) (x:α),xs[i]?=some x∧p x=false∧∀ (j:Nat) (y:α),j<i→xs[j]?=some y→p y=true
 |[],h=>by cases h
 |a::r,h=>by
  by_cases ha:p a=true
  ·obtain⟨i,o,h1,h2,h3⟩:=first_bad p r (by simpa[ha] using h)
   refine⟨i+1,o,h1,h2,fun j o' hj e=>?_⟩
   cases j with
   |zero=>cases e; exact ha
   |succ j=>exact h3 j o' (by omega) e
  ·exact⟨0,a,rfl,by simpa using ha,fun j _ hj=>by omega⟩
theorem find_y{c:Nat}(h:isFig c=true):findC digs c=((c - 48:Nat):Int):=by
 unfold isFig at h
 simp only[Bool.and_eq_true,decide_eq_true_eq]at h
 have:c=48∨c=49∨c=50∨c=51∨c=52∨c=53∨c=54∨c=55∨c=56∨c=57:=by omega
 rcases this with h|h|h|h|h|h|h|h|h|h<;>subst h<;>rfl
theorem find_n{c:Nat}(h:isFig c=false):findC digs c=-1:=by
 unfold findC
 have:digs.findIdx? (· == c)=none:=by
  rw[List.findIdx?_eq_none_iff]
  intro x hx
  rw[beq_eq_false_iff_ne]
  intro z
  rw[← fig_in,decide_eq_false_iff_not]at h
  exact h (z▸hx)
 rw[this]
theorem fig_snoc(xs:List Nat)(c:Nat):figVal (xs++[c])=figVal xs*10+(c - 48):=by unfold figVal; rw[List.foldl_append]; rfl
section
variable (m:Nat)(st:Store)(cs:List Nat)
noncomputable def nbody:List S:=[.set (.var 3) (.meth (.lit (.str "0123456789")) .find [(.var 2)]),.ite (.cmp .Lt (.var 3) (.lit (.int 0))) [.ret (.lit .non)] [],.set (.var 1) (.bin .Add (.bin .Mult (.var 1) (.lit (.int 10))) (.var 3))]
theorem nbody_ok(n:Nat)(k:Int)(a:D)(y:Option D)(c:Nat):(rn fns m (n+20)).ex [some a,some (.int k),some (sgn c),y] st nbody=some (if isFig c=true then .nx [some a,some (.int (k*10+((c - 48:Nat):Int))),some (sgn c),some (.int ((c - 48:Nat):Int))] else .rt .non,st):=by
 rw[ex_k]
 unfold nbody
 have fi:∀ S,mFind S (.str (mk digs)) [sgn c]=some (.int (findC digs c),S):=fun S=>rfl
 have my:∀ S,mty S .find (.str (mk digs))=true:=fun S=>rfl
 rw[exs_cons (τ':=[some a,some (.int k),some (sgn c),some (.int (findC digs c))]) (s':=st) (by
  rw[td]
  simp only[stepEx,ev_k,stepEv,my,if_true,evs,List.getElem?_cons_succ,List.getElem?_cons_zero,oBs,mfun,fi]
  rfl)]
 by_cases h:isFig c=true
 ·rw[if_pos h,find_y h]
  have lt:decide (((c - 48:Nat):Int)<0)=false:=by rw[decide_eq_false_iff_not]; omega
  rw[exs_cons (τ':=[some a,some (.int k),some (sgn c),some (.int ((c - 48:Nat):Int))]) (s':=st) (by
   refine(stepEx_ite_f (st':=st) ?_).trans rfl
   simp only[tst_k,stepTst,ev_k,stepEv,List.getElem?_cons_succ,List.getElem?_cons_zero,oBs,cmpD,oMs,lt])]
  rw[exs_cons (τ':=[some a,some (.int (k*10+((c - 48:Nat):Int))),some (sgn c),some (.int ((c - 48:Nat):Int))]) (s':=st) (by
   simp only[stepEx,ev_k,stepEv,List.getElem?_cons_succ,List.getElem?_cons_zero,oBs,bMu st k (b:=10) (by omega) (by omega),pA]
   rfl)]
  rfl
 ·have h:isFig c=false:=by simpa using h
  rw[if_neg (by rw[h]; exact Bool.false_ne_true),find_n h]
  refine exs_ret ((stepEx_ite_t (st':=st) ?_).trans ?_)
  ·simp only[tst_k,stepTst,ev_k,stepEv,List.getElem?_cons_succ,List.getElem?_cons_zero,oBs,cmpD,oMs]
   rfl
  ·rw[ex_k]
   exact exs_ret rfl
theorem lnum_ok(hw:wOk cs):callD fns (m+1) 11 [tD cs] st=some (numV cs,st):=by
 refine call_of (0+24) (F:=f_law_number) rfl rfl rfl ?_
 show exs (stepEx (rn fns m (0+24))) b_law_number [some (.str (mk cs)),none,none,none] st=_
 unfold b_law_number
 have hli:¬ lim<(mk cs).length:=by rw[mk_len]; unfold lim; have:=hw.2; omega
 have ln:∀ S,bLen S [.str (mk cs)]=some (.int (cs.length:Int),S):=fun S=>by
  simp only[bLen]
  rw[if_neg hli,mk_len]
 have t1:∀ n:Nat,(rn fns m (n+10)).tst [some (.str (mk cs)),none,none,none] st (.or (.cmp .Eq (.var 0) (.lit (.str ""))) (.and (.cmp .Gt (.bcall .len [(.var 0)]) (.lit (.int 1))) (.cmp .Eq (.idx (.var 0) (.lit (.int 0))) (.lit (.str "0")))))=some (cs.isEmpty||(cs.head?==some 48 && !(cs==[48])),st):=fun n=>by
  have e0:(mk cs==mk [])=cs.isEmpty:=by rw[mk_beq]; cases cs<;>rfl
  have a1:∀ n:Nat,(rn fns m (n+3)).tst [some (.str (mk cs)),none,none,none] st (.cmp .Eq (.var 0) (.lit (.str "")))=some (cs.isEmpty,st):=fun n=>tCmp (x:=.str (mk cs)) (y:=.str (mk [])) rfl (by rw[te]; rfl) (by simp only[cmpD,eqD_ss,e0])
  have a2:∀ n:Nat,(rn fns m (n+5)).tst [some (.str (mk cs)),none,none,none] st (.cmp .Gt (.bcall .len [(.var 0)]) (.lit (.int 1)))=some (decide ((1:Int)<(cs.length:Int)),st):=fun n=>tCmp (x:=.int (cs.length:Int)) (y:=.int 1) (by rw[ev_k]; exact ln st) rfl rfl
  rw[tst_k]
  simp only[stepTst,a1,oBs]
  cases cs with
  |nil=>rfl
  |cons c r=>
   simp only[List.isEmpty_cons,Bool.false_eq_true,if_false,Bool.false_or]
   rw[tst_k]
   simp only[stepTst,a2,oBs]
   cases r with
   |nil=>
    have:decide ((1:Int)<(([c]:List Nat).length:Int))=false:=by simp
    rw[this]
    show some (false,st)=_
    congr 2
    by_cases hc:c=48
    ·subst hc; rfl
    ·simp[hc]
   |cons c' r'=>
    have:decide ((1:Int)<((c::c'::r':List Nat).length:Int))=true:=by simp; omega
    have hix:∀ S,idxD S (.str (mk (c::c'::r'))) (.int 0)=some (.str (mk [c])):=fun S=>by
     simp only[idxD,hli,if_false,mk_cps,at0]
     rfl
    have hm:(mk [c]==mk [48])=(c==48):=by rw[mk_beq]; simp[Bool.eq_iff_iff]
    have a3:∀ n:Nat,(rn fns m (n+5)).tst [some (.str (mk (c::c'::r'))),none,none,none] st (.cmp .Eq (.idx (.var 0) (.lit (.int 0))) (.lit (.str "0")))=some (c==48,st):=fun n=>tCmp (x:=.str (mk [c])) (y:=.str (mk [48])) (evX (x:=.str (mk (c::c'::r'))) (y:=.int 0) rfl rfl (hix st)) (by rw[t0]; rfl) (by simp only[cmpD,eqD_ss,hm])
    rw[this,if_pos rfl,a3]
    congr 2
    rw[show((c::c'::r')==[48])=false by simp]
    show(c==48)=((some c==some 48) && !false)
    rw[Bool.not_false,Bool.and_true]
    rfl
 by_cases h1:(cs.isEmpty||(cs.head?==some 48 && !(cs==[48])))=true
 ·have:nOk cs=false:=by
   unfold nOk
   cases hx:cs.isEmpty with
   |true=>rfl
   |false=>
    rw[hx,Bool.false_or]at h1
    rw[h1]
    simp
  rw[numV_n this]
  refine exs_ret ((stepEx_ite_t (st':=st) (by rw[t1,h1])).trans ?_)
  rw[ex_k]
  exact exs_ret rfl
 ·have h1:(cs.isEmpty||(cs.head?==some 48 && !(cs==[48])))=false:=by simpa using h1
  rw[exs_cons (τ':=[some (.str (mk cs)),none,none,none]) (s':=st) (by refine(stepEx_ite_f (st':=st) ?_).trans rfl; rw[t1,h1])]
  rw[exs_cons (τ':=[some (.str (mk cs)),some (.int 0),none,none]) (s':=st) rfl]
  rw[Bool.or_eq_false_iff]at h1
  have hn:nOk cs=cs.all isFig:=by
   unfold nOk
   rw[h1.1,h1.2]
   simp
  have sr:∀ n:Nat,src (rn fns m (n+2)) [some (.str (mk cs)),some (.int 0),none,none] st (.var 0)=some (.str (mk cs),st):=fun n=>by
   show(if (mk cs).cps.all (· < 128) then some (Src.str (mk cs),st) else none)=_
   rw[mk_ascii hw.1]
   rfl
  have fr:∀ (P:Out×Store→Prop) (n:Nat),(∃ z,P z∧loop (.str (mk cs)) (fun τ st d=>(setT (.var 2) d τ).bind fun τ'=>(rn fns m (n+22)).ex τ' st nbody) ((cs.map sgn).length+1) 0 [some (.str (mk cs)),some (.int 0),none,none] st=some z)→∃ z,P z∧stepEx (rn fns m (n+22)) [some (.str (mk cs)),some (.int 0),none,none] st (.forr (.var 2) (.var 0) nbody)=some z:=fun P n ⟨z,hz,e⟩=>⟨z,hz,by
   simp only[stepEx,sr,oBs]
   rw[show Src.size st (.str (mk cs))=(cs.map sgn).length by simp[Src.size,mk_cps]]
   exact e⟩
  have hst:∀ (i:Nat) (τ:Sl) (S:Store) (d:D),(S=st∧∃ x y,τ=[some (.str (mk cs)),some (.int (figVal (cs.take i):Nat)),x,y])→(cs.map sgn)[i]?=some d→∃ c,cs[i]?=some c∧∀ n,(setT (.var 2) d τ).bind (fun τ'=>(rn fns m (n+22)).ex τ' S nbody)=some (if isFig c=true then .nx [some (.str (mk cs)),some (.int (figVal (cs.take (i+1)):Nat)),some (sgn c),some (.int ((c - 48:Nat):Int))] else .rt .non,st):=by
   rintro i τ S d ⟨rfl,x,y,rfl⟩ hd
   rw[List.getElem?_map]at hd
   obtain⟨c,hc,e⟩:=Option.map_eq_some_iff.mp hd
   subst e
   refine⟨c,hc,fun n=>?_⟩
   show(rn fns m (n+22)).ex [some (.str (mk cs)),some (.int (figVal (cs.take i):Nat)),some (sgn c),y] S nbody=_
   rw[nbody_ok m S (n+2)]
   by_cases hf:isFig c=true
   ·rw[if_pos hf,if_pos hf,List.take_add_one,hc]
    simp only[Option.toList_some]
    rw[fig_snoc]
    simp
   ·rw[if_neg hf,if_neg hf]
  cases ha:cs.all isFig with
  |true=>
   rw[ha]at hn
   rw[numV_y hn]
   obtain⟨z,⟨x,y,rfl⟩,e⟩:=fr (fun z=>∃ x y,z=(.nx [some (.str (mk cs)),some (.int (figVal cs:Nat)),x,y],st)) 2 (by
    obtain⟨τ',st',⟨rfl,x,y,rfl⟩,e⟩:=loop_all (ds:=cs.map sgn) (s:=.str (mk cs)) (f:=fun τ st d=>(setT (.var 2) d τ).bind fun τ'=>(rn fns m (2+22)).ex τ' st nbody) (τ:=[some (.str (mk cs)),some (.int 0),none,none]) (st:=st) (fun i τ S=>S=st∧∃ x y,τ=[some (.str (mk cs)),some (.int (figVal (cs.take i):Nat)),x,y]) (fun i τ S _=>at_str _ _ _) (fun i τ S d hi hd p=>by
     obtain⟨c,hc,q⟩:=hst i τ S d p hd
     rw[q 2,if_pos (List.all_eq_true.mp ha c (List.mem_of_getElem? hc))]
     exact⟨_,_,rfl,rfl,_,_,rfl⟩) ⟨rfl,none,none,rfl⟩
    refine⟨_,⟨x,y,?_⟩,e⟩
    rw[List.take_of_length_le (by simp)])
   exact(exs_cons (b:=[.ret (.var 1)]) e).trans (exs_ret rfl)
  |false=>
   rw[ha]at hn
   rw[numV_n hn]
   obtain⟨i0,c0,hi0,hb,hp⟩:=first_bad isFig cs ha
   obtain⟨z,rfl,e⟩:=fr (fun z=>z=(.rt .non,st)) 2 (by
    obtain⟨st',rfl,e⟩:=loop_rt (ds:=cs.map sgn) (s:=.str (mk cs)) (f:=fun τ st d=>(setT (.var 2) d τ).bind fun τ'=>(rn fns m (2+22)).ex τ' st nbody) (i0:=i0) (τ:=[some (.str (mk cs)),some (.int 0),none,none]) (st:=st) (fun i τ S=>S=st∧∃ x y,τ=[some (.str (mk cs)),some (.int (figVal (cs.take i):Nat)),x,y]) (fun S=>S=st) .non (fun i τ S _=>at_str _ _ _) (by rw[List.length_map]; exact(List.getElem?_eq_some_iff.mp hi0).1) (fun i τ S d hi hd p=>by
     obtain⟨c,hc,q⟩:=hst i τ S d p hd
     rw[q 2,if_pos (hp i c hi hc)]
     exact⟨_,_,rfl,rfl,_,_,rfl⟩) (fun τ S d hd p=>by
     obtain⟨c,hc,q⟩:=hst i0 τ S d p hd
     rw[hi0]at hc
     cases hc
     rw[q 2,if_neg (by rw[hb]; exact Bool.false_ne_true)]
     exact⟨st,rfl,rfl⟩) ⟨rfl,none,none,rfl⟩
    exact⟨_,rfl,e⟩)
   exact exs_ret e
end
theorem gc_callR{c:CF}{n f:Nat}{τ:Sl}{st r:Store}{es:List E}{ds:List D}{d:D}(hes:evs ((runK c (n+1)).ev τ) es st=some (ds,st))(h:c f ds st=some (d,st++r))(hd:noLoc d=true):(runK c (n+3)).ev τ st (.gc (.call f es))=some (d,st):=by
 show((runK c (n+2)).ev τ st (.call f es)).map (fun p=>gcD st p)=_
 rw[ev_k]
 simp only[stepEv,hes,oBs,call_k,h,oMs,gc_app hd]
noncomputable def numsV(ws:List (List Nat)):D:=if ws.all nOk=true then .lst (ws.map numV) else .non
theorem numsV_nl(ws:List (List Nat)):noLoc (numsV ws)=true:=by
 unfold numsV
 split
 ·rw[noLoc_lst]; exact nl_num ws
 ·rfl
section
variable {m:Nat}{st:Store}{ws:List (List Nat)}(hw:∀ w∈ws,wOk w)(hl:ws.length<1000)
include hw hl
theorem lnums_ok:callD fns (m+2) 12 [.lst (ws.map tD)] st=some (numsV ws,st):=by
 refine call_of (0+20) (F:=f_law_numbers) rfl rfl rfl ?_
 show exs (stepEx (rn fns (m+1) (0+20))) b_law_numbers [some (.lst (ws.map tD)),none] st=_
 unfold b_law_numbers
 have c1:∀ n:Nat,(rn fns (m+1) (n+10)).ev [some (.lst (ws.map tD)),none] st (.gc (.comp (.var 0) (.var 0) none (.gc (.call 11 [(.var 0)])) [none]))=some (.lst (ws.map numV),st):=fun n=>by
  refine gc_comp (n:=n+8) (s:=.lst (.lst (ws.map tD))) (rest:=[]) ws tD numV (src_lst rfl) (fun i=>at_lst' _ _) (by rw[size_lst']; simp) rfl (by omega) (fun w _=>numV_nl w) fun w hw'=>?_
  refine gc_ev (n:=n+7) ?_ (numV_nl w)
  have:=lnum_ok m st w (hw w hw')
  simp only[ev_k,stepEv,evs,List.getElem?_cons_zero,oBs,call_k]
  exact this
 rw[exs_cons (τ':=[some (.lst (ws.map tD)),some (.lst (ws.map numV))]) (s':=st) (by simp only[stepEx,c1,oBs]; rfl)]
 have c2:∀ n:Nat,(rn fns (m+1) (n+10)).ev [some (.lst (ws.map tD)),some (.lst (ws.map numV))] st (.gc (.comp (.var 0) (.var 1) none (.cmp .Is (.var 0) (.lit .non)) [none]))=some (.lst (ws.map fun w=>.bl (!nOk w)),st):=fun n=>by
  refine gc_comp (n:=n+8) (s:=.lst (.lst (ws.map numV))) (rest:=[]) ws numV (fun w=>.bl (!nOk w)) (src_lst rfl) (fun i=>at_lst' _ _) (by rw[size_lst']; simp) rfl (by omega) (fun w _=>rfl) fun w hw'=>?_
  simp only[ev_k,stepEv,List.getElem?_cons_zero,oBs]
  cases h:nOk w with
  |true=>rw[numV_y h]; rfl
  |false=>rw[numV_n h]; rfl
 have ab:∀ S,bAny S [.lst (ws.map fun w=>D.bl (!nOk w))]=some (.bl (!ws.all nOk),S):=fun S=>by
  have e1:∀ xs:List (List Nat),asBools (xs.map fun w=>D.bl (!nOk w))=some (xs.map fun w=>!nOk w):=fun xs=>by
   induction xs with
   |nil=>rfl
   |cons x r ih=>simp only[List.map_cons,asBools,ih,oMs]
  show((asBools (ws.map fun w=>D.bl (!nOk w))).map fun bs=>(D.bl (bs.any id),S))=_
  rw[e1,oMs,List.any_map]
  congr 3
  rw[Bool.eq_iff_iff,List.any_eq_true,Bool.not_eq_true',List.all_eq_false]
  simp
 have t1:∀ n:Nat,(rn fns (m+1) (n+13)).tst [some (.lst (ws.map tD)),some (.lst (ws.map numV))] st (.bcall .any [(.gc (.comp (.var 0) (.var 1) none (.cmp .Is (.var 0) (.lit .non)) [none]))])=some (!ws.all nOk,st):=fun n=>by
  rw[tst_k]
  simp only[stepTst]
  rw[ev_k]
  simp only[stepEv,evs,c2,oBs,bfun,ab,truth,oMs]
 unfold numsV
 cases ha:ws.all nOk with
 |true=>
  rw[exs_cons (τ':=[some (.lst (ws.map tD)),some (.lst (ws.map numV))]) (s':=st) (by refine(stepEx_ite_f (st':=st) ?_).trans rfl; rw[t1,ha]; rfl)]
  exact exs_ret rfl
 |false=>
  refine exs_ret ((stepEx_ite_t (st':=st) (by rw[t1,ha]; rfl)).trans ?_)
  rw[ex_k]
  exact exs_ret rfl
end
noncomputable def partV(w:List Nat)(ws:List (List Nat)):D:=match cutAt w ws with
 |some (a,b)=>.tup [.lst (a.map tD),.lst (b.map tD)]
 |none=>.tup [.lst (ws.map tD),.non]
theorem partV_nl(w:List Nat)(ws:List (List Nat)):noLoc (partV w ws)=true:=by
 unfold partV
 split
 ·exact np_ab _ _
 ·rw[noLoc_tup,noLocs_cons,noLoc_lst,nl_tD]; rfl
section
variable (m:Nat)(st:Store)(ws:List (List Nat))(w:List Nat)(hl:ws.length<1000)
noncomputable def pbody:List S:=[.ite (.cmp .Eq (.idx (.var 0) (.var 2)) (.var 1)) [.ret (.tup [(.gc (.sli (.var 0) none (some (.var 2)))),(.gc (.sli (.var 0) (some (.bin .Add (.var 2) (.lit (.int 1)))) none))])] []]
theorem pbody_ok(n i:Nat)(x:List Nat)(h:ws[i]?=some x):(rn fns m (n+20)).ex [some (.lst (ws.map tD)),some (tD w),some (.int (i:Int))] st pbody=some (if x=w then .rt (.tup [.lst ((ws.take i).map tD),.lst ((ws.drop (i+1)).map tD)]) else .nx [some (.lst (ws.map tD)),some (tD w),some (.int (i:Int))],st):=by
 rw[ex_k]
 unfold pbody
 have hx:∀ S,idxD S (.lst (ws.map tD)) (.int (i:Int))=some (tD x):=fun S=>by
  have hi:=(List.getElem?_eq_some_iff.mp h).1
  show atI (ws.map tD) (i:Int)=_
  unfold atI ixN
  rw[List.length_map,if_pos (by omega),if_pos (by omega),oBs,Int.toNat_natCast,List.getElem?_map,h]
  rfl
 have t1:∀ n:Nat,(rn fns m (n+5)).tst [some (.lst (ws.map tD)),some (tD w),some (.int (i:Int))] st (.cmp .Eq (.idx (.var 0) (.var 2)) (.var 1))=some (decide (x=w),st):=fun n=>tCmp (x:=tD x) (y:=tD w) (evX (x:=.lst (ws.map tD)) (y:=.int (i:Int)) rfl rfl (hx st)) rfl (by
  show cmpD st .Eq (.str (mk x)) (.str (mk w))=_
  simp only[cmpD,eqD_ss,mk_beq]
  congr 1
  rw[Bool.eq_iff_iff,beq_iff_eq,decide_eq_true_iff])
 by_cases e:x=w
 ·rw[if_pos e]
  refine exs_ret ((stepEx_ite_t (st':=st) (by rw[t1,decide_eq_true e])).trans ?_)
  rw[ex_k]
  refine exs_ret ?_
  have s1:∀ n:Nat,(rn fns m (n+10)).ev [some (.lst (ws.map tD)),some (tD w),some (.int (i:Int))] st (.gc (.sli (.var 0) none (some (.var 2))))=some (.lst ((ws.take i).map tD),st):=fun n=>by
   have:=gc_sli (c:=callD fns m) (n:=n+8) (τ:=[some (.lst (ws.map tD)),some (tD w),some (.int (i:Int))]) (st:=st) (a:=.var 0) (lo:=none) (hi:=some (.var 2)) (xs:=ws.map tD) (l:=none) (h:=some (i:Int)) rfl rfl rfl (by rw[cutTk,← List.map_take]; exact nl_tD _)
   rw[cutTk,← List.map_take]at this
   exact this
  have s2:∀ n:Nat,(rn fns m (n+10)).ev [some (.lst (ws.map tD)),some (tD w),some (.int (i:Int))] st (.gc (.sli (.var 0) (some (.bin .Add (.var 2) (.lit (.int 1)))) none))=some (.lst ((ws.drop (i+1)).map tD),st):=fun n=>by
   have:=gc_sli (c:=callD fns m) (n:=n+8) (τ:=[some (.lst (ws.map tD)),some (tD w),some (.int (i:Int))]) (st:=st) (a:=.var 0) (lo:=some (.bin .Add (.var 2) (.lit (.int 1)))) (hi:=none) (xs:=ws.map tD) (l:=some ((i+1:Nat):Int)) (h:=none) rfl rfl rfl (by rw[cutDr,← List.map_drop]; exact nl_tD _)
   rw[cutDr,← List.map_drop]at this
   exact this
  simp only[stepEx,ev_k (n:=n+17),stepEv,evs,s1,s2,oBs,oMs]
  rfl
 ·rw[if_neg e,exs_cons (τ':=[some (.lst (ws.map tD)),some (tD w),some (.int (i:Int))]) (s':=st) (by refine(stepEx_ite_f (st':=st) ?_).trans rfl; rw[t1,decide_eq_false e])]
  rfl
include hl
theorem part_ok:callD fns (m+1) 17 [.lst (ws.map tD),tD w] st=some (partV w ws,st):=by
 refine call_of (0+24) (F:=f_law_part_of) rfl rfl rfl ?_
 show exs (stepEx (rn fns m (0+24))) (.forr (.var 2) (.rng1 (.bcall .len [(.var 0)])) pbody::[.ret (.tup [(.var 0),(.lit .non)])]) [some (.lst (ws.map tD)),some (tD w),none] st=_
 have ln:∀ S,bLen S [.lst (ws.map tD)]=some (.int ((ws.length:Nat):Int),S):=fun S=>by simp only[bLen,seqAt,oMs,List.length_map]
 have hb:big (ws.length:Int)=false:=by unfold big; simp; omega
 have sr:∀ n:Nat,src (rn fns m (n+3)) [some (.lst (ws.map tD)),some (tD w),none] st (.rng1 (.bcall .len [(.var 0)]))=some (.rng 0 ws.length,st):=fun n=>by
  simp only[src,ev_k,stepEv,evs,List.getElem?_cons_zero,oBs,bfun,ln,hb]
  rfl
 have hat:∀ i S,(Src.rng 0 ws.length).at S i=some ((List.range ws.length).map fun(j:Nat)=>D.int (0+j))[i]?:=fun i S=>at_rng 0 ws.length i
 have hlen:((List.range ws.length).map fun(j:Nat)=>D.int (0+j)).length=ws.length:=by simp
 have hst:∀ (i:Nat) (τ:Sl) (S:Store) (d:D),(S=st∧∃ y,τ=[some (.lst (ws.map tD)),some (tD w),y])→((List.range ws.length).map fun(j:Nat)=>D.int (0+j))[i]?=some d→∃ x,ws[i]?=some x∧(setT (.var 2) d τ).bind (fun τ'=>(rn fns m (0+24)).ex τ' S pbody)=some (if x=w then .rt (.tup [.lst ((ws.take i).map tD),.lst ((ws.drop (i+1)).map tD)]) else .nx [some (.lst (ws.map tD)),some (tD w),some (.int (i:Int))],st):=by
  rintro i τ S d ⟨rfl,y,rfl⟩ hd
  have hi:i<ws.length:=by have:=(List.getElem?_eq_some_iff.mp hd).1; rwa [hlen]at this
  rw[List.getElem?_map,List.getElem?_range hi]at hd
  cases hd
  refine⟨ws[i],by simp,?_⟩
  have:=pbody_ok m S ws w 4 i ws[i] (by simp)
  show(rn fns m (0+24)).ex [some (.lst (ws.map tD)),some (tD w),some (.int (0+(i:Int)))] S pbody=_
  rw[Int.zero_add]
  exact this
 have sz:Src.size st (.rng 0 ws.length)=((List.range ws.length).map fun(j:Nat)=>D.int (0+j)).length:=by rw[hlen]; rfl
 unfold partV
 cases hc:cutAt w ws with
 |none=>
  have hn:=cutAt_none hc
  obtain⟨τ',st',⟨rfl,y,rfl⟩,e⟩:=loop_all (ds:=(List.range ws.length).map fun(j:Nat)=>D.int (0+j)) (s:=.rng 0 ws.length) (f:=fun τ S d=>(setT (.var 2) d τ).bind fun τ'=>(rn fns m (0+24)).ex τ' S pbody) (τ:=[some (.lst (ws.map tD)),some (tD w),none]) (st:=st) (fun i τ S=>S=st∧∃ y,τ=[some (.lst (ws.map tD)),some (tD w),y]) (fun i τ S _=>hat i S) (fun i τ S d hi hd p=>by
   obtain⟨x,hx,q⟩:=hst i τ S d p hd
   have hne:¬ x=w:=fun z=>hn (z▸List.mem_of_getElem? hx)
   rw[q,if_neg hne]
   exact⟨_,_,rfl,rfl,_,rfl⟩) ⟨rfl,none,rfl⟩
  rw[exs_cons (τ':=[some (.lst (ws.map tD)),some (tD w),y]) (s':=st') (by simp only[stepEx,sr,oBs,sz]; exact e)]
  exact exs_ret rfl
 |some p=>
  obtain⟨a,b⟩:=p
  obtain⟨e1,n1⟩:=cutAt_some hc
  have hal:a.length<ws.length:=by rw[e1]; simp
  obtain⟨st',rfl,e⟩:=loop_rt (ds:=(List.range ws.length).map fun(j:Nat)=>D.int (0+j)) (s:=.rng 0 ws.length) (f:=fun τ S d=>(setT (.var 2) d τ).bind fun τ'=>(rn fns m (0+24)).ex τ' S pbody) (i0:=a.length) (τ:=[some (.lst (ws.map tD)),some (tD w),none]) (st:=st) (fun i τ S=>S=st∧∃ y,τ=[some (.lst (ws.map tD)),some (tD w),y]) (fun S=>S=st) (.tup [.lst (a.map tD),.lst (b.map tD)]) (fun i τ S _=>hat i S) (by rw[hlen]; exact hal) (fun i τ S d hi hd p=>by
   obtain⟨x,hx,q⟩:=hst i τ S d p hd
   have hne:¬ x=w:=fun z=>by
    rw[e1,List.getElem?_append_left hi]at hx
    exact n1 (z▸List.mem_of_getElem? hx)
   rw[q,if_neg hne]
   exact⟨_,_,rfl,rfl,_,rfl⟩) (fun τ S d hd p=>by
   obtain⟨x,hx,q⟩:=hst a.length τ S d p hd
   have hxw:x=w:=by
    rw[e1,List.getElem?_append_right (Nat.le_refl _),Nat.sub_self]at hx
    cases hx
    rfl
   rw[q,if_pos hxw]
   refine⟨st,?_,rfl⟩
   rw[show ws.take a.length=a by rw[e1]; simp,show ws.drop (a.length+1)=b by rw[e1,← List.drop_drop]; simp]) ⟨rfl,none,rfl⟩
  refine exs_ret ?_
  simp only[stepEx,sr,oBs,sz]
  exact e
end
theorem tOr{c:CF}{n:Nat}{τ:Sl}{st:Store}{a b:E}{x y:Bool}(ha:(runK c n).tst τ st a=some (x,st))(hb:(runK c n).tst τ st b=some (y,st)):(runK c (n+1)).tst τ st (.or a b)=some (x||y,st):=by
 rw[tst_k]
 simp only[stepTst,ha,oBs]
 cases x with
 |false=>rw[if_neg Bool.false_ne_true,hb]; rfl
 |true=>rfl
noncomputable def othD(bs:List (List Nat)):D:=match thr bs with
 |some os=>if os.all tOk=true then .tup (os.map tV) else .non
 |none=>.non
theorem othD_nl(bs:List (List Nat)):noLoc (othD bs)=true:=by
 unfold othD
 split
 ·split
  ·exact os_nl _
  ·rfl
 ·rfl
theorem flat_get{os:List T3}{i:Nat}{o:T3}(h:os[i]?=some o)(j:Nat)(hj:j<3):(os.flatMap tP)[3*i+j]?=(tP o)[j]?:=by
 have:=flat_at os i o h
 rw[← this,List.getElem?_take_of_lt hj,List.getElem?_drop]
section
variable (m:Nat)(st:Store)
noncomputable def obody:List S:=[.set (.var 3) (.gc (.call 12 [(.gc (.lst [(.idx (.var 0) (.var 2)),(.idx (.var 0) (.bin .Add (.var 2) (.lit (.int 2))))]))])),.ite (.or (.cmp .Is (.var 3) (.lit .non)) (.cmp .NotIn (.idx (.var 0) (.bin .Add (.var 2) (.lit (.int 1)))) (.tup [(.lit (.str "given")),(.lit (.str "fallen")),(.lit (.str "unvested")),(.lit (.str "ground")),(.lit (.str "younger"))]))) [.ret (.lit .non)] [],.expr (.meth (.var 1) .append [(.tup [(.idx (.var 3) (.lit (.int 0))),(.idx (.var 0) (.bin .Add (.var 2) (.lit (.int 1)))),(.idx (.var 3) (.lit (.int 1)))])])]
theorem obody_ok(n i:Nat)(os:List T3)(o:T3)(h:os[i]?=some o)(hw:tW o)(acc:List D)(z:Option D)(hacc:acc.length<1000):
  (rn fns (m+2) (n+30)).ex [some (.lst ((os.flatMap tP).map tD)),some (.loc st.length),some (.int ((3*i:Nat):Int)),z] (st++[.lst true acc]) obody=some (if tOk o=true then(.nx [some (.lst ((os.flatMap tP).map tD)),some (.loc st.length),some (.int ((3*i:Nat):Int)),some (numsV [o.1,o.2.2])],st++[.lst true (acc++[tV o])]) else(.rt .non,st++[.lst true acc])):=by
 rw[ex_k]
 unfold obody
 generalize hS:st++[Cell.lst true acc]=S
 have hx:∀ (j:Nat) (w:List Nat) (S:Store),(tP o)[j]?=some w→j<3→idxD S (.lst ((os.flatMap tP).map tD)) (.int ((3*i+j:Nat):Int))=some (tD w):=fun j w S e hj=>by
  have g:=flat_get h j hj
  rw[e]at g
  have hi:=(List.getElem?_eq_some_iff.mp g).1
  show atI ((os.flatMap tP).map tD) ((3*i+j:Nat):Int)=_
  unfold atI ixN
  rw[List.length_map,if_pos (by omega),if_pos (by omega),oBs,Int.toNat_natCast,List.getElem?_map,g]
  rfl
 have hx0:=fun S=>hx 0 o.1 S rfl (by omega)
 have hx1:=fun S=>hx 1 o.2.1 S rfl (by omega)
 have hx2:=fun S=>hx 2 o.2.2 S rfl (by omega)
 rw[Nat.add_zero]at hx0
 have a1:((3*i:Nat):Int)+1=((3*i+1:Nat):Int):=by omega
 have a2:((3*i:Nat):Int)+2=((3*i+2:Nat):Int):=by omega
 have l1:∀ (n:Nat),(rn fns (m+2) (n+10)).ev [some (.lst ((os.flatMap tP).map tD)),some (.loc st.length),some (.int ((3*i:Nat):Int)),z] S (.gc (.lst [(.idx (.var 0) (.var 2)),(.idx (.var 0) (.bin .Add (.var 2) (.lit (.int 2))))]))=some (.lst ([o.1,o.2.2].map tD),S):=fun n=>by
  refine gc_lit (n:=n+8) ?_ (by simp) (nl_tD _)
  simp only[evs,ev_k,stepEv,List.getElem?_cons_succ,List.getElem?_cons_zero,oBs,pA,a2,hx0,hx2,oMs]
  rfl
 have c1:∀ n:Nat,(rn fns (m+2) (n+13)).ev [some (.lst ((os.flatMap tP).map tD)),some (.loc st.length),some (.int ((3*i:Nat):Int)),z] S (.gc (.call 12 [(.gc (.lst [(.idx (.var 0) (.var 2)),(.idx (.var 0) (.bin .Add (.var 2) (.lit (.int 2))))]))]))=some (numsV [o.1,o.2.2],S):=fun n=>by
  refine gc_ev (n:=n+12) ?_ (numsV_nl _)
  rw[ev_k]
  simp only[stepEv,evs,l1,oBs,call_k]
  exact lnums_ok (m:=m) (fun w h=>hw w (by simp at h; rcases h with h|h<;>simp[tP,h])) (by simp)
 have sx:stepEx (rn fns (m+2) (n+29)) [some (.lst ((os.flatMap tP).map tD)),some (.loc st.length),some (.int ((3*i:Nat):Int)),z] S (.set (.var 3) (.gc (.call 12 [(.gc (.lst [(.idx (.var 0) (.var 2)),(.idx (.var 0) (.bin .Add (.var 2) (.lit (.int 2))))]))])))=some (.nx [some (.lst ((os.flatMap tP).map tD)),some (.loc st.length),some (.int ((3*i:Nat):Int)),some (numsV [o.1,o.2.2])],S):=by
  simp only[stepEx,c1,oBs]
  rfl
 rw[exs_cons sx]
 generalize hT:([some (.lst ((os.flatMap tP).map tD)),some (.loc st.length),some (.int ((3*i:Nat):Int)),some (numsV [o.1,o.2.2])]:Sl)=T
 have v0:∀ n,(rn fns (m+2) (n+1)).ev T S (.var 0)=some (.lst ((os.flatMap tP).map tD),S):=fun n=>by rw[← hT]; rfl
 have v1:∀ n,(rn fns (m+2) (n+1)).ev T S (.var 1)=some (.loc st.length,S):=fun n=>by rw[← hT]; rfl
 have v2:∀ n,(rn fns (m+2) (n+1)).ev T S (.var 2)=some (.int ((3*i:Nat):Int),S):=fun n=>by rw[← hT]; rfl
 have v3:∀ n,(rn fns (m+2) (n+1)).ev T S (.var 3)=some (numsV [o.1,o.2.2],S):=fun n=>by rw[← hT]; rfl
 have x1:∀ n,(rn fns (m+2) (n+4)).ev T S (.idx (.var 0) (.bin .Add (.var 2) (.lit (.int 1))))=some (tD o.2.1,S):=fun n=>evX (v0 _) (evB (v2 _) rfl (by rw[pA,a1])) (hx1 S)
 have tu:∀ n,(rn fns (m+2) (n+4)).ev T S (.tup [(.lit (.str "given")),(.lit (.str "fallen")),(.lit (.str "unvested")),(.lit (.str "ground")),(.lit (.str "younger"))])=some (.tup (wordsO.map tD),S):=fun n=>by
  rw[← words_tup]
  rfl
 have t1:∀ n,(rn fns (m+2) (n+5)).tst T S (.cmp .Is (.var 3) (.lit .non))=some (!(nOk o.1&&nOk o.2.2),S):=fun n=>tCmp (x:=numsV [o.1,o.2.2]) (y:=.non) (v3 _) rfl (by
  unfold numsV
  simp only[List.all_cons,List.all_nil,Bool.and_true]
  cases (nOk o.1&&nOk o.2.2)<;>rfl)
 have t2:∀ n,(rn fns (m+2) (n+5)).tst T S (.cmp .NotIn (.idx (.var 0) (.bin .Add (.var 2) (.lit (.int 1)))) (.tup [(.lit (.str "given")),(.lit (.str "fallen")),(.lit (.str "unvested")),(.lit (.str "ground")),(.lit (.str "younger"))]))=some (!wordsO.contains o.2.1,S):=fun n=>tCmp (x1 _) (tu _) (by simp only[cmpD,words_in,oMs])
 have t3:∀ n,(rn fns (m+2) (n+6)).tst T S (.or (.cmp .Is (.var 3) (.lit .non)) (.cmp .NotIn (.idx (.var 0) (.bin .Add (.var 2) (.lit (.int 1)))) (.tup [(.lit (.str "given")),(.lit (.str "fallen")),(.lit (.str "unvested")),(.lit (.str "ground")),(.lit (.str "younger"))])))=some (!tOk o,S):=fun n=>by
  rw[tst_k]
  simp only[stepTst,t1,oBs]
  unfold tOk
  cases h1:nOk o.1<;>cases h2:nOk o.2.2<;>simp[h1,h2,t2]
 cases ho:tOk o with
 |true=>
  rw[exs_cons (τ':=T) (s':=S) (by refine(stepEx_ite_f (st':=S) ?_).trans rfl; rw[t3,ho]; rfl)]
  have hn:numsV [o.1,o.2.2]=.lst ([o.1,o.2.2].map numV):=by
   unfold tOk at ho
   simp only[Bool.and_eq_true]at ho
   unfold numsV
   simp[ho.1.1,ho.2]
  have y0:∀ S,idxD S (.lst ([o.1,o.2.2].map numV)) (.int 0)=some (numV o.1):=fun S=>rfl
  have y1:∀ S,idxD S (.lst ([o.1,o.2.2].map numV)) (.int 1)=some (numV o.2.2):=fun S=>rfl
  have u0:∀ n,(rn fns (m+2) (n+4)).ev T S (.idx (.var 3) (.lit (.int 0)))=some (numV o.1,S):=fun n=>evX (v3 _) rfl (by rw[hn]; exact y0 S)
  have u1:∀ n,(rn fns (m+2) (n+4)).ev T S (.idx (.var 3) (.lit (.int 1)))=some (numV o.2.2,S):=fun n=>evX (v3 _) rfl (by rw[hn]; exact y1 S)
  have tp:∀ n,(rn fns (m+2) (n+5)).ev T S (.tup [(.idx (.var 3) (.lit (.int 0))),(.idx (.var 0) (.bin .Add (.var 2) (.lit (.int 1)))),(.idx (.var 3) (.lit (.int 1)))])=some (tV o,S):=fun n=>by
   rw[ev_k]
   simp only[stepEv,evs,u0,u1,x1,oBs]
   rfl
  have my:mty S .append (.loc st.length)=true:=by
   show(true&&(seqAt S (.loc st.length)).isSome)=true
   rw[← hS,seq_end]
   rfl
  have ap:mAppend S (.loc st.length) [tV o]=some (.non,st++[.lst true (acc++[tV o])]):=by
   rw[← hS]
   show((wlistAt (st++[Cell.lst true acc]) st.length).bind fun ds=>if ds.length<lim then some (D.non,(st++[Cell.lst true acc]).set st.length (.lst true (ds++[tV o]))) else none)=_
   rw[wlistAt_new,oBs,if_pos (by unfold lim; omega),set_new]
  rw[exs_cons (τ':=T) (s':=st++[.lst true (acc++[tV o])]) (by
   simp only[stepEx]
   rw[ev_k]
   simp only[stepEv,v1,oBs,my,if_true,evs,tp,mfun,ap,oMs])]
  rfl
 |false=>
  refine exs_ret ((stepEx_ite_t (st':=S) (by rw[t3,ho]; rfl)).trans ?_)
  rw[ex_k]
  exact exs_ret rfl
theorem lothers_non:∃ r,callD fns (m+3) 18 [.non] st=some (.non,st++r):=by
 refine⟨[.lst true []],call_of (0+20) (F:=f_law_read_others) rfl rfl rfl ?_⟩
 show exs (stepEx (rn fns (m+2) (0+20))) b_law_read_others [some .non,none,none,none] st=_
 unfold b_law_read_others
 rw[exs_cons (τ':=[some .non,some (.loc st.length),none,none]) (s':=st++[.lst true []]) rfl]
 refine exs_ret ((stepEx_ite_t (st':=st++[.lst true []]) rfl).trans ?_)
 rw[ex_k]
 exact exs_ret rfl
theorem lo_len(bs:List (List Nat))(n:Nat):(rn fns (m+2) (n+5)).ev [some (.lst (bs.map tD)),some (.loc st.length),none,none] (st++[.lst true []]) (.bcall .len [(.var 0)])=some (.int ((bs.length:Nat):Int),st++[.lst true []]):=by
 have ln:∀ S,bLen S [.lst (bs.map tD)]=some (.int ((bs.length:Nat):Int),S):=fun S=>by simp only[bLen,seqAt,oMs,List.length_map]
 rw[ev_k]
 exact ln _
noncomputable def lotE:E:=.or (.cmp .Is (.var 0) (.lit .non)) (.cmp .NotEq (.bin .Mult (.bin .FloorDiv (.bcall .len [(.var 0)]) (.lit (.int 3))) (.lit (.int 3))) (.bcall .len [(.var 0)]))
theorem lo_ta(bs:List (List Nat))(n:Nat):(rn fns (m+2) (n+3)).tst [some (.lst (bs.map tD)),some (.loc st.length),none,none] (st++[.lst true []]) (.cmp .Is (.var 0) (.lit .non))=some (false,st++[.lst true []]):=rfl
theorem lo_td(bs:List (List Nat))(n:Nat):(rn fns (m+2) (n+6)).ev [some (.lst (bs.map tD)),some (.loc st.length),none,none] (st++[.lst true []]) (.bin .FloorDiv (.bcall .len [(.var 0)]) (.lit (.int 3)))=some (.int ((bs.length:Int) / 3),st++[.lst true []]):=evB (n:=n+5) (lo_len m st bs n) rfl (bDi _ _ (by decide) (by decide))
theorem lo_tm(bs:List (List Nat))(n:Nat):(rn fns (m+2) (n+7)).ev [some (.lst (bs.map tD)),some (.loc st.length),none,none] (st++[.lst true []]) (.bin .Mult (.bin .FloorDiv (.bcall .len [(.var 0)]) (.lit (.int 3))) (.lit (.int 3)))=some (.int ((bs.length:Int) / 3*3),st++[.lst true []]):=evB (n:=n+6) (lo_td m st bs n) rfl (bMu _ _ (by decide) (by decide))
theorem lo_tb(bs:List (List Nat))(n:Nat):(rn fns (m+2) (n+8)).tst [some (.lst (bs.map tD)),some (.loc st.length),none,none] (st++[.lst true []]) (.cmp .NotEq (.bin .Mult (.bin .FloorDiv (.bcall .len [(.var 0)]) (.lit (.int 3))) (.lit (.int 3))) (.bcall .len [(.var 0)]))=some (!decide (bs.length % 3=0),st++[.lst true []]):=by
 have e:((bs.length:Int) / 3*3==(bs.length:Int))=decide (bs.length % 3=0):=by
  rw[Bool.eq_iff_iff,beq_iff_eq,decide_eq_true_iff]
  omega
 refine tCmp (n:=n+7) (lo_tm m st bs n) (lo_len m st bs (n+2)) ?_
 simp only[cmpD,neD,eqD_ii,oMs,e]
theorem lo_t(bs:List (List Nat))(n:Nat):(rn fns (m+2) (n+10)).tst [some (.lst (bs.map tD)),some (.loc st.length),none,none] (st++[.lst true []]) lotE=some (!decide (bs.length % 3=0),st++[.lst true []]):=tOr (x:=false) (n:=n+9) (lo_ta m st bs (n+6)) (lo_tb m st bs (n+1))
noncomputable def ods(k:Nat):List D:=(List.range k).map fun(j:Nat)=>D.int ((3*j:Nat):Int)
theorem ods_len(k:Nat):(ods k).length=k:=by simp[ods]
theorem ods_at(k i:Nat)(S:Store):(Src.rgs 0 3 k).at S i=some (ods k)[i]?:=by
 unfold ods
 simp only[Src.at,List.getElem?_map]
 by_cases hi:i<k
 ·rw[if_pos hi,List.getElem?_range hi]
  simp only[oMs]
  congr 3
  omega
 ·rw[if_neg hi,List.getElem?_eq_none (by simpa using hi)]
  rfl
theorem ods_get{k i:Nat}{d:D}(h:(ods k)[i]?=some d):i<k∧d=.int ((3*i:Nat):Int):=by
 have hi:i<k:=by have:=(List.getElem?_eq_some_iff.mp h).1; rwa [ods_len]at this
 unfold ods at h
 rw[List.getElem?_map,List.getElem?_range hi]at h
 cases h
 exact⟨hi,rfl⟩
section
variable (os:List T3)(hl:os.length<300)
noncomputable def oT(os:List T3)(l:Nat)(y z:Option D):Sl:=[some (.lst ((os.flatMap tP).map tD)),some (.loc l),y,z]
include hl in
theorem lo_src(n:Nat):src (rn fns (m+2) (n+6)) (oT os st.length none none) (st++[.lst true []]) (.rng3 (.lit (.int 0)) (.bcall .len [(.var 0)]) (.lit (.int 3)))=some (.rgs 0 3 os.length,st++[.lst true []]):=by
 have tl':=lo_len m st (os.flatMap tP) (n+1)
 rw[flat_len]at tl'
 have hb:big ((3*os.length:Nat):Int)=false:=by unfold big; simp; omega
 have sz0:(if (0:Int)<((3*os.length:Nat):Int) then(((3*os.length:Nat):Int) - 0 - 1) / 3+1 else 0).toNat=os.length:=by split<;>omega
 have z0:∀ S T,(rn fns (m+2) (n+6)).ev T S (.lit (.int 0))=some (.int 0,S):=fun S T=>rfl
 have z3:∀ S T,(rn fns (m+2) (n+6)).ev T S (.lit (.int 3))=some (.int 3,S):=fun S T=>rfl
 unfold oT
 simp only[src,z0,z3,tl',oBs,hb]
 rw[sz0]
 rfl
noncomputable def oF(m:Nat):Sl→Store→D→Option (Out×Store):=fun τ S d=>(setT (.var 2) d τ).bind fun τ'=>(rn fns (m+2) (0+34)).ex τ' S obody
def oP(os:List T3)(st:Store)(i:Nat)(τ:Sl)(S:Store):Prop:=S=st++[.lst true ((os.take i).map tV)]∧∃ y z,τ=oT os st.length y z
variable (hw:∀ w∈os.flatMap tP,wOk w)
include hl hw
theorem lo_turn(i:Nat)(τ:Sl)(S:Store)(d:D)(p:oP os st i τ S)(hd:(ods os.length)[i]?=some d):∃ o,os[i]?=some o∧oF m τ S d=some (if tOk o=true then(.nx (oT os st.length (some (.int ((3*i:Nat):Int))) (some (numsV [o.1,o.2.2]))),st++[.lst true ((os.take (i+1)).map tV)]) else(.rt .non,st++[.lst true ((os.take i).map tV)])):=by
 obtain⟨rfl,y,z,rfl⟩:=p
 obtain⟨hi,rfl⟩:=ods_get hd
 refine⟨os[i],by simp,?_⟩
 have:=obody_ok m st 4 i os os[i] (by simp) (fun w hw'=>hw w (List.mem_flatMap.mpr ⟨os[i],by simp,hw'⟩)) ((os.take i).map tV) z (by simp; omega)
 show(rn fns (m+2) (0+34)).ex [some (.lst ((os.flatMap tP).map tD)),some (.loc st.length),some (.int ((3*i:Nat):Int)),z] _ obody=_
 refine this.trans ?_
 have e:(os.take i).map tV++[tV os[i]]=(os.take (i+1)).map tV:=by rw[List.take_add_one,List.getElem?_eq_getElem hi,List.map_append]; rfl
 rw[e]
 rfl
theorem lo_loop:∃ Z,stepEx (rn fns (m+2) (0+34)) (oT os st.length none none) (st++[.lst true []]) (.forr (.var 2) (.rng3 (.lit (.int 0)) (.bcall .len [(.var 0)]) (.lit (.int 3))) obody)=some Z∧((os.all tOk=true∧∃ y z,Z=(.nx (oT os st.length y z),st++[.lst true (os.map tV)]))∨(os.all tOk=false∧∃ r,Z=(.rt .non,st++r))):=by
 have unf:∀ Z,loop (.rgs 0 3 os.length) (oF m) ((ods os.length).length+1) 0 (oT os st.length none none) (st++[.lst true []])=some Z→stepEx (rn fns (m+2) (0+34)) (oT os st.length none none) (st++[.lst true []]) (.forr (.var 2) (.rng3 (.lit (.int 0)) (.bcall .len [(.var 0)]) (.lit (.int 3))) obody)=some Z:=fun Z e=>by
  simp only[stepEx,lo_src m st os hl,oBs]
  rw[ods_len]at e
  exact e
 cases ha:os.all tOk with
 |true=>
  obtain⟨τ',st',⟨rfl,y,z,rfl⟩,e⟩:=loop_all (ds:=ods os.length) (s:=.rgs 0 3 os.length) (f:=oF m) (τ:=oT os st.length none none) (st:=st++[.lst true []]) (oP os st) (fun i τ S _=>ods_at _ i S) (fun i τ S d hi hd p=>by
   obtain⟨o,ho,q⟩:=lo_turn m st os hl hw i τ S d p hd
   rw[q,if_pos (List.all_eq_true.mp ha o (List.mem_of_getElem? ho))]
   exact⟨_,_,rfl,rfl,_,_,rfl⟩) ⟨rfl,none,none,rfl⟩
  refine⟨_,unf _ e,.inl ⟨rfl,y,z,?_⟩⟩
  rw[ods_len,List.take_of_length_le (Nat.le_refl _)]
 |false=>
  obtain⟨i0,o0,hi0,hb0,hp⟩:=first_bad tOk os ha
  obtain⟨st',rfl,e⟩:=loop_rt (ds:=ods os.length) (s:=.rgs 0 3 os.length) (f:=oF m) (i0:=i0) (τ:=oT os st.length none none) (st:=st++[.lst true []]) (oP os st) (fun S=>S=st++[.lst true ((os.take i0).map tV)]) .non (fun i τ S _=>ods_at _ i S) (by rw[ods_len]; exact(List.getElem?_eq_some_iff.mp hi0).1) (fun i τ S d hi hd p=>by
   obtain⟨o,ho,q⟩:=lo_turn m st os hl hw i τ S d p hd
   rw[q,if_pos (hp i o hi ho)]
   exact⟨_,_,rfl,rfl,_,_,rfl⟩) (fun τ S d hd p=>by
   obtain⟨o,ho,q⟩:=lo_turn m st os hl hw i0 τ S d p hd
   rw[hi0]at ho
   cases ho
   rw[q,if_neg (by rw[hb0]; exact Bool.false_ne_true)]
   exact⟨_,rfl,rfl⟩) ⟨rfl,none,none,rfl⟩
  exact⟨_,unf _ e,.inr ⟨rfl,_,rfl⟩⟩
end
theorem lo_body:b_law_read_others=[.set (.var 1) (.lst []),.ite lotE [.ret (.lit .non)] [],.forr (.var 2) (.rng3 (.lit (.int 0)) (.bcall .len [(.var 0)]) (.lit (.int 3))) obody,.ret (.bcall .tuple [(.var 1)])]:=rfl
theorem lothers_ok(bs:List (List Nat))(hw:∀ w∈bs,wOk w)(hl:bs.length<800):∃ r,callD fns (m+3) 18 [.lst (bs.map tD)] st=some (othD bs,st++r):=by
 have key:∀ d r,exs (stepEx (rn fns (m+2) (0+34))) b_law_read_others [some (.lst (bs.map tD)),none,none,none] st=some (.rt d,st++r)→∃ r,callD fns (m+3) 18 [.lst (bs.map tD)] st=some (d,st++r):=fun d r h=>⟨r,call_of (0+34) (F:=f_law_read_others) rfl rfl rfl h⟩
 rw[lo_body]at key
 have s0:stepEx (rn fns (m+2) (0+34)) [some (.lst (bs.map tD)),none,none,none] st (.set (.var 1) (.lst []))=some (.nx [some (.lst (bs.map tD)),some (.loc st.length),none,none],st++[.lst true []]):=rfl
 unfold othD
 cases hth:thr bs with
 |none=>
  refine key _ [.lst true []] ?_
  rw[exs_cons s0]
  refine exs_ret ((stepEx_ite_t (st':=st++[.lst true []]) (by rw[lo_t,decide_eq_false (thr_none hth)]; rfl)).trans ?_)
  rw[ex_k]
  exact exs_ret rfl
 |some os=>
  have e2:bs=os.flatMap tP:=thr_some hth
  subst e2
  rw[flat_len]at hl
  have s1:stepEx (rn fns (m+2) (0+34)) [some (.lst ((os.flatMap tP).map tD)),some (.loc st.length),none,none] (st++[.lst true []]) (.ite lotE [.ret (.lit .non)] [])=some (.nx [some (.lst ((os.flatMap tP).map tD)),some (.loc st.length),none,none],st++[.lst true []]):=by
   refine(stepEx_ite_f (st':=st++[.lst true []]) ?_).trans rfl
   rw[lo_t,flat_len,decide_eq_true (by omega)]
   rfl
  obtain⟨Z,e,⟨ha,y,z,rfl⟩|⟨ha,r,rfl⟩⟩:=lo_loop m st os (by omega) hw
  ·simp only[ha,if_true]
   refine key _ [.lst true (os.map tV)] ?_
   rw[exs_cons s0,exs_cons s1]
   refine(exs_cons e).trans (exs_ret ?_)
   have sa:seqAt (st++[.lst true (os.map tV)]) (.loc st.length)=some (os.map tV):=seq_end st true _
   unfold oT
   simp only[stepEx,ev_k,stepEv,evs,List.getElem?_cons_succ,List.getElem?_cons_zero,oBs,bfun,bTuple,sa,oMs]
  ·simp only[ha,Bool.false_eq_true,if_false]
   refine key _ r ?_
   rw[exs_cons s0,exs_cons s1]
   exact exs_ret e
end
section
variable (m:Nat)(st:Store)(x:D)
noncomputable def pT(x:D)(a b c d e f g:Option D):Sl:=[some x,a,b,c,d,e,f,g]
theorem is_non{c:CF}{n i:Nat}{τ:Sl}{st:Store}{d:D}(h:τ[i]?=some (some d)):(runK c (n+2)).tst τ st (.cmp .Is (.var i) (.lit .non))=some (isNon d,st):=tCmp (n:=n+1) (x:=d) (y:=.non) (evV h) rfl (by cases d<;>rfl)
theorem gc_part{i:Nat}{τ:Sl}{s:Str}{w:List Nat}{ws:List (List Nat)}(hs:s=mk w)(h:τ[i]?=some (some (.lst (ws.map tD))))(hl:ws.length<1000)(n:Nat):(rn fns (m+3) (n+5)).ev τ st (.gc (.call 17 [(.var i),(.lit (.str s))]))=some (partV w ws,st):=by
 subst hs
 exact gc_callR (r:=[]) (n:=n+2) (ds:=[.lst (ws.map tD),tD w]) (by simp only[evs,ev_k,stepEv,h,oBs]; rfl) (by rw[List.append_nil]; exact part_ok (m+2) st ws w hl) (partV_nl _ _)
noncomputable def frontD(w:List Nat)(ws:List (List Nat)):List (List Nat):=match cutAt w ws with
 |some (a,_)=>a
 |none=>ws
noncomputable def backD(w:List Nat)(ws:List (List Nat)):D:=match cutAt w ws with
 |some (_,b)=>.lst (b.map tD)
 |none=>.non
theorem partV_eq(w:List Nat)(ws:List (List Nat)):partV w ws=.tup [.lst ((frontD w ws).map tD),backD w ws]:=by
 unfold partV frontD backD
 cases cutAt w ws with
 |none=>rfl
 |some p=>rfl
noncomputable def ooD(ws:List (List Nat)):D:=match cutAt wOthers ws with
 |some (_,b)=>othD b
 |none=>.non
theorem ooD_nl(ws:List (List Nat)):noLoc (ooD ws)=true:=by
 unfold ooD
 split
 ·exact othD_nl _
 ·rfl
theorem oo_call(ws:List (List Nat))(hw:∀ w∈ws,wOk w)(hl:ws.length<700):∃ r,callD fns (m+3) 18 [backD wOthers ws] st=some (ooD ws,st++r):=by
 unfold backD ooD
 cases h:cutAt wOthers ws with
 |none=>exact lothers_non m st
 |some p=>
  obtain⟨a,b⟩:=p
  obtain⟨e,_⟩:=cutAt_some h
  subst e
  simp only[List.length_append,List.length_cons]at hl
  exact lothers_ok m st b (fun w h=>hw w (by simp[h])) (by omega)
theorem oo_non(ws:List (List Nat)):isNon (ooD ws)=true∨∃ a b os,cutAt wOthers ws=some (a,b)∧thr b=some os∧os.all tOk=true∧ooD ws=.tup (os.map tV)∧frontD wOthers ws=a:=by
 unfold ooD frontD
 cases h:cutAt wOthers ws with
 |none=>exact .inl rfl
 |some p=>
  obtain⟨a,b⟩:=p
  dsimp only
  unfold othD
  cases h2:thr b with
  |none=>exact .inl rfl
  |some os=>
   cases h3:os.all tOk with
   |false=>exact .inl (by simp[h3,isNon])
   |true=>exact .inr ⟨a,b,os,rfl,h2,h3,by simp[h3],rfl⟩
theorem pap_non{ws:List (List Nat)}(h:isNon (ooD ws)=true):papO ws=none:=by
 unfold ooD othD at h
 unfold papO
 cases h1:cutAt wOthers ws with
 |none=>rfl
 |some p=>
  rw[h1]at h
  dsimp only at h
  cases h2:thr p.2 with
  |none=>simp[h2]
  |some os=>
   rw[h2]at h
   simp only[oBs,h2]
   cases h3:os.all tOk with
   |false=>simp
   |true=>simp[h3,isNon]at h
end
section
variable (m:Nat)(st:Store){B:Nat}(cs:List Nat)(hg:Gt B cs)(hB:B<600)
include hg hB
theorem lp_1(n:Nat):stepEx (rn fns (m+3) (n+20)) (pT (.str (mk cs)) none none none none none none none) st (.set (.tup [1,2]) (.gc (.call 17 [(.gc (.meth (.var 0) .split [(.lit (.str " "))])),(.lit (.str "others"))])))=some (.nx (pT (.str (mk cs)) (some (.lst ((frontD wOthers (splitC 32 cs)).map tD))) (some (backD wOthers (splitC 32 cs))) none none none none none),st):=by
 have sp:∀ n:Nat,(rn fns (m+3) (n+4)).ev (pT (.str (mk cs)) none none none none none none none) st (.gc (.meth (.var 0) .split [(.lit (.str " "))]))=some (.lst ((splitC 32 cs).map tD),st):=fun n=>gc_split rfl (by have:=hg.2; omega)
 have lo:∀ n:Nat,(rn fns (m+3) (n+1)).ev (pT (.str (mk cs)) none none none none none none none) st (.lit (.str "others"))=some (tD wOthers,st):=fun n=>by rw[xOthers]; rfl
 have:∀ n:Nat,(rn fns (m+3) (n+10)).ev (pT (.str (mk cs)) none none none none none none none) st (.gc (.call 17 [(.gc (.meth (.var 0) .split [(.lit (.str " "))])),(.lit (.str "others"))]))=some (.tup [.lst ((frontD wOthers (splitC 32 cs)).map tD),backD wOthers (splitC 32 cs)],st):=fun n=>by
  rw[← partV_eq]
  refine gc_ev (n:=n+9) ?_ (partV_nl _ _)
  rw[ev_k]
  simp only[stepEv,evs,sp,lo,oBs,call_k]
  exact part_ok (m+2) st _ _ (by have:=split_n hg; omega)
 simp only[stepEx,this,oBs]
 rfl
theorem lp_2(a:Option D)(n:Nat):stepEx (rn fns (m+3) (n+20)) (pT (.str (mk cs)) a (some (backD wOthers (splitC 32 cs))) none none none none none) st (.set (.var 3) (.gc (.call 18 [(.var 2)])))=some (.nx (pT (.str (mk cs)) a (some (backD wOthers (splitC 32 cs))) (some (ooD (splitC 32 cs))) none none none none),st):=by
 obtain⟨r,hr⟩:=oo_call m st (splitC 32 cs) (split_w hg hB) (by have:=split_n hg; omega)
 have:∀ n:Nat,(rn fns (m+3) (n+5)).ev (pT (.str (mk cs)) a (some (backD wOthers (splitC 32 cs))) none none none none none) st (.gc (.call 18 [(.var 2)]))=some (ooD (splitC 32 cs),st):=fun n=>gc_callR (n:=n+2) (r:=r) (ds:=[backD wOthers (splitC 32 cs)]) rfl hr (ooD_nl _)
 simp only[stepEx,this,oBs]
 rfl
end
section
variable (m:Nat)(st:Store)(x bk oo:D)(a:List (List Nat))
noncomputable def lpE3:E:=.or (.cmp .Is (.var 3) (.lit .non)) (.cmp .Eq (.var 1) (.gc (.lst [(.lit (.str "open"))])))
theorem lp_t3(d e f g:Option D)(n:Nat):(rn fns (m+3) (n+10)).tst (pT x (some (.lst (a.map tD))) (some bk) (some oo) d e f g) st lpE3=some (isNon oo||(a==[wOpen]),st):=by
 refine tOr (n:=n+9) (is_non (n:=n+7) rfl) (tCmp (n:=n+8) (x:=.lst (a.map tD)) (y:=.lst ([wOpen].map tD)) rfl (gcL1 (n:=n+3) xOpen) ?_)
 simp only[cmpD,eq_ts]
theorem lp_4(hl:a.length<1000)(n:Nat):stepEx (rn fns (m+3) (n+20)) (pT x (some (.lst (a.map tD))) (some bk) (some oo) none none none none) st (.set (.tup [4,5]) (.gc (.call 17 [(.var 1),(.lit (.str "years"))])))=some (.nx (pT x (some (.lst (a.map tD))) (some bk) (some oo) (some (.lst ((frontD wYears a).map tD))) (some (backD wYears a)) none none),st):=by
 have:=gc_part m st (i:=1) (τ:=pT x (some (.lst (a.map tD))) (some bk) (some oo) none none none none) (w:=wYears) (ws:=a) xYears rfl hl (n+15)
 rw[partV_eq]at this
 simp only[stepEx,this,oBs]
 rfl
end
section
variable (m:Nat)(st:Store)(x bk oo aD:D)(h:List (List Nat))(y:D)
noncomputable abbrev hL(x aD bk oo:D)(h:List (List Nat))(y:D)(f g:Option D):Sl:=pT x (some aD) (some bk) (some oo) (some (.lst (h.map tD))) (some y) f g
noncomputable def lpE5:E:=.or (.cmp .Is (.var 5) (.lit .non)) (.or (.cmp .NotEq (.gc (.sli (.var 4) none (some (.lit (.int 1))))) (.gc (.lst [(.lit (.str "held"))]))) (.cmp .NotIn (.bcall .len [(.var 4)]) (.tup [(.lit (.int 3)),(.lit (.int 5))])))
theorem lp_len(f g:Option D)(n:Nat):(rn fns (m+3) (n+3)).ev (hL x aD bk oo h y f g) st (.bcall .len [(.var 4)])=some (.int (h.length:Int),st):=by
 have ln:∀ S,bLen S [.lst (h.map tD)]=some (.int ((h.length:Nat):Int),S):=fun S=>by simp only[bLen,seqAt,oMs,List.length_map]
 rw[ev_k]
 exact ln st
theorem lp_t5(n:Nat):(rn fns (m+3) (n+12)).tst (hL x aD bk oo h y none none) st lpE5=some (isNon y||(!(h.take 1==[wHeld]) || !decide (h.length=3∨h.length=5)),st):=by
 refine tOr (n:=n+11) (is_non (n:=n+9) rfl) (tOr (n:=n+10) (tCmp (n:=n+9) (x:=.lst ((h.take 1).map tD)) (y:=.lst ([wHeld].map tD)) (gcTk (n:=n+6) 1 rfl) (gcL1 (n:=n+4) xHeld) ?_) (tCmp (n:=n+9) (x:=.int (h.length:Int)) (y:=.tup [.int 3,.int 5]) (lp_len m st x bk oo aD h y none none (n+6)) rfl ?_))
 ·simp only[cmpD,neD,eq_ts,oMs]
 ·simp only[cmpD,inD,show flat 9 (.int (h.length:Int))=true from rfl,show flats 9 [.int 3,.int 5]=true from rfl,Bool.and_self,if_true,oMs,List.any_cons,List.any_nil,eqT_ii,Bool.or_false]
  congr 2
  rw[Bool.eq_iff_iff,Bool.or_eq_true,beq_iff_eq,beq_iff_eq,decide_eq_true_iff]
  omega
noncomputable def lpE6:E:=.cmp .NotEq (.idx (.var 4) (.lit (.int 2))) (.idx (.gc (.lst [(.lit (.str "ground")),(.lit (.str "dip"))])) (.bin .Sub (.bin .FloorDiv (.bcall .len [(.var 4)]) (.lit (.int 2))) (.lit (.int 1))))
theorem lp_t6(p q g:List Nat)(r:List (List Nat))(hh:h=p::q::g::r)(k:Nat)(hk:k<2)(hl:h.length=2*k+3)(n:Nat):(rn fns (m+3) (n+12)).tst (hL x aD bk oo h y none none) st lpE6=some (!(g==[wGround,wDip].getD k []),st):=by
 have l1:∀ n,(rn fns (m+3) (n+5)).ev (hL x aD bk oo h y none none) st (.gc (.lst [(.lit (.str "ground")),(.lit (.str "dip"))]))=some (.lst ([wGround,wDip].map tD),st):=fun n=>by
  rw[xGround,xDip]
  exact gc_lit (n:=n+3) rfl (by simp) (nl_tD _)
 have i1:idxD st (.lst ([wGround,wDip].map tD)) (.int (k:Int))=some (tD ([wGround,wDip].getD k [])):=ix_lst tD [wGround,wDip] [] (k:Int) (by omega) (by simp; omega) st
 have i2:idxD st (.lst (h.map tD)) (.int 2)=some (tD g):=by
  rw[hh]
  show atI (tD p::tD q::tD g::r.map tD) 2=_
  unfold atI ixN
  rw[if_pos (by omega),if_pos (by simp; omega)]
  rfl
 have e1:(h.length:Int) / 2 - 1=(k:Int):=by omega
 refine tCmp (n:=n+11) (evX (n:=n+10) (x:=.lst (h.map tD)) (y:=.int 2) rfl rfl i2) (evX (n:=n+10) (y:=.int (k:Int)) (l1 (n+5)) (evB (n:=n+9) (evB (n:=n+8) (lp_len m st x bk oo aD h y none none (n+5)) rfl (bDi _ _ (by decide) (by decide))) rfl (by show some (D.int ((h.length:Int) / 2 - 1),st)=_; rw[e1])) i1) ?_
 show cmpD st .NotEq (.str (mk g)) (.str (mk ([wGround,wDip].getD k [])))=_
 simp only[cmpD,neD,eqD_ss,mk_beq,oMs]
theorem lp_7(c:List Nat)(r:List (List Nat))(p g:List Nat)(hh:h=p::c::g::r)(hw:∀ w∈c::r,wOk w)(hl:r.length<900)(n:Nat):stepEx (rn fns (m+3) (n+20)) (hL x aD bk oo h y none none) st (.set (.var 6) (.gc (.call 12 [(.gc (.bin .Add (.gc (.sli (.var 4) (some (.lit (.int 1))) (some (.lit (.int 2))))) (.gc (.sli (.var 4) (some (.lit (.int 3))) none))))])))=some (.nx (hL x aD bk oo h y (some (numsV (c::r))) none),st):=by
 have s1:∀ n,(rn fns (m+3) (n+3)).ev (hL x aD bk oo h y none none) st (.gc (.sli (.var 4) (some (.lit (.int 1))) (some (.lit (.int 2)))))=some (.lst ([c].map tD),st):=fun n=>by
  have:=gcMd (c:=callD fns (m+3)) (n:=n) (τ:=hL x aD bk oo h y none none) (st:=st) (a:=.var 4) (ws:=h) 1 2 (by omega) rfl
  refine this.trans ?_
  rw[hh]
  rfl
 have s2:∀ n,(rn fns (m+3) (n+3)).ev (hL x aD bk oo h y none none) st (.gc (.sli (.var 4) (some (.lit (.int 3))) none))=some (.lst (r.map tD),st):=fun n=>by
  have:=gcDr (c:=callD fns (m+3)) (n:=n) (τ:=hL x aD bk oo h y none none) (st:=st) (a:=.var 4) (ws:=h) 3 rfl
  refine this.trans ?_
  rw[hh]
  rfl
 have a1:∀ n,(rn fns (m+3) (n+6)).ev (hL x aD bk oo h y none none) st (.gc (.bin .Add (.gc (.sli (.var 4) (some (.lit (.int 1))) (some (.lit (.int 2))))) (.gc (.sli (.var 4) (some (.lit (.int 3))) none))))=some (.lst ((c::r).map tD),st):=fun n=>gc_add (n:=n+4) (s1 (n+1)) (s2 (n+1)) rfl rfl (by simp; omega) (nl_tD (c::r))
 have c1:∀ n,(rn fns (m+3) (n+10)).ev (hL x aD bk oo h y none none) st (.gc (.call 12 [(.gc (.bin .Add (.gc (.sli (.var 4) (some (.lit (.int 1))) (some (.lit (.int 2))))) (.gc (.sli (.var 4) (some (.lit (.int 3))) none))))]))=some (numsV (c::r),st):=fun n=>by
  refine gc_ev (n:=n+9) ?_ (numsV_nl _)
  rw[ev_k]
  simp only[stepEv,evs,a1,oBs,call_k]
  exact lnums_ok (m:=m+1) hw (by simp; omega)
 simp only[stepEx,c1,oBs]
 rfl
theorem lp_8(b:List (List Nat))(f:D)(hw:∀ w∈b,wOk w)(hl:b.length<1000)(n:Nat):stepEx (rn fns (m+3) (n+20)) (hL x aD bk oo h (.lst (b.map tD)) (some f) none) st (.set (.var 7) (.gc (.call 12 [(.var 5)])))=some (.nx (hL x aD bk oo h (.lst (b.map tD)) (some f) (some (numsV b))),st):=by
 have c1:∀ n,(rn fns (m+3) (n+10)).ev (hL x aD bk oo h (.lst (b.map tD)) (some f) none) st (.gc (.call 12 [(.var 5)]))=some (numsV b,st):=fun n=>by
  refine gc_ev (n:=n+9) ?_ (numsV_nl _)
  have v5:∀ n,(rn fns (m+3) (n+1)).ev (hL x aD bk oo h (.lst (b.map tD)) (some f) none) st (.var 5)=some (.lst (b.map tD),st):=fun n=>rfl
  rw[ev_k]
  simp only[stepEv,evs,v5,oBs,call_k]
  exact lnums_ok (m:=m+1) hw hl
 simp only[stepEx,c1,oBs]
 rfl
end
section
variable (m:Nat)(st:Store)(x bk oo aD:D)
theorem lp_r3(d e f g:Option D)(hoo:noLoc oo=true)(n:Nat):stepEx (rn fns (m+3) (n+20)) (pT x (some aD) (some bk) (some oo) d e f g) st (.ret (.idx (.gc (.lst [(.tup [(.lit (.str "open")),(.var 3)]),(.lit .non)])) (.bcall .int [(.cmp .Is (.var 3) (.lit .non))])))=some (.rt (if isNon oo=true then .non else .tup [tD wOpen,oo]),st):=by
 have l1:∀ n,(rn fns (m+3) (n+5)).ev (pT x (some aD) (some bk) (some oo) d e f g) st (.gc (.lst [(.tup [(.lit (.str "open")),(.var 3)]),(.lit .non)]))=some (.lst [.tup [tD wOpen,oo],.non],st):=fun n=>by
  rw[xOpen]
  refine gc_lit (n:=n+3) rfl (by simp) ?_
  simp only[noLocs_cons,noLoc_tup,hoo,noLocs_nil]
  rfl
 have c1:∀ n,(rn fns (m+3) (n+2)).ev (pT x (some aD) (some bk) (some oo) d e f g) st (.cmp .Is (.var 3) (.lit .non))=some (.bl (isNon oo),st):=fun n=>by
  cases oo<;>rfl
 have c2:∀ n,(rn fns (m+3) (n+4)).ev (pT x (some aD) (some bk) (some oo) d e f g) st (.bcall .int [(.cmp .Is (.var 3) (.lit .non))])=some (.int (if isNon oo=true then 1 else 0),st):=fun n=>by
  rw[ev_k]
  simp only[stepEv,evs,c1,oBs,bfun,bInt]
 refine stR (evX (n:=n+19) (l1 (n+14)) (c2 (n+15)) ?_)
 cases isNon oo<;>rfl
theorem lp_10(p c g:List Nat)(r b:List (List Nat))(n:Nat):stepEx (rn fns (m+3) (n+20)) (hL x aD bk oo (p::c::g::r) (.lst (b.map tD)) (some (.lst ((c::r).map numV))) (some (.lst (b.map numV)))) st (.ret (.tup [(.lit (.str "held")),(.idx (.var 6) (.lit (.int 0))),(.bin .Add (.tup [(.idx (.var 4) (.lit (.int 2)))]) (.bcall .tuple [(.gc (.sli (.var 6) (some (.lit (.int 1))) none))])),(.bcall .tuple [(.var 7)]),(.var 3)]))=some (.rt (.tup [tD wHeld,numV c,.tup (tD g::r.map numV),.tup (b.map numV),oo]),st)∨10000<r.length:=by
 by_cases hr:10000<r.length
 ·exact .inr hr
 refine .inl ?_
 generalize hT:hL x aD bk oo (p::c::g::r) (.lst (b.map tD)) (some (.lst ((c::r).map numV))) (some (.lst (b.map numV)))=T
 have v6:∀ n,(rn fns (m+3) (n+1)).ev T st (.var 6)=some (.lst ((c::r).map numV),st):=fun n=>by rw[← hT]; rfl
 have v7:∀ n,(rn fns (m+3) (n+1)).ev T st (.var 7)=some (.lst (b.map numV),st):=fun n=>by rw[← hT]; rfl
 have v4:∀ n,(rn fns (m+3) (n+1)).ev T st (.var 4)=some (.lst ((p::c::g::r).map tD),st):=fun n=>by rw[← hT]; rfl
 have v3:∀ n,(rn fns (m+3) (n+1)).ev T st (.var 3)=some (oo,st):=fun n=>by rw[← hT]; rfl
 have a1:∀ n,(rn fns (m+3) (n+1)).ev T st (.lit (.str "held"))=some (tD wHeld,st):=fun n=>by rw[xHeld]; rfl
 have a2:∀ n,(rn fns (m+3) (n+2)).ev T st (.idx (.var 6) (.lit (.int 0)))=some (numV c,st):=fun n=>evX (n:=n+1) (v6 n) rfl (by show atI (numV c::r.map numV) 0=_; exact at0 _ _)
 have i2:idxD st (.lst ((p::c::g::r).map tD)) (.int 2)=some (tD g):=by
  show atI (tD p::tD c::tD g::r.map tD) 2=_
  unfold atI ixN
  rw[if_pos (by omega),if_pos (by simp; omega)]
  rfl
 have a3:∀ n,(rn fns (m+3) (n+2)).ev T st (.idx (.var 4) (.lit (.int 2)))=some (tD g,st):=fun n=>evX (n:=n+1) (v4 n) rfl i2
 have a4:∀ n,(rn fns (m+3) (n+3)).ev T st (.tup [(.idx (.var 4) (.lit (.int 2)))])=some (.tup [tD g],st):=fun n=>by
  rw[ev_k]
  simp only[stepEv,evs,a3,oBs]
  rfl
 have s1:∀ n,(rn fns (m+3) (n+3)).ev T st (.gc (.sli (.var 6) (some (.lit (.int 1))) none))=some (.lst (r.map numV),st):=fun n=>by
  have:=gc_sli (c:=callD fns (m+3)) (n:=n+1) (τ:=T) (st:=st) (a:=.var 6) (lo:=some (.lit (.int 1))) (hi:=none) (xs:=(c::r).map numV) (l:=some ((1:Nat):Int)) (h:=none) (v6 n) rfl rfl (by rw[cutDr]; exact nl_num r)
  rw[cutDr]at this
  exact this
 have a5:∀ n,(rn fns (m+3) (n+5)).ev T st (.bcall .tuple [(.gc (.sli (.var 6) (some (.lit (.int 1))) none))])=some (.tup (r.map numV),st):=fun n=>by
  rw[ev_k]
  simp only[stepEv,evs,s1,oBs,bfun,bTuple,seqAt,oMs]
 have ad:binop st .Add (.tup [tD g]) (.tup (r.map numV))=some (.tup (tD g::r.map numV),st):=by
  show(if ([tD g]:List D).isEmpty||decide (lim<([tD g]:List D).length+(r.map numV).length) then none else some (D.tup ([tD g]++r.map numV),st))=_
  rw[if_neg]
  ·rfl
  ·simp only[List.isEmpty_cons,Bool.false_or,decide_eq_true_eq,List.length_map,List.length_cons,List.length_nil]
   unfold lim
   omega
 have a6:∀ n,(rn fns (m+3) (n+6)).ev T st (.bin .Add (.tup [(.idx (.var 4) (.lit (.int 2)))]) (.bcall .tuple [(.gc (.sli (.var 6) (some (.lit (.int 1))) none))]))=some (.tup (tD g::r.map numV),st):=fun n=>evB (n:=n+5) (a4 (n+2)) (a5 n) ad
 have a7:∀ n,(rn fns (m+3) (n+3)).ev T st (.bcall .tuple [(.var 7)])=some (.tup (b.map numV),st):=fun n=>by
  rw[ev_k]
  simp only[stepEv,evs,v7,oBs,bfun,bTuple,seqAt,oMs]
 refine stR ?_
 rw[ev_k]
 simp only[stepEv,evs,a1,a2,a6,a7,v3,oBs]
 rfl
end
noncomputable def lpRest:List S:=[.ite lpE5 [.ret (.lit .non)] [],
 .ite lpE6 [.ret (.lit .non)] [],
 .set (.var 6) (.gc (.call 12 [(.gc (.bin .Add (.gc (.sli (.var 4) (some (.lit (.int 1))) (some (.lit (.int 2))))) (.gc (.sli (.var 4) (some (.lit (.int 3))) none))))])),
 .set (.var 7) (.gc (.call 12 [(.var 5)])),
 .ite (.or (.cmp .Is (.var 6) (.lit .non)) (.cmp .Is (.var 7) (.lit .non))) [.ret (.lit .non)] [],
 .ret (.tup [(.lit (.str "held")),(.idx (.var 6) (.lit (.int 0))),(.bin .Add (.tup [(.idx (.var 4) (.lit (.int 2)))]) (.bcall .tuple [(.gc (.sli (.var 6) (some (.lit (.int 1))) none))])),(.bcall .tuple [(.var 7)]),(.var 3)])]
theorem lp_body:b_law_read_paper=[.set (.tup [1,2]) (.gc (.call 17 [(.gc (.meth (.var 0) .split [(.lit (.str " "))])),(.lit (.str "others"))])),
 .set (.var 3) (.gc (.call 18 [(.var 2)])),
 .ite lpE3 [.ret (.idx (.gc (.lst [(.tup [(.lit (.str "open")),(.var 3)]),(.lit .non)])) (.bcall .int [(.cmp .Is (.var 3) (.lit .non))]))] [],
 .set (.tup [4,5]) (.gc (.call 17 [(.var 1),(.lit (.str "years"))]))]++lpRest:=rfl
section
variable (m:Nat)(st:Store)(x bk oo aD:D)
theorem lp_ret{τ:Sl}{n:Nat}{c:E}{b:List S}(h:(rn fns (m+3) (n+2)).tst τ st c=some (true,st)):exs (stepEx (rn fns (m+3) (n+2))) (.ite c [.ret (.lit .non)] []::b) τ st=some (.rt .non,st):=by
 refine exs_ret ((stepEx_ite_t h).trans ?_)
 rw[ex_k]
 exact exs_ret rfl
theorem lp_skip{τ:Sl}{n:Nat}{c:E}{b:List S}(h:(rn fns (m+3) (n+2)).tst τ st c=some (false,st)):exs (stepEx (rn fns (m+3) (n+2))) (.ite c [.ret (.lit .non)] []::b) τ st=exs (stepEx (rn fns (m+3) (n+2))) b τ st:=exs_cons ((stepEx_ite_f h).trans rfl)
theorem lp_two(c g:List Nat)(r b:List (List Nat))(k:Nat)(hk:k<2)(hr:r.length=2*k)(hw:∀ w∈c::r,wOk w)(hb:∀ w∈b,wOk w)(hl:b.length<1000)(n:Nat):
  exs (stepEx (rn fns (m+3) (n+20))) lpRest (hL x aD bk oo (wHeld::c::g::r) (.lst (b.map tD)) none none) st=some (.rt (if g=[wGround,wDip].getD k []∧(c::r).all nOk=true∧b.all nOk=true then .tup [tD wHeld,numV c,.tup (tD g::r.map numV),.tup (b.map numV),oo] else .non),st):=by
 unfold lpRest
 have hlen:(wHeld::c::g::r).length=2*k+3:=by simp[hr]
 rw[lp_skip (m:=m) (st:=st) (n:=n+18) (by
  rw[lp_t5 m st x bk oo aD _ _ (n+8),hlen]
  congr 2
  simp only[isNon,Bool.false_or,List.take_succ_cons,List.take_zero,beq_self_eq_true,Bool.not_true]
  rw[Bool.not_eq_false',decide_eq_true_iff]
  omega)]
 have t6:=lp_t6 m st x bk oo aD (wHeld::c::g::r) (.lst (b.map tD)) wHeld c g r rfl k hk hlen (n+8)
 by_cases hg:g=[wGround,wDip].getD k []
 ·rw[lp_skip (m:=m) (st:=st) (n:=n+18) (by rw[t6,show(g==[wGround,wDip].getD k [])=true by simpa using hg]; rfl)]
  rw[exs_cons (lp_7 m st x bk oo aD _ _ c r wHeld g rfl hw (by omega) n),exs_cons (lp_8 m st x bk oo aD _ b _ hb hl n)]
  have t9:(rn fns (m+3) (n+18+2)).tst (hL x aD bk oo (wHeld::c::g::r) (.lst (b.map tD)) (some (numsV (c::r))) (some (numsV b))) st (.or (.cmp .Is (.var 6) (.lit .non)) (.cmp .Is (.var 7) (.lit .non)))=some (!((c::r).all nOk) || !(b.all nOk),st):=by
   have e:∀ ws,isNon (numsV ws) = !(ws.all nOk):=fun ws=>by unfold numsV; cases ws.all nOk<;>rfl
   rw[← e,← e]
   exact tOr (n:=n+19) (is_non (n:=n+17) rfl) (is_non (n:=n+17) rfl)
  by_cases h2:(c::r).all nOk=true∧b.all nOk=true
  ·rw[lp_skip (m:=m) (st:=st) (n:=n+18) (by rw[t9,h2.1,h2.2]; rfl),if_pos ⟨hg,h2.1,h2.2⟩]
   have e6:numsV (c::r)=.lst ((c::r).map numV):=by unfold numsV; rw[if_pos h2.1]
   have e7:numsV b=.lst (b.map numV):=by unfold numsV; rw[if_pos h2.2]
   rw[e6,e7]
   exact exs_ret ((lp_10 m st x bk oo aD wHeld c g r b n).resolve_right (by omega))
  ·rw[if_neg (fun z=>h2 z.2)]
   refine lp_ret (m:=m) (st:=st) (n:=n+18) ?_
   rw[t9]
   congr 2
   cases hx:(c::r).all nOk<;>cases hy:b.all nOk<;>first|rfl|exact absurd ⟨hx,hy⟩ h2
 ·rw[if_neg (fun z=>hg z.1)]
  exact lp_ret (m:=m) (st:=st) (n:=n+18) (by rw[t6,show(g==[wGround,wDip].getD k [])=false by simpa using hg]; rfl)
theorem lp_rest(h:List (List Nat))(b:List (List Nat))(hw:∀ w∈h,wOk w)(hb:∀ w∈b,wOk w)(hl:b.length<1000)(n:Nat):
  exs (stepEx (rn fns (m+3) (n+20))) lpRest (hL x aD bk oo h (.lst (b.map tD)) none none) st=some (.rt ((heldV h b oo).getD .non),st):=by
 have bad:(!(h.take 1==[wHeld]) || !decide (h.length=3∨h.length=5))=true→heldV h b oo=none→exs (stepEx (rn fns (m+3) (n+20))) lpRest (hL x aD bk oo h (.lst (b.map tD)) none none) st=some (.rt ((heldV h b oo).getD .non),st):=fun h1 h2=>by
  rw[h2]
  unfold lpRest
  refine lp_ret (m:=m) (st:=st) (n:=n+18) ?_
  rw[lp_t5 m st x bk oo aD _ _ (n+8),h1]
  rfl
 match h,hw,bad with
 |[],_,bad=>exact bad rfl rfl
 |[_],_,bad=>exact bad (by simp) rfl
 |[p,c],_,bad=>exact bad (by simp) (by unfold heldV; simp[wayV])
 |[p,c,g],hw,bad=>
  by_cases hp:p=wHeld
  ·subst hp
   have:=lp_two m st x bk oo aD c g [] b 0 (by omega) rfl (fun w h=>hw w (by simp at h; simp[h])) hb hl n
   refine this.trans ?_
   congr 3
   unfold heldV wayV
   by_cases hc:nOk c=true<;>by_cases hg:g=wGround<;>by_cases hbb:b.all nOk=true<;>simp[hc,hg,hbb]
  ·refine bad (by simp[hp]) ?_
   unfold heldV
   simp[hp]
 |[p,c,g,u],_,bad=>exact bad (by simp) (by unfold heldV; simp[wayV])
 |[p,c,g,u,v],hw,bad=>
  by_cases hp:p=wHeld
  ·subst hp
   have:=lp_two m st x bk oo aD c g [u,v] b 1 (by omega) rfl (fun w h=>hw w (by simp at h; rcases h with h|h|h<;>simp[h])) hb hl n
   refine this.trans ?_
   congr 3
   unfold heldV wayV
   by_cases hc:nOk c=true<;>by_cases hg:g=wDip<;>by_cases hu:nOk u=true<;>by_cases hv:nOk v=true<;>by_cases hbb:b.all nOk=true<;>simp[hc,hg,hu,hv,hbb]
  ·refine bad (by simp[hp]) ?_
   unfold heldV
   simp[hp]
 |p::c::g::u::v::w::r,_,bad=>
  refine bad ?_ ?_
  ·have:decide ((p::c::g::u::v::w::r).length=3∨(p::c::g::u::v::w::r).length=5)=false:=by rw[decide_eq_false_iff_not]; simp only[List.length_cons]; omega
   rw[this]
   simp
  ·unfold heldV
   simp[wayV]
end
section
variable (m:Nat)(st:Store){B:Nat}(cs:List Nat)(hg:Gt B cs)(hB:B<600)
include hg hB
theorem lpaper_ok:callD fns (m+4) 19 [.str (mk cs)] st=some ((papO (splitC 32 cs)).getD .non,st):=by
 refine call_of (4+20) (F:=f_law_read_paper) rfl rfl rfl ?_
 show exs (stepEx (rn fns (m+3) (4+20))) b_law_read_paper (pT (.str (mk cs)) none none none none none none none) st=_
 rw[lp_body]
 simp only[List.cons_append,List.nil_append]
 rw[exs_cons (lp_1 m st cs hg hB 4),exs_cons (lp_2 m st cs hg hB _ 4)]
 have t3:=lp_t3 m st (.str (mk cs)) (backD wOthers (splitC 32 cs)) (ooD (splitC 32 cs)) (frontD wOthers (splitC 32 cs)) none none none none 14
 have r3:=lp_r3 m st (.str (mk cs)) (backD wOthers (splitC 32 cs)) (ooD (splitC 32 cs)) (.lst ((frontD wOthers (splitC 32 cs)).map tD)) none none none none (ooD_nl _) 3
 have early:(isNon (ooD (splitC 32 cs))||(frontD wOthers (splitC 32 cs)==[wOpen]))=true→∀ b,exs (stepEx (rn fns (m+3) (4+20))) (.ite lpE3 [.ret (.idx (.gc (.lst [(.tup [(.lit (.str "open")),(.var 3)]),(.lit .non)])) (.bcall .int [(.cmp .Is (.var 3) (.lit .non))]))] []::b) (pT (.str (mk cs)) (some (.lst ((frontD wOthers (splitC 32 cs)).map tD))) (some (backD wOthers (splitC 32 cs))) (some (ooD (splitC 32 cs))) none none none none) st=some (.rt (if isNon (ooD (splitC 32 cs))=true then .non else .tup [tD wOpen,ooD (splitC 32 cs)]),st):=fun e b=>by
  refine exs_ret ((stepEx_ite_t (st':=st) (t3.trans (by rw[e]))).trans ?_)
  rw[ex_k]
  exact exs_ret r3
 rcases oo_non (splitC 32 cs) with hn|⟨a,b,os,h1,h2,h3,h4,h5⟩
 ·rw[early (by rw[hn]; rfl),if_pos hn,pap_non hn]
  rfl
 ·obtain⟨e1,n1⟩:=cutAt_some h1
  obtain⟨wa,wb,la,lb⟩:=paper_w cs hg hB e1
  by_cases ho:a=[wOpen]
  ·have hp:papO (splitC 32 cs)=some (.tup [tD wOpen,.tup (os.map tV)]):=by
    unfold papO
    simp only[h1,oBs,h2,h3,if_true,ho]
   rw[early (by rw[h5,ho]; simp),h4,hp,if_neg (by simp[isNon])]
   rfl
  ·have hp:papO (splitC 32 cs)=(cutAt wYears a).bind fun q=>heldV q.1 q.2 (.tup (os.map tV)):=by
    unfold papO
    simp only[h1,oBs,h2,h3,if_true,ho,if_false]
   rw[hp]
   rw[h4,h5]at t3 ⊢
   rw[exs_cons ((stepEx_ite_f (st':=st) (t3.trans (by rw[show(a==[wOpen])=false by simpa using ho]; rfl))).trans rfl)]
   rw[exs_cons (lp_4 m st (.str (mk cs)) (backD wOthers (splitC 32 cs)) (.tup (os.map tV)) a (by omega) 4)]
   unfold backD frontD
   cases h6:cutAt wYears a with
   |none=>
    unfold lpRest
    refine lp_ret (m:=m) (st:=st) (n:=22) ?_
    exact(lp_t5 m st _ _ _ _ _ _ 12).trans rfl
   |some q=>
    obtain⟨q1,q2⟩:=q
    obtain⟨e6,n6⟩:=cutAt_some h6
    rw[e6]at wa la
    simp only[List.length_append,List.length_cons]at la
    exact lp_rest m st _ _ _ _ q1 q2 (fun w hw=>wa w (by simp[hw])) (fun w hw=>wa w (by simp[hw])) (by omega) 4
end
theorem call_inv{f d:Nat}{F:Fn}{ds:List D}{st st':Store}{v:D}(hf:fns[f]?=some F)(h:callD fns (d+1) f ds st=some (v,st')):ds.length=F.np∧∃ k o,exs (stepEx (rn fns d (k+30))) F.body (ds.map some++List.replicate (F.nl - ds.length) none) st=some (o,st')∧(o=.rt v∨∃ τ,o=.nx τ):=by
 have h:stepCall fns (RL (callD fns d)) f ds st=some (v,st'):=h
 unfold stepCall at h
 rw[hf]at h
 dsimp only at h
 split at h
 ·rename_i hl
  obtain⟨p,e1,e2⟩:=Option.bind_eq_some_iff.mp h
  obtain⟨k,e3⟩:=lim1_is e1
  have e4:=ex_up (N:=k+31) e3 (by omega)
  obtain⟨o,s⟩:=p
  refine⟨hl,k,o,?_,?_⟩
  ·cases o with
   |rt d=>cases e2; exact e4
   |nx τ=>cases e2; exact e4
   |bk τ=>cases e2
   |ct τ=>cases e2
  ·cases o with
   |rt d=>cases e2; exact .inl rfl
   |nx τ=>exact .inr ⟨τ,rfl⟩
   |bk τ=>cases e2
   |ct τ=>cases e2
 ·cases h
noncomputable def chF(g:Nat):Fn:=⟨1,1,[.ret (.gc (.call g [(.var 0)]))]⟩
theorem ch_fwd{f g d:Nat}{x v:D}{st:Store}(hf:fns[f]?=some (chF g))(h:callD fns d g [x] st=some (v,st))(hv:noLoc v=true):callD fns (d+1) f [x] st=some (v,st):=by
 refine call_of (0+10) (F:=chF g) hf rfl rfl ?_
 show exs (stepEx (rn fns d (0+10))) [.ret (.gc (.call g [(.var 0)]))] [some x] st=_
 exact exs_ret (stR (gc_callR (r:=[]) (n:=7) (ds:=[x]) rfl (by rw[List.append_nil]; exact h) hv))
theorem ch_inv{f g d:Nat}{x:D}{st:Store}{r:D×Store}(hf:fns[f]?=some (chF g))(h:callD fns (d+1) f [x] st=some r):∃ r',callD fns d g [x] st=some r':=by
 obtain⟨v,st'⟩:=r
 obtain⟨_,k,o,e,_⟩:=call_inv hf h
 have e:((stepEx (rn fns d (k+30)) [some x] st (.ret (.gc (.call g [(.var 0)])))).bind fun p=>match p.1 with|.nx τ'=>exs (stepEx (rn fns d (k+30))) [] τ' p.2|o=>some (o,p.2))=some (o,st'):=e
 obtain⟨p,e1,_⟩:=Option.bind_eq_some_iff.mp e
 simp only[stepEx,ev_k,stepEv,evs,List.getElem?_cons_zero,oBs,call_k]at e1
 cases hc:callD fns d g [x] st with
 |none=>rw[hc]at e1; cases e1
 |some r'=>exact⟨r',rfl⟩
theorem told_inv{d:Nat}{ds:List D}{st:Store}{r:D×Store}(h:callD fns (d+1) 20 ds st=some r):∃ cs,ds=[.str (mk cs)]∧Gt 590 cs∧∃ r',callD fns d 24 ds st=some r':=by
 obtain⟨v,st'⟩:=r
 obtain⟨hl,k,o,e,ho⟩:=call_inv (F:=f_law_told) rfl h
 have hl:ds.length=1:=hl
 obtain⟨x,rfl⟩:∃ x,ds=[x]:=by
  match ds,hl with
  |[x],_=>exact⟨x,rfl⟩
 have e:exs (stepEx (rn fns d (k+30))) b_law_told [some x,none] st=some (o,st'):=e
 have bad:(rn fns d (k+30)).tst [some x,none] st (.and (.isi (.var 0) [.str] false) (.cmp .LtE (.bcall .len [(.var 0)]) (.lit (.int 590))))=some (false,st)→False:=fun t=>by
  unfold b_law_told at e
  have s1:stepEx (rn fns d (k+30)) [some x,none] st (.ite (.and (.isi (.var 0) [.str] false) (.cmp .LtE (.bcall .len [(.var 0)]) (.lit (.int 590)))) [] [.brk])=some (.bk [some x,none],st):=(stepEx_ite_f t).trans rfl
  have e':((stepEx (rn fns d (k+30)) [some x,none] st (.ite (.and (.isi (.var 0) [.str] false) (.cmp .LtE (.bcall .len [(.var 0)]) (.lit (.int 590)))) [] [.brk])).bind fun p=>match p.1 with|.nx τ'=>exs (stepEx (rn fns d (k+30))) [.forr (.var 1) (.var 0) [],.expr (.gc (.call 24 [(.var 0)])),.ret (.gc (.call 19 [(.var 0)]))] τ' p.2|o=>some (o,p.2))=some (o,st'):=e
  rw[s1]at e'
  cases e'
  rcases ho with z|⟨τ,z⟩<;>cases z
 have isi:∀ n,(rn fns d (n+3)).tst [some x,none] st (.isi (.var 0) [.str] false)=(tyName st x).map fun t=>(tyIs .str t,st):=fun n=>by
  rw[tst_k]
  simp only[stepTst,ev_k,stepEv,List.getElem?_cons_zero,oBs]
  cases tyName st x with
  |none=>rfl
  |some t=>simp only[oMs,oBs,List.any_cons,List.any_nil,Bool.or_false,truth]
 have nostr:∀ t,tyName st x=some t→tyIs .str t=false→False:=fun t h1 h2=>bad (by
  rw[tst_k]
  simp only[stepTst,isi,h1,h2,oMs,oBs]
  rfl)
 have none_:tyName st x=none→False:=fun h1=>by
  have:stepEx (rn fns d (k+30)) [some x,none] st (.ite (.and (.isi (.var 0) [.str] false) (.cmp .LtE (.bcall .len [(.var 0)]) (.lit (.int 590)))) [] [.brk])=none:=by
   show((rn fns d (k+30)).tst _ _ _).bind _=none
   rw[tst_k]
   simp only[stepTst,isi,h1,Option.map_none,Option.bind_none]
  have e':((stepEx (rn fns d (k+30)) [some x,none] st (.ite (.and (.isi (.var 0) [.str] false) (.cmp .LtE (.bcall .len [(.var 0)]) (.lit (.int 590)))) [] [.brk])).bind fun p=>match p.1 with|.nx τ'=>exs (stepEx (rn fns d (k+30))) [.forr (.var 1) (.var 0) [],.expr (.gc (.call 24 [(.var 0)])),.ret (.gc (.call 19 [(.var 0)]))] τ' p.2|o=>some (o,p.2))=some (o,st'):=e
  rw[this]at e'
  cases e'
 have str:∃ z,x=.str z:=by
  cases x with
  |str z=>exact⟨z,rfl⟩
  |non=>exact(nostr .non rfl rfl).elim
  |bl b=>exact(nostr .bl rfl rfl).elim
  |int i=>exact(nostr .int rfl rfl).elim
  |tup ds=>exact(nostr .tup rfl rfl).elim
  |lst ds=>exact(nostr .lst rfl rfl).elim
  |loc l=>
   cases hq:tyName st (.loc l) with
   |none=>exact(none_ hq).elim
   |some t=>
    have:((seqAt st (.loc l)).map fun _=>Ty.lst)=some t:=hq
    obtain⟨_,_,z⟩:=Option.map_eq_some_iff.mp this
    subst z
    exact(nostr _ hq rfl).elim
 obtain⟨z,rfl⟩:=str
 obtain⟨cs,rfl⟩:∃ cs,z=mk cs:=⟨z.cps.toList,rfl⟩
 have lenT:∀ n,(rn fns d (n+5)).tst [some (.str (mk cs)),none] st (.cmp .LtE (.bcall .len [(.var 0)]) (.lit (.int 590)))=if lim<cs.length then none else some (decide (cs.length≤590),st):=fun n=>by
  rw[tst_k]
  simp only[stepTst,ev_k,stepEv,evs,List.getElem?_cons_zero,oBs,bfun,bLen,mk_len]
  split
  ·rfl
  ·simp only[oBs,cmpD,oMs]
   congr 2
   rw[Bool.eq_iff_iff,decide_eq_true_iff,decide_eq_true_iff]
   omega
 have guard:∀ n,(rn fns d (n+6)).tst [some (.str (mk cs)),none] st (.and (.isi (.var 0) [.str] false) (.cmp .LtE (.bcall .len [(.var 0)]) (.lit (.int 590))))=if lim<cs.length then none else some (decide (cs.length≤590),st):=fun n=>by
  rw[tst_k]
  simp only[stepTst,isi,tyName,oMs,oBs,lenT]
  rfl
 have g1:=guard (k+24)
 have hle:cs.length≤590:=by
  by_cases h1:lim<cs.length
  ·rw[if_pos h1]at g1
   have e':((stepEx (rn fns d (k+30)) [some (.str (mk cs)),none] st (.ite (.and (.isi (.var 0) [.str] false) (.cmp .LtE (.bcall .len [(.var 0)]) (.lit (.int 590)))) [] [.brk])).bind fun p=>match p.1 with|.nx τ'=>exs (stepEx (rn fns d (k+30))) [.forr (.var 1) (.var 0) [],.expr (.gc (.call 24 [(.var 0)])),.ret (.gc (.call 19 [(.var 0)]))] τ' p.2|o=>some (o,p.2))=some (o,st'):=e
   have:stepEx (rn fns d (k+30)) [some (.str (mk cs)),none] st (.ite (.and (.isi (.var 0) [.str] false) (.cmp .LtE (.bcall .len [(.var 0)]) (.lit (.int 590)))) [] [.brk])=none:=by
    show((rn fns d (k+30)).tst _ _ _).bind _=none
    rw[show(rn fns d (k+30)).tst [some (.str (mk cs)),none] st (.and (.isi (.var 0) [.str] false) (.cmp .LtE (.bcall .len [(.var 0)]) (.lit (.int 590))))=none from g1]
    rfl
   rw[this]at e'
   cases e'
  ·rw[if_neg h1]at g1
   by_cases h2:cs.length≤590
   ·exact h2
   ·rw[decide_eq_false h2]at g1
    exact(bad g1).elim
 rw[if_neg (by unfold lim; omega),decide_eq_true hle]at g1
 have e':exs (stepEx (rn fns d (k+30))) [.forr (.var 1) (.var 0) [],.expr (.gc (.call 24 [(.var 0)])),.ret (.gc (.call 19 [(.var 0)]))] [some (.str (mk cs)),none] st=some (o,st'):=by
  have:=exs_cons (b:=[.forr (.var 1) (.var 0) [],.expr (.gc (.call 24 [(.var 0)])),.ret (.gc (.call 19 [(.var 0)]))]) (f:=stepEx (rn fns d (k+30))) (x:=.ite (.and (.isi (.var 0) [.str] false) (.cmp .LtE (.bcall .len [(.var 0)]) (.lit (.int 590)))) [] [.brk]) (τ:=[some (.str (mk cs)),none]) (τ':=[some (.str (mk cs)),none]) (s:=st) (s':=st) ((stepEx_ite_t g1).trans rfl)
  exact this.symm.trans e
 have src_:∀ n,src (rn fns d (n+1)) [some (.str (mk cs)),none] st (.var 0)=if (mk cs).cps.all (· < 128) then some (.str (mk cs),st) else none:=fun n=>rfl
 have hasc:(mk cs).cps.all (· < 128)=true:=by
  by_cases h1:(mk cs).cps.all (· < 128)=true
  ·exact h1
  ·have s1:stepEx (rn fns d (k+30)) [some (.str (mk cs)),none] st (.forr (.var 1) (.var 0) [])=none:=by
    show(src (rn fns d (k+29+1)) _ _ _).bind _=none
    rw[src_,if_neg h1]
    rfl
   have e2:((stepEx (rn fns d (k+30)) [some (.str (mk cs)),none] st (.forr (.var 1) (.var 0) [])).bind fun p=>match p.1 with|.nx τ'=>exs (stepEx (rn fns d (k+30))) [.expr (.gc (.call 24 [(.var 0)])),.ret (.gc (.call 19 [(.var 0)]))] τ' p.2|o=>some (o,p.2))=some (o,st'):=e'
   rw[s1]at e2
   cases e2
 have asc:∀ c∈cs,c<128:=fun c hc=>by
  rw[Array.all_eq_true_iff_forall_mem]at hasc
  have:=hasc c (by show c∈cs.toArray; simpa using hc)
  simpa using this
 refine⟨cs,rfl,⟨asc,hle⟩,?_⟩
 obtain⟨τ',S',⟨rfl,y,rfl⟩,el⟩:=loop_all (ds:=cs.map sgn) (s:=.str (mk cs)) (f:=fun τ S dd=>(setT (.var 1) dd τ).bind fun τ'=>(rn fns d (k+30)).ex τ' S []) (τ:=[some (.str (mk cs)),none]) (st:=st) (fun i τ S=>S=st∧∃ y,τ=[some (.str (mk cs)),y]) (fun i τ S _=>at_str _ _ _) (fun i τ S dd hi hd p=>by
  obtain⟨rfl,y,rfl⟩:=p
  exact⟨_,_,rfl,rfl,_,rfl⟩) ⟨rfl,none,rfl⟩
 have s2:stepEx (rn fns d (k+30)) [some (.str (mk cs)),none] S' (.forr (.var 1) (.var 0) [])=some (.nx [some (.str (mk cs)),y],S'):=by
  show(src (rn fns d (k+29+1)) _ _ _).bind _=_
  rw[src_,if_pos hasc]
  rw[show(cs.map sgn).length=Src.size S' (.str (mk cs)) by simp[Src.size,mk_cps]]at el
  exact el
 have e3:=(exs_cons (b:=[.expr (.gc (.call 24 [(.var 0)])),.ret (.gc (.call 19 [(.var 0)]))]) s2).symm.trans e'
 have e4:((stepEx (rn fns d (k+30)) [some (.str (mk cs)),y] S' (.expr (.gc (.call 24 [(.var 0)])))).bind fun p=>match p.1 with|.nx τ'=>exs (stepEx (rn fns d (k+30))) [.ret (.gc (.call 19 [(.var 0)]))] τ' p.2|o=>some (o,p.2))=some (o,st'):=e3
 obtain⟨p,e1,_⟩:=Option.bind_eq_some_iff.mp e4
 simp only[stepEx,ev_k,stepEv,evs,List.getElem?_cons_zero,oBs,call_k]at e1
 cases hc:callD fns d 24 [.str (mk cs)] S' with
 |none=>rw[hc]at e1; cases e1
 |some r'=>exact⟨r',rfl⟩
theorem ch_deep{n:Nat}{x:D}{st:Store}{r:D×Store}(h:callD fns n 24 [x] st=some r):∃ m,n=m+8:=by
 match n,h with
 |0,h=>cases h
 |1,h=>obtain⟨_,h⟩:=ch_inv (g:=25) rfl h; cases h
 |2,h=>obtain⟨_,h⟩:=ch_inv (g:=25) rfl h; obtain⟨_,h⟩:=ch_inv (g:=26) rfl h; cases h
 |3,h=>obtain⟨_,h⟩:=ch_inv (g:=25) rfl h; obtain⟨_,h⟩:=ch_inv (g:=26) rfl h; obtain⟨_,h⟩:=ch_inv (g:=27) rfl h; cases h
 |4,h=>obtain⟨_,h⟩:=ch_inv (g:=25) rfl h; obtain⟨_,h⟩:=ch_inv (g:=26) rfl h; obtain⟨_,h⟩:=ch_inv (g:=27) rfl h; obtain⟨_,h⟩:=ch_inv (g:=28) rfl h; cases h
 |5,h=>obtain⟨_,h⟩:=ch_inv (g:=25) rfl h; obtain⟨_,h⟩:=ch_inv (g:=26) rfl h; obtain⟨_,h⟩:=ch_inv (g:=27) rfl h; obtain⟨_,h⟩:=ch_inv (g:=28) rfl h; obtain⟨_,h⟩:=ch_inv (g:=29) rfl h; cases h
 |6,h=>obtain⟨_,h⟩:=ch_inv (g:=25) rfl h; obtain⟨_,h⟩:=ch_inv (g:=26) rfl h; obtain⟨_,h⟩:=ch_inv (g:=27) rfl h; obtain⟨_,h⟩:=ch_inv (g:=28) rfl h; obtain⟨_,h⟩:=ch_inv (g:=29) rfl h; obtain⟨_,h⟩:=ch_inv (g:=30) rfl h; cases h
 |7,h=>obtain⟨_,h⟩:=ch_inv (g:=25) rfl h; obtain⟨_,h⟩:=ch_inv (g:=26) rfl h; obtain⟨_,h⟩:=ch_inv (g:=27) rfl h; obtain⟨_,h⟩:=ch_inv (g:=28) rfl h; obtain⟨_,h⟩:=ch_inv (g:=29) rfl h; obtain⟨_,h⟩:=ch_inv (g:=30) rfl h; obtain⟨_,h⟩:=ch_inv (g:=31) rfl h; cases h
 |m+8,_=>exact⟨m,rfl⟩
theorem ch_str(m:Nat)(st:Store)(z:Str):callD fns (m+8) 24 [.str z] st=some (.str z,st):=by
 have h7:callD fns (m+1) 31 [.str z] st=some (.str z,st):=call_of (0+10) (F:=f_ch7) rfl rfl rfl (exs_ret rfl)
 exact ch_fwd (f:=24) (g:=25) rfl (ch_fwd (f:=25) (g:=26) rfl (ch_fwd (f:=26) (g:=27) rfl (ch_fwd (f:=27) (g:=28) rfl (ch_fwd (f:=28) (g:=29) rfl (ch_fwd (f:=29) (g:=30) rfl (ch_fwd (f:=30) (g:=31) rfl h7 rfl) rfl) rfl) rfl) rfl) rfl) rfl
noncomputable def pv(cs:List Nat):D:=(papO (splitC 32 cs)).getD .non
theorem heldV_nl{a b:List (List Nat)}{oo d:D}(h:heldV a b oo=some d)(ho:noLoc oo=true):noLoc d=true:=by
 unfold heldV at h
 split at h
 ·split at h
  ·obtain⟨wd,h1,h2⟩:=Option.bind_eq_some_iff.mp h
   split at h2
   ·cases h2
    rw[noLoc_tup]
    simp only[noLocs_cons,numV_nl,wayV_nl h1,noLoc_tup,nl_num,ho,noLocs_nil,Bool.and_true]
    rfl
   ·cases h2
  ·cases h
 ·cases h
theorem pv_nl(cs:List Nat):noLoc (pv cs)=true:=by
 unfold pv
 cases h:papO (splitC 32 cs) with
 |none=>rfl
 |some d=>
  show noLoc d=true
  unfold papO at h
  obtain⟨p,h1,h⟩:=Option.bind_eq_some_iff.mp h
  obtain⟨os,h2,h⟩:=Option.bind_eq_some_iff.mp h
  split at h
  ·split at h
   ·cases h
    rw[noLoc_tup]
    simp only[noLocs_cons,os_nl,noLocs_nil,Bool.and_true]
    rfl
   ·obtain⟨q,h3,h4⟩:=Option.bind_eq_some_iff.mp h
    exact heldV_nl h4 (os_nl os)
  ·cases h
theorem told_ok(m:Nat)(st:Store)(cs:List Nat)(hg:Gt 590 cs):callD fns (m+9) 20 [.str (mk cs)] st=some (pv cs,st):=by
 refine call_of (0+20) (F:=f_law_told) rfl rfl rfl ?_
 show exs (stepEx (rn fns (m+8) (0+20))) b_law_told [some (.str (mk cs)),none] st=_
 unfold b_law_told
 have hli:¬ lim<(mk cs).length:=by rw[mk_len]; unfold lim; have:=hg.2; omega
 have ln:∀ S,bLen S [.str (mk cs)]=some (.int (cs.length:Int),S):=fun S=>by
  simp only[bLen]
  rw[if_neg hli,mk_len]
 have t1:(rn fns (m+8) (0+20)).tst [some (.str (mk cs)),none] st (.and (.isi (.var 0) [.str] false) (.cmp .LtE (.bcall .len [(.var 0)]) (.lit (.int 590))))=some (true,st):=by
  refine tAnd (n:=19) (x:=true) (y:=true) rfl (tCmp (n:=18) (x:=.int (cs.length:Int)) (y:=.int 590) (by rw[ev_k]; exact ln st) rfl ?_)
  show some (decide ((cs.length:Int)≤590))=_
  rw[decide_eq_true (by have:=hg.2; omega)]
 rw[exs_cons (τ':=[some (.str (mk cs)),none]) (s':=st) ((stepEx_ite_t t1).trans rfl)]
 obtain⟨τ',S',⟨rfl,y,rfl⟩,el⟩:=loop_all (ds:=cs.map sgn) (s:=.str (mk cs)) (f:=fun τ S dd=>(setT (.var 1) dd τ).bind fun τ'=>(rn fns (m+8) (0+20)).ex τ' S []) (τ:=[some (.str (mk cs)),none]) (st:=st) (fun i τ S=>S=st∧∃ y,τ=[some (.str (mk cs)),y]) (fun i τ S _=>at_str _ _ _) (fun i τ S dd hi hd p=>by
  obtain⟨rfl,y,rfl⟩:=p
  exact⟨_,_,rfl,rfl,_,rfl⟩) ⟨rfl,none,rfl⟩
 rw[exs_cons (τ':=[some (.str (mk cs)),y]) (s':=S') (by
  show(if (mk cs).cps.all (· < 128) then some (Src.str (mk cs),S') else none).bind _=_
  rw[if_pos (mk_ascii hg.1)]
  rw[show(cs.map sgn).length=Src.size S' (.str (mk cs)) by simp[Src.size,mk_cps]]at el
  exact el)]
 have c1:(rn fns (m+8) (0+20)).ev [some (.str (mk cs)),y] S' (.gc (.call 24 [(.var 0)]))=some (.str (mk cs),S'):=gc_callR (r:=[]) (n:=17) (ds:=[.str (mk cs)]) rfl (by rw[List.append_nil]; exact ch_str m S' _) rfl
 rw[exs_cons (τ':=[some (.str (mk cs)),y]) (s':=S') (by show((rn fns (m+8) (0+20)).ev _ _ _).map _=_; rw[c1]; rfl)]
 have c2:(rn fns (m+8) (0+20)).ev [some (.str (mk cs)),y] S' (.gc (.call 19 [(.var 0)]))=some (pv cs,S'):=gc_callR (r:=[]) (n:=17) (ds:=[.str (mk cs)]) rfl (by rw[List.append_nil]; exact lpaper_ok (m+4) S' cs hg (by omega)) (pv_nl cs)
 exact exs_ret (stR c2)
theorem told_eq(n:Nat)(ds:List D)(st0:Store)(d:D)(st':Store)(h:callD fns (n+1) 20 ds st0=some (d,st')):∃ z,ds=[z]∧((∃ k,(rn fns n k).ev [some z,some .non] st0 (.gc (.call 8 [.var 0]))=some (d,st'))∨(d=.non∧XC fns okF n 8 [z] st0 st')):=by
 obtain⟨cs,rfl,hg,r',h2⟩:=told_inv h
 obtain⟨m,rfl⟩:=ch_deep h2
 refine⟨_,rfl,?_⟩
 rw[told_ok m st0 cs hg]at h
 cases h
 unfold pv
 cases hp:papO (splitC 32 cs) with
 |none=>exact .inr ⟨rfl,paper_x (m+2) st0 cs hg (by omega) hp⟩
 |some d=>
  refine .inl ⟨20,gc_callR (r:=[]) (n:=17) (ds:=[.str (mk cs)]) rfl (by rw[List.append_nil]; exact paper_ok (m+2) st0 cs hg (by omega) hp) ?_⟩
  have:=pv_nl cs
  unfold pv at this
  rw[hp]at this
  exact this
end K34
end
section
namespace K34p
open M
open PySem (Str)
open K34 (fns f_law_flat_paper b_law_flat_paper f_law_loose_paper b_law_loose_paper wOpen wHeld wGround wDip wYears wOthers wGiven wFallen wUnvested wYounger xOpen xHeld xGround xDip xYears xOthers xGiven xFallen xUnvested xYounger wordsO hDraw hGreat)
theorem drw{m:Nat}{ns:List Int}(hn:ns.length≤63)(hm:1≤m)(st:Store)(k j many:Int)(hj:0≤j)(hj2:j<100000)(hm2:0<many):callD fns m 9 [sD ns,.int k,.int j,.int many] st=some (.int (drawV ns k j many),st):=M.drw hDraw hm hn st k j many hj hj2 hm2
theorem great_ok{m:Nat}(hm:2≤m)(st:Store)(ns:List Int)(k j:Int)(hn:ns.length≤63)(hj:0≤j)(hj2:j<900):callD fns m 13 [sD ns,.int k,.int j] st=some (iD (greatN ns k j),st):=M.great_ok hDraw hGreat hm st ns k j hn hj hj2
structure Oth where
 c:Nat
 w:List Nat
 d:Nat
def Oth.ok(o:Oth):Prop:=nSm o.c∧nSm o.d∧o.w∈wordsO
noncomputable def oD(o:Oth):D:=.tup [iD o.c,tD o.w,iD o.d]
noncomputable def oP(o:Oth):List (List Nat):=[natD o.c,o.w,natD o.d]
theorem flat_len(os:List Oth):(os.flatMap oP).length=3*os.length:=by
 induction os with
 |nil=>rfl
 |cons o r ih=>rw[List.flatMap_cons,List.length_append,ih]; simp[oP]; omega
inductive Way where
 |dip (v c:Nat)
 |ground
noncomputable def Way.ok:Way→Prop
 |.dip v c=>nSm v∧nSm c
 |.ground=>True
noncomputable def wayD:Way→D
 |.dip v c=>.tup [tD wDip,iD v,iD c]
 |.ground=>.tup [tD wGround]
noncomputable def wayP:Way→List (List Nat)
 |.dip v c=>[wDip,natD v,natD c]
 |.ground=>[wGround]
inductive Pap where
 |op (os:List Oth)
 |held (c:Nat) (w:Way) (ys:List Nat) (os:List Oth)
noncomputable def Pap.ok:Pap→Prop
 |.op os=>(∀ o∈os,o.ok)∧os.length<6
 |.held c w ys os=>nSm c∧w.ok∧(∀ y∈ys,nSm y)∧ys.length<7∧(∀ o∈os,o.ok)∧os.length<6
noncomputable def papD:Pap→D
 |.op os=>.tup [tD wOpen,.tup (os.map oD)]
 |.held c w ys os=>.tup [tD wHeld,iD c,wayD w,.tup (ys.map iD),.tup (os.map oD)]
noncomputable def papH:Pap→List (List Nat)
 |.op os=>[wOpen]
 |.held c w ys os=>wHeld::natD c::(wayP w++wYears::ys.map natD)
noncomputable def papO:Pap→List Oth
 |.op os=>os
 |.held _ _ _ os=>os
noncomputable def papP(p:Pap):List (List Nat):=papH p++wOthers::(papO p).flatMap oP
noncomputable def papX(p:Pap):List Nat:=joinC 32 (papP p)
def gd(p:List Nat):Prop:=32 ∉ p∧p.length≤45
theorem gd_nat{k:Nat}(h:nSm k):gd (natD k):=⟨fig_ne (by decide),h.len⟩
theorem gd_o{o:Oth}(h:o.ok):∀ p∈oP o,gd p:=by
 intro p hp
 simp only[oP,List.mem_cons,List.not_mem_nil,or_false]at hp
 rcases hp with rfl|rfl|rfl
 ·exact gd_nat h.1
 ·have:∀ w∈wordsO,gd w:=by unfold gd; decide
  exact this _ h.2.2
 ·exact gd_nat h.2.1
theorem gd_os{os:List Oth}(h:∀ o∈os,o.ok):∀ p∈os.flatMap oP,gd p:=fun p hp=>by
 obtain⟨o,ho,hp⟩:=List.mem_flatMap.mp hp
 exact gd_o (h o ho) p hp
theorem gd_w{w:Way}(h:w.ok):∀ p∈wayP w,gd p:=by
 cases w with
 |ground=>intro p hp; rw[wayP,List.mem_singleton]at hp; subst hp; unfold gd; decide
 |dip v c=>
  intro p hp
  simp only[wayP,List.mem_cons,List.not_mem_nil,or_false]at hp
  rcases hp with rfl|rfl|rfl
  ·unfold gd; decide
  ·exact gd_nat h.1
  ·exact gd_nat h.2
theorem pap_gd{p:Pap}(h:p.ok):∀ x∈papP p,gd x:=by
 intro x hx
 rw[papP,List.mem_append,List.mem_cons]at hx
 have ho:gd wOthers:=by unfold gd; decide
 cases p with
 |op os=>
  rcases hx with hx|rfl|hx
  ·rw[papH,List.mem_singleton]at hx; subst hx; unfold gd; decide
  ·exact ho
  ·exact gd_os h.1 x hx
 |held c w ys os=>
  obtain⟨h1,h2,h3,_,h4,_⟩:=h
  rcases hx with hx|rfl|hx
  ·rw[papH]at hx
   simp only[List.mem_cons,List.mem_append,List.mem_map]at hx
   rcases hx with rfl|rfl|hx|rfl|⟨y,hy,rfl⟩
   ·unfold gd; decide
   ·exact gd_nat h1
   ·exact gd_w h2 x hx
   ·unfold gd; decide
   ·exact gd_nat (h3 y hy)
  ·exact ho
  ·exact gd_os h4 x hx
theorem pap_len{p:Pap}(h:p.ok):(papP p).length≤200:=by
 rw[papP,List.length_append,List.length_cons,flat_len]
 cases p with
 |op os=>
  have:=h.2
  simp only[papH,papO,List.length_singleton]
  omega
 |held c w ys os=>
  obtain⟨_,_,_,h3,_,h4⟩:=h
  have:(wayP w).length≤3:=by cases w<;>simp[wayP]
  simp only[papH,papO,List.length_cons,List.length_append,List.length_map]
  omega
theorem join_ok{p:Pap}(h:p.ok)(S:Store)(d:D)(hd:seqAt S d=some ((papP p).map tD)):mJoin S (.str (mk [32])) [d]=some (.str (mk (papX p)),S):=
 join_list (ps:=papP p) hd (fun x hx=>by have:=(pap_gd h x hx).2; omega) (by have:=pap_len h; omega)
theorem wayD_nl(w:Way):noLoc (wayD w)=true:=by cases w<;>rfl
theorem oD_nl(os:List Oth):noLocs (os.map oD)=true:=noLocs_map fun _ _=>rfl
theorem papD_nl(p:Pap):noLoc (papD p)=true:=by
 cases p with
 |op os=>rw[papD,noLoc_tup,noLocs_cons,noLocs_cons,noLoc_tup,oD_nl]; rfl
 |held c w ys os=>
  rw[papD,noLoc_tup]
  simp only[noLocs_cons,noLoc_tup,oD_nl,nl_iD,wayD_nl,noLocs_nil]
  rfl
noncomputable def wayPr:Way→List (D×List Nat)
 |.dip v c=>[(tD wDip,wDip),(iD v,natD v),(iD c,natD c)]
 |.ground=>[(tD wGround,wGround)]
theorem way_fst(w:Way):wayD w=.tup ((wayPr w).map Prod.fst):=by cases w<;>rfl
theorem way_snd(w:Way):(wayPr w).map Prod.snd=wayP w:=by cases w<;>rfl
theorem way_str{w:Way}(h:w.ok):∀ p∈wayPr w,∀ S,bStr S [p.1]=some (tD p.2,S):=by
 intro p hp S
 cases w with
 |ground=>rw[wayPr,List.mem_singleton]at hp; subst hp; rfl
 |dip v c=>
  simp only[wayPr,List.mem_cons,List.not_mem_nil,or_false]at hp
  rcases hp with rfl|rfl|rfl
  ·rfl
  ·exact h.1.str S
  ·exact h.2.str S
theorem y_str{ys:List Nat}(h:∀ y∈ys,nSm y):∀ p∈ys.map fun y=>(iD y,natD y),∀ S,bStr S [p.1]=some (tD p.2,S):=by
 intro p hp S
 obtain⟨y,hy,rfl⟩:=List.mem_map.mp hp
 exact(h y hy).str S
theorem add_new{c:CF}{n:Nat}{τ:Sl}{S:Store}{a b:E}{x:D}{xs ys:List D}(ha:(runK c n).ev τ S a=some (x,S))(hb:(runK c n).ev τ S b=some (.lst ys,S))(hx:seqAt S x=some xs)(hl:xs.length+ys.length≤1000000):
  (runK c (n+1)).ev τ S (.bin .Add a b)=some (.loc S.length,S++[.lst true (xs++ys)]):=by
 show((runK c n).ev τ S a).bind _=_
 rw[ha]
 simp only[oBs,hb]
 have e:binop S .Add x (.lst ys)=(seqAt S x).bind fun x=>(seqAt S (.lst ys)).bind fun y=>if lim<x.length+y.length then none else some (alloc S (.lst true (x++y))):=by
  cases x with
  |loc l=>rfl
  |lst l=>rfl
  |_=>cases hx
 rw[e,hx]
 simp only[oBs,seqAt]
 rw[if_neg (by unfold lim; omega)]
 rfl
theorem gc_add'{c:CF}{n:Nat}{τ:Sl}{S:Store}{a b:E}{x:D}{xs ys:List D}(ha:(runK c n).ev τ S a=some (x,S))(hb:(runK c n).ev τ S b=some (.lst ys,S))(hx:seqAt S x=some xs)(hl:xs.length+ys.length≤1000000)(hd:noLocs (xs++ys)=true):
  (runK c (n+2)).ev τ S (.gc (.bin .Add a b))=some (.lst (xs++ys),S):=gc_evL (add_new ha hb hx hl) hd
noncomputable def fT(d:D)(l:Nat)(a b e:Option D):Sl:=[some d,some (.loc l),a,b,e]
theorem flat_tail(m:Nat)(st A:Store)(p:Pap)(h:p.ok)(os:List Oth)(hos:papO p=os):
  ∃ r,exs (stepEx (rn fns m (0+30))) [
 .expr (.meth (.var 1) .append [(.lit (.str "others"))]),
 .forr (.tup [2,3,4]) (.idx (.var 0) (.neg (.lit (.int 1)))) [.set (.var 1) (.bin .Add (.var 1) (.gc (.lst [(.bcall .str [(.var 2)]),(.var 3),(.bcall .str [(.var 4)])])))],
 .ret (.meth (.lit (.str " ")) .join [(.var 1)])] (fT (papD p) (st++A).length none none none) (st++A++[.lst true ((papH p).map tD)])=some (.rt (.str (mk (papX p))),st++r):=by
 have hok:(∀ o∈os,o.ok)∧os.length<6:=by
  subst hos
  cases p with
  |op os=>exact h
  |held c w ys os=>exact⟨h.2.2.2.2.1,h.2.2.2.2.2⟩
 have hHl:(papH p).length≤200:=by
  have:=pap_len h
  rw[papP,List.length_append]at this
  omega
 generalize hH:papH p=H0 at hHl
 obtain⟨B,hB⟩:∃ B,B=st++A:=⟨_,rfl⟩
 rw[← hB]
 rw[exs_cons (τ':=fT (papD p) B.length none none none) (s':=B++[.lst true ((H0++[wOthers]).map tD)]) (by
  have my:mty (B++[.lst true (H0.map tD)]) .append (.loc B.length)=true:=by
   show(true&&(seqAt (B++[.lst true (H0.map tD)]) (.loc B.length)).isSome)=true
   rw[seq_end]
   rfl
  have v1:∀ n:Nat,(rn fns m (n+1)).ev (fT (papD p) B.length none none none) (B++[.lst true (H0.map tD)]) (.var 1)=some (.loc B.length,B++[.lst true (H0.map tD)]):=fun n=>rfl
  have o1:∀ n:Nat,(rn fns m (n+1)).ev (fT (papD p) B.length none none none) (B++[.lst true (H0.map tD)]) (.lit (.str "others"))=some (tD wOthers,B++[.lst true (H0.map tD)]):=fun n=>by rw[xOthers]; rfl
  simp only[stepEx]
  rw[ev_k]
  simp only[stepEv,v1,oBs,my,if_true,evs,o1,mfun,mAppend,wat_mid,set_mid]
  rw[if_pos (by rw[List.length_map]; unfold lim; omega),List.map_append]
  rfl)]
 have hsrc:∀ S,src (rn fns m (0+30)) (fT (papD p) B.length none none none) S (.idx (.var 0) (.neg (.lit (.int 1))))=some (.tup (os.map oD),S):=fun S=>by
  subst hos
  cases p<;>rfl
 obtain⟨τ',S',e,hP⟩:=loop_src (s:=.tup (os.map oD)) (ds:=os.map oD) (τ:=fT (papD p) B.length none none none) (st:=B++[.lst true ((H0++[wOthers]).map tD)])
  (f:=fun τ st d=>(setT (.tup [2,3,4]) d τ).bind fun τ'=>(rn fns m (0+30)).ex τ' st [.set (.var 1) (.bin .Add (.var 1) (.gc (.lst [(.bcall .str [(.var 2)]),(.var 3),(.bcall .str [(.var 4)])])))])
  (fun i τ S=>∃ (R:Store) (a b c:Option D),τ=fT (papD p) (st++R).length a b c∧S=st++R++[.lst true ((H0++wOthers::(os.take i).flatMap oP).map tD)]) (fun _ _=>False) ⟨A,none,none,none,by rw[hB],by rw[hB]; rfl⟩ rfl (fun _ _ _ _=>rfl) (by
   rintro i τ S d hd ⟨R,a,b,c,rfl,rfl⟩
   rw[List.getElem?_map]at hd
   cases ho:os[i]? with
   |none=>rw[ho]at hd; cases hd
   |some o=>
    rw[ho]at hd
    cases hd
    have oo:=hok.1 o (List.mem_of_getElem? ho)
    generalize hX:(H0++wOthers::(os.take i).flatMap oP).map tD=X
    have hXl:X.length≤1000:=by
     rw[← hX,List.length_map,List.length_append,List.length_cons,flat_len,List.length_take]
     omega
    obtain⟨C,hC⟩:∃ C,C=st++R++[.lst true X]:=⟨_,rfl⟩
    refine .inl ⟨fT (papD p) C.length (some (iD o.c)) (some (tD o.w)) (some (iD o.d)),C++[.lst true (X++(oP o).map tD)],.inl ?_,R++[.lst true X],_,_,_,by rw[hC,List.append_assoc],?_⟩
    ·show(rn fns m (0+30)).ex (fT (papD p) (st++R).length (some (iD o.c)) (some (tD o.w)) (some (iD o.d))) (st++R++[.lst true X]) _=_
     have hx:seqAt C (.loc (st++R).length)=some X:=by rw[hC]; exact seq_end _ _ _
     rw[← hC]
     generalize hT:fT (papD p) (st++R).length (some (iD o.c)) (some (tD o.w)) (some (iD o.d))=T
     have v1:∀ n:Nat,(rn fns m (n+1)).ev T C (.var 1)=some (.loc (st++R).length,C):=fun n=>by rw[← hT]; rfl
     have v2:∀ n:Nat,(rn fns m (n+3)).ev T C (.bcall .str [(.var 2)])=some (tD (natD o.c),C):=fun n=>by
      have:∀ n:Nat,(rn fns m (n+1)).ev T C (.var 2)=some (iD o.c,C):=fun n=>by rw[← hT]; rfl
      rw[ev_k]
      simp only[stepEv,evs,this,oBs,bfun,oo.1.str]
     have v3:∀ n:Nat,(rn fns m (n+1)).ev T C (.var 3)=some (tD o.w,C):=fun n=>by rw[← hT]; rfl
     have v4:∀ n:Nat,(rn fns m (n+3)).ev T C (.bcall .str [(.var 4)])=some (tD (natD o.d),C):=fun n=>by
      have:∀ n:Nat,(rn fns m (n+1)).ev T C (.var 4)=some (iD o.d,C):=fun n=>by rw[← hT]; rfl
      rw[ev_k]
      simp only[stepEv,evs,this,oBs,bfun,oo.2.1.str]
     have l1:∀ n:Nat,(rn fns m (n+6)).ev T C (.gc (.lst [(.bcall .str [(.var 2)]),(.var 3),(.bcall .str [(.var 4)])]))=some (.lst ((oP o).map tD),C):=fun n=>by
      refine gc_lit (n:=n+4) ?_ (by simp[oP]) (nl_tD _)
      simp only[evs,v2,v3,v4,oBs]
      rfl
     have a1:=add_new (c:=callD fns m) (n:=0+27) (v1 _) (l1 _) hx (by simp only[List.length_map,oP,List.length_cons,List.length_nil]; omega)
     rw[ex_k,exs_cons (τ':=fT (papD p) C.length (some (iD o.c)) (some (tD o.w)) (some (iD o.d))) (s':=C++[.lst true (X++(oP o).map tD)]) (by
      simp only[stepEx]
      have:(rn fns m (0+29)).ev T C (.bin .Add (.var 1) (.gc (.lst [(.bcall .str [(.var 2)]),(.var 3),(.bcall .str [(.var 4)])])))=some (.loc C.length,C++[.lst true (X++(oP o).map tD)]):=ev_up a1 (by omega)
      rw[this,← hT]
      rfl)]
     rfl
    ·rw[hC,← hX,← List.map_append,List.take_add_one,ho]
     simp)
 rcases hP with⟨R,a,b,c,rfl,rfl⟩|z
 ·rw[List.length_map,List.take_length]at e
  rw[exs_cons (τ':=fT (papD p) (st++R).length a b c) (s':=st++R++[.lst true ((H0++wOthers::os.flatMap oP).map tD)]) (by
   simp only[stepEx]
   rw[hsrc]
   exact e)]
  refine⟨R++[.lst true ((H0++wOthers::os.flatMap oP).map tD)],exs_ret ?_⟩
  have eP:H0++wOthers::os.flatMap oP=papP p:=by rw[papP,hH,hos]
  rw[eP]
  have j1:=join_ok h (st++R++[.lst true ((papP p).map tD)]) (.loc (st++R).length) (seq_end _ _ _)
  have b1:∀ S,∀ n:Nat,(rn fns m (n+2)).ev (fT (papD p) (st++R).length a b c) S (.lit (.str " "))=some (.str (mk [32]),S):=fun S n=>by rw[xBlank]; rfl
  have v1:∀ S,∀ n:Nat,(rn fns m (n+1)).ev (fT (papD p) (st++R).length a b c) S (.var 1)=some (.loc (st++R).length,S):=fun S n=>rfl
  have my:∀ S z,mty S .join (.str z)=true:=fun _ _=>rfl
  simp only[stepEx]
  rw[ev_k]
  simp only[stepEv,b1,oBs,my,if_true,evs,v1,mfun,j1,oMs]
  rw[List.append_assoc]
 ·exact z.elim
theorem flat_ok(m:Nat)(st:Store)(p:Pap)(h:p.ok):∃ r,callD fns (m+1) 15 [papD p] st=some (.str (mk (papX p)),st++r):=by
 suffices hx:∃ r,exs (stepEx (rn fns m (0+30))) b_law_flat_paper [some (papD p),none,none,none,none] st=some (.rt (.str (mk (papX p))),st++r) by
  obtain⟨r,e⟩:=hx
  exact⟨r,call_of (0+30) (F:=f_law_flat_paper) rfl rfl rfl e⟩
 unfold b_law_flat_paper
 cases p with
 |op os=>
  rw[exs_cons (τ':=fT (papD (.op os)) st.length none none none) (s':=st++[.lst true ([wOpen].map tD)]) rfl]
  rw[exs_cons (τ':=fT (papD (.op os)) st.length none none none) (s':=st++[.lst true ([wOpen].map tD)]) (by
   refine(stepEx_ite_f (st':=st++[.lst true ([wOpen].map tD)]) ?_).trans rfl
   have x0:∀ S,idxD S (papD (.op os)) (.int 0)=some (.str (mk wOpen)):=fun S=>rfl
   simp only[tst_k,stepTst,ev_k,stepEv,fT,List.getElem?_cons_zero,oBs,x0,oMs,xHeld,cmpD,eqD_ss,mk_beq]
   rfl)]
  have:=flat_tail m st [] (.op os) h os rfl
  rw[List.append_nil]at this
  exact this
 |held c w ys os=>
  have hh:=h
  obtain⟨h1,h2,h3,h4,h5,h6⟩:=hh
  have wl:(wayP w).length≤3:=by cases w<;>simp[wayP]
  rw[exs_cons (τ':=fT (papD (.held c w ys os)) st.length none none none) (s':=st++[.lst true ([wHeld].map tD)]) rfl]
  generalize hD:papD (.held c w ys os)=d
  have i0:∀ S,idxD S d (.int 0)=some (.str (mk wHeld)):=fun S=>by rw[← hD]; rfl
  have i1:∀ S,idxD S d (.int 1)=some (iD c):=fun S=>by rw[← hD]; rfl
  have i2:∀ S,idxD S d (.int 2)=some (wayD w):=fun S=>by rw[← hD]; rfl
  have i3:∀ S,idxD S d (.int 3)=some (.tup (ys.map iD)):=fun S=>by rw[← hD]; rfl
  have cs2:∀ (S:Store) (l:Nat) (n:Nat),(rn fns m (n+10)).ev (fT d l none none none) S (.gc (.comp (.var 0) (.idx (.var 0) (.lit (.int 2))) none (.bcall .str [(.var 0)]) [none]))=some (.lst ((wayP w).map tD),S):=fun S l n=>by
   have:=comp_str (c:=callD fns m) (n:=n+4) (τ:=fT d l none none none) (st:=S) (it:=.idx (.var 0) (.lit (.int 2))) (wayPr w) (src_idx (by rw[← way_fst]; simp only[ev_k,stepEv,fT,List.getElem?_cons_zero,oBs,i2,oMs])) (way_str h2) (by cases w<;>simp[wayPr])
   rw[way_snd]at this
   exact this
  have cs3:∀ (S:Store) (l:Nat) (n:Nat),(rn fns m (n+10)).ev (fT d l none none none) S (.gc (.comp (.var 0) (.idx (.var 0) (.lit (.int 3))) none (.bcall .str [(.var 0)]) [none]))=some (.lst ((ys.map natD).map tD),S):=fun S l n=>by
   have:=comp_str (c:=callD fns m) (n:=n+4) (τ:=fT d l none none none) (st:=S) (it:=.idx (.var 0) (.lit (.int 3))) (ys.map fun y=>(iD y,natD y)) (src_idx (by
    rw[show(ys.map fun y=>(iD y,natD y)).map Prod.fst=ys.map iD by rw[List.map_map]; rfl]
    simp only[ev_k,stepEv,fT,List.getElem?_cons_zero,oBs,i3,oMs])) (y_str h3) (by rw[List.length_map]; omega)
   rw[show(ys.map fun y=>(iD y,natD y)).map Prod.snd=ys.map natD by rw[List.map_map]; rfl]at this
   exact this
  have l1:∀ (S:Store) (l:Nat) (n:Nat),(rn fns m (n+8)).ev (fT d l none none none) S (.gc (.lst [(.bcall .str [(.idx (.var 0) (.lit (.int 1)))])]))=some (.lst ([natD c].map tD),S):=fun S l n=>by
   refine gc_lit (n:=n+6) ?_ (by simp) (nl_tD _)
   simp only[evs,ev_k,stepEv,fT,List.getElem?_cons_zero,oBs,i1,oMs,bfun,h1.str]
   rfl
  have l2:∀ (S:Store) (l:Nat) (n:Nat),(rn fns m (n+8)).ev (fT d l none none none) S (.gc (.lst [(.lit (.str "years"))]))=some (.lst ([wYears].map tD),S):=fun S l n=>by
   refine gc_lit (n:=n+6) ?_ (by simp) (nl_tD _)
   rw[xYears]
   rfl
  have v1:∀ (S:Store) (l:Nat) (n:Nat),(rn fns m (n+1)).ev (fT d l none none none) S (.var 1)=some (.loc l,S):=fun S l n=>rfl
  obtain⟨S1,hS1⟩:∃ S1,S1=st++[.lst true ([wHeld].map tD)]:=⟨_,rfl⟩
  have q1:seqAt S1 (.loc st.length)=some ([wHeld].map tD):=by rw[hS1]; exact seq_end _ _ _
  obtain⟨S2,hS2⟩:∃ S2,S2=S1++[.lst true (([wHeld]++[natD c]++wayP w).map tD)]:=⟨_,rfl⟩
  have q2:seqAt S2 (.loc S1.length)=some (([wHeld]++[natD c]++wayP w).map tD):=by rw[hS2]; exact seq_end _ _ _
  have a1:∀ n:Nat,(rn fns m (n+10)).ev (fT d st.length none none none) S1 (.gc (.bin .Add (.var 1) (.gc (.lst [(.bcall .str [(.idx (.var 0) (.lit (.int 1)))])]))))=some (.lst (([wHeld]++[natD c]).map tD),S1):=fun n=>by
   have:=gc_add' (c:=callD fns m) (n:=n+8) (v1 S1 st.length _) (l1 S1 st.length _) q1 (by simp) (by rw[← List.map_append]; exact nl_tD _)
   rw[← List.map_append]at this
   exact this
  have b1:=fun n:Nat=>add_new (c:=callD fns m) (n:=n+10) (a1 n) (cs2 S1 st.length n) rfl (by simp; omega)
  have a2:∀ n:Nat,(rn fns m (n+10)).ev (fT d S1.length none none none) S2 (.gc (.bin .Add (.var 1) (.gc (.lst [(.lit (.str "years"))]))))=some (.lst (([wHeld]++[natD c]++wayP w++[wYears]).map tD),S2):=fun n=>by
   have:=gc_add' (c:=callD fns m) (n:=n+8) (v1 S2 S1.length _) (l2 S2 S1.length _) q2 (by simp; omega) (by rw[← List.map_append]; exact nl_tD _)
   rw[← List.map_append]at this
   exact this
  have b2:=fun n:Nat=>add_new (c:=callD fns m) (n:=n+10) (a2 n) (cs3 S2 S1.length n) rfl (by simp; omega)
  have eH:[wHeld]++[natD c]++wayP w++[wYears]++ys.map natD=papH (.held c w ys os):=by simp[papH]
  rw[← hS1]
  rw[exs_cons (τ':=fT d S2.length none none none) (s':=S2++[.lst true ((papH (.held c w ys os)).map tD)]) (by
   refine(stepEx_ite_t (st':=S1) ?_).trans ?_
   ·simp only[tst_k,stepTst,ev_k,stepEv,fT,List.getElem?_cons_zero,oBs,i0,oMs,xHeld,cmpD,eqD_ss,beq_self_eq_true]
   rw[ex_k]
   rw[exs_cons (τ':=fT d S1.length none none none) (s':=S2) (by
    simp only[stepEx]
    have:=b1 18
    rw[← List.map_append,← hS2]at this
    have t:(runK (callD fns m) 29).ev _ _ _=_:=this
    rw[t]
    rfl)]
   rw[exs_cons (τ':=fT d S2.length none none none) (s':=S2++[.lst true ((papH (.held c w ys os)).map tD)]) (by
    simp only[stepEx]
    have:=b2 18
    rw[← List.map_append,eH]at this
    have t:(runK (callD fns m) 29).ev _ _ _=_:=this
    rw[t]
    rfl)]
   rfl)]
  have:=flat_tail m st [.lst true ([wHeld].map tD),.lst true (([wHeld]++[natD c]++wayP w).map tD)] (.held c w ys os) h os rfl
  rw[show st++[.lst true ([wHeld].map tD),.lst true (([wHeld]++[natD c]++wayP w).map tD)]=S2 by rw[hS2,hS1]; simp only[List.append_assoc,List.cons_append,List.nil_append],hD]at this
  exact this
noncomputable def lT(ns:List Int)(k:Int)(l:Nat)(a b c d:Option D):Sl:=[some (sD ns),some (.int k),some (.loc l),a,b,c,d]
theorem loop_ok{m:Nat}(hm:2≤m)(st:Store)(ns:List Int)(k:Int)(hn:ns.length≤63):
  ∃ (os:List Oth) (a b:Option D),(∀ o∈os,o.ok)∧os.length<6∧stepEx (rn fns m (0+30)) (lT ns k st.length none none none none) (st++[.lst true []]) (.forr (.var 3) (.rng1 (.gc (.call 9 [(.var 0),(.var 1),(.lit (.int 0)),(.lit (.int 6))]))) [.set (.var 4) (.idx (.gc (.lst [(.lit (.str "given")),(.lit (.str "fallen")),(.lit (.str "unvested")),(.lit (.str "ground")),(.lit (.str "younger"))])) (.gc (.call 9 [(.var 0),(.bin .Add (.var 1) (.var 3)),(.lit (.int 1)),(.lit (.int 5))]))),.expr (.meth (.var 2) .append [(.tup [(.gc (.call 13 [(.var 0),(.bin .Add (.var 1) (.var 3)),(.lit (.int 2))])),(.var 4),(.gc (.call 13 [(.var 0),(.bin .Add (.var 1) (.var 3)),(.lit (.int 6))]))])])])=some (.nx (lT ns k st.length a b none none),st++[.lst true (os.map oD)]):=by
 have dr:=fun S k' j' many h1 h2 h3=>drw (m:=m) hn (by omega) S k' j' many h1 h2 h3
 have pA:∀ S a b,binop S .Add (.int a) (.int b)=some (.int (a+b),S):=fun S a b=>rfl
 have b0:=drawV_lo ns k 0 (many:=6) (by omega)
 have b1:=drawV_hi ns k 0 (many:=6) (by omega)
 have ec:=dr (st++[.lst true []]) k 0 6 (by omega) (by omega) (by omega)
 generalize hx:drawV ns k 0 6=x at b0 b1 ec
 have hb:big x=false:=by
  unfold big
  simp
  omega
 have hs:src (rn fns m (0+30)) (lT ns k st.length none none none none) (st++[.lst true []]) (.rng1 (.gc (.call 9 [(.var 0),(.var 1),(.lit (.int 0)),(.lit (.int 6))])))=some (.rng 0 x.toNat,st++[.lst true []]):=by
  simp only[src,ev_k,stepEv,evs,lT,List.getElem?_cons_succ,List.getElem?_cons_zero,oBs,call_k,ec,oMs,gc_int,hb,Bool.false_eq_true,if_false]
 simp only[stepEx]
 rw[hs]
 simp only[oBs,Src.size]
 obtain⟨τ',S',e,os,a,b,h1,h2,h3,h4⟩:=loop_rng (lo:=0) (n:=x.toNat) (τ:=lT ns k st.length none none none none) (st:=st++[.lst true []])
  (f:=fun τ st d=>(setT (.var 3) d τ).bind fun τ'=>(rn fns m (0+30)).ex τ' st [.set (.var 4) (.idx (.gc (.lst [(.lit (.str "given")),(.lit (.str "fallen")),(.lit (.str "unvested")),(.lit (.str "ground")),(.lit (.str "younger"))])) (.gc (.call 9 [(.var 0),(.bin .Add (.var 1) (.var 3)),(.lit (.int 1)),(.lit (.int 5))]))),.expr (.meth (.var 2) .append [(.tup [(.gc (.call 13 [(.var 0),(.bin .Add (.var 1) (.var 3)),(.lit (.int 2))])),(.var 4),(.gc (.call 13 [(.var 0),(.bin .Add (.var 1) (.var 3)),(.lit (.int 6))]))])])])
  (fun i τ S=>∃ (os:List Oth) (a b:Option D),τ=lT ns k st.length a b none none∧S=st++[.lst true (os.map oD)]∧(∀ o∈os,o.ok)∧os.length=i) ⟨[],none,none,rfl,rfl,(fun o ho=>by cases ho),rfl⟩ (by
   rintro i τ S hi ⟨os,a,b,rfl,rfl,hok,hlen⟩
   have w0:=drawV_lo ns (k+(0+i)) 1 (many:=5) (by omega)
   have w1:=drawV_hi ns (k+(0+i)) 1 (many:=5) (by omega)
   obtain⟨B,hB⟩:∃ B,B=st++[.lst true (os.map oD)]:=⟨_,rfl⟩
   have e1:=dr B (k+(0+i)) 1 5 (by omega) (by omega) (by omega)
   generalize hw:drawV ns (k+(0+i)) 1 5=y at w0 w1 e1
   have g1:=great_ok hm B ns (k+(0+i)) 2 hn (by omega) (by omega)
   have g2:=great_ok hm B ns (k+(0+i)) 6 hn (by omega) (by omega)
   have n1:=(great_n ns (k+(0+i)) 2).1
   have n2:=(great_n ns (k+(0+i)) 6).1
   generalize greatN ns (k+(0+i)) 2=c1 at g1 n1
   generalize greatN ns (k+(0+i)) 6=c2 at g2 n2
   have hwm:=getD_mem wordsO wGiven y w0 w1
   have hix:∀ S,idxD S (.lst (wordsO.map tD)) (.int y)=some (tD (wordsO.getD y.toNat wGiven)):=fun S=>ix_lst tD wordsO wGiven y w0 w1 S
   generalize wordsO.getD y.toNat wGiven=w at hwm hix
   refine⟨lT ns k st.length (some (.int (0+i))) (some (tD w)) none none,st++[.lst true ((os++[(⟨c1,w,c2⟩:Oth)]).map oD)],?_,os++[(⟨c1,w,c2⟩:Oth)],_,_,rfl,rfl,?_,by simp[hlen]⟩
   ·show(rn fns m (0+30)).ex (lT ns k st.length (some (.int (0+i))) b none none) (st++[.lst true (os.map oD)]) _=_
    rw[← hB,ex_k]
    rw[exs_cons (τ':=lT ns k st.length (some (.int (0+i))) (some (tD w)) none none) (s':=B) (by
     have l1:∀ n:Nat,(rn fns m (n+8)).ev (lT ns k st.length (some (.int (0+i))) b none none) B (.gc (.lst [(.lit (.str "given")),(.lit (.str "fallen")),(.lit (.str "unvested")),(.lit (.str "ground")),(.lit (.str "younger"))]))=some (.lst (wordsO.map tD),B):=fun n=>by
      refine gc_lit (n:=n+6) ?_ (by simp[wordsO]) (nl_tD _)
      rw[xGiven,xFallen,xUnvested,xGround,xYounger]
      rfl
     have k1:∀ n:Nat,(rn fns m (n+8)).ev (lT ns k st.length (some (.int (0+i))) b none none) B (.gc (.call 9 [(.var 0),(.bin .Add (.var 1) (.var 3)),(.lit (.int 1)),(.lit (.int 5))]))=some (.int y,B):=fun n=>by
      simp only[ev_k,stepEv,evs,lT,List.getElem?_cons_succ,List.getElem?_cons_zero,oBs,pA,call_k,e1,oMs,gc_int]
     simp only[stepEx]
     rw[ev_k]
     simp only[stepEv,l1,k1,oBs,hix,oMs]
     rfl)]
    have my:mty B .append (.loc st.length)=true:=by
     show(true&&(seqAt B (.loc st.length)).isSome)=true
     rw[hB,seq_end]
     rfl
    have wB:wlistAt B st.length=some (os.map oD):=by rw[hB]; exact wat_mid _ _ _
    have sB:∀ c,B.set st.length c=st++[c]:=fun c=>by rw[hB]; exact set_mid _ _ _ _
    have tp:∀ n:Nat,(rn fns m (n+12)).ev (lT ns k st.length (some (.int (0+i))) (some (tD w)) none none) B (.tup [(.gc (.call 13 [(.var 0),(.bin .Add (.var 1) (.var 3)),(.lit (.int 2))])),(.var 4),(.gc (.call 13 [(.var 0),(.bin .Add (.var 1) (.var 3)),(.lit (.int 6))]))])=some (oD ⟨c1,w,c2⟩,B):=fun n=>by
     have q1:∀ n:Nat,(rn fns m (n+8)).ev (lT ns k st.length (some (.int (0+i))) (some (tD w)) none none) B (.gc (.call 13 [(.var 0),(.bin .Add (.var 1) (.var 3)),(.lit (.int 2))]))=some (iD c1,B):=fun n=>by
      refine gc_ev (n:=n+7) ?_ rfl
      simp only[ev_k,stepEv,evs,lT,List.getElem?_cons_succ,List.getElem?_cons_zero,oBs,pA,call_k,g1]
     have q2:∀ n:Nat,(rn fns m (n+8)).ev (lT ns k st.length (some (.int (0+i))) (some (tD w)) none none) B (.gc (.call 13 [(.var 0),(.bin .Add (.var 1) (.var 3)),(.lit (.int 6))]))=some (iD c2,B):=fun n=>by
      refine gc_ev (n:=n+7) ?_ rfl
      simp only[ev_k,stepEv,evs,lT,List.getElem?_cons_succ,List.getElem?_cons_zero,oBs,pA,call_k,g2]
     have q3:∀ n:Nat,(rn fns m (n+1)).ev (lT ns k st.length (some (.int (0+i))) (some (tD w)) none none) B (.var 4)=some (tD w,B):=fun n=>rfl
     rw[ev_k]
     simp only[stepEv,evs,q1,q2,q3,oBs]
     rfl
    have v2:∀ n:Nat,(rn fns m (n+1)).ev (lT ns k st.length (some (.int (0+i))) (some (tD w)) none none) B (.var 2)=some (.loc st.length,B):=fun n=>rfl
    rw[exs_cons (τ':=lT ns k st.length (some (.int (0+i))) (some (tD w)) none none) (s':=st++[.lst true ((os++[(⟨c1,w,c2⟩:Oth)]).map oD)]) (by
     simp only[stepEx]
     rw[ev_k]
     simp only[stepEv,v2,oBs,my,if_true,evs,tp,mfun,mAppend,wB,sB]
     rw[if_pos (by rw[List.length_map]; unfold lim; omega),List.map_append]
     rfl)]
    rfl
   ·intro o ho
    rcases List.mem_append.mp ho with z|z
    ·exact hok o z
    ·rw[List.mem_singleton.mp z]
     exact⟨n1,n2,hwm⟩)
 refine⟨os,a,b,h3,by omega,?_⟩
 subst h1 h2
 exact e
theorem loose_ok{m:Nat}(hm:3≤m)(st:Store)(ns:List Int)(k:Int)(hn:ns.length≤63):∃ (p:Pap) (r:Store),p.ok∧callD fns m 16 [sD ns,.int k] st=some (papD p,st++r):=by
 obtain⟨m,rfl⟩:∃ q,m=q+1:=⟨m - 1,by omega⟩
 obtain⟨os,a,b,h1,h2,e⟩:=loop_ok (m:=m) (by omega) st ns k hn
 suffices hx:∃ (p:Pap) (r:Store),p.ok∧exs (stepEx (rn fns m (0+30))) b_law_loose_paper [some (sD ns),some (.int k),none,none,none,none,none] st=some (.rt (papD p),st++r) by
  obtain⟨p,r,hp,e⟩:=hx
  exact⟨p,r,hp,call_of (0+30) (F:=f_law_loose_paper) rfl rfl rfl e⟩
 unfold b_law_loose_paper
 rw[exs_cons (τ':=lT ns k st.length none none none none) (s':=st++[.lst true []]) rfl,exs_cons e]
 obtain⟨B,hB⟩:∃ B,B=st++[.lst true (os.map oD)]:=⟨_,rfl⟩
 have sB:seqAt B (.loc st.length)=some (os.map oD):=by rw[hB]; exact seq_end _ _ _
 rw[← hB]
 have dr:=fun k' j' many h1 h2 h3=>drw (m:=m) hn (by omega) B k' j' many h1 h2 h3
 have pA:∀ S a b,binop S .Add (.int a) (.int b)=some (.int (a+b),S):=fun S a b=>rfl
 have t1:∀ n:Nat,(rn fns m (n+8)).tst (lT ns k st.length a b none none) B (.cmp .Eq (.gc (.call 9 [(.var 0),(.var 1),(.lit (.int 10)),(.lit (.int 3))])) (.lit (.int 0)))=some ((drawV ns k 10 3==0),B):=fun n=>by
  simp only[tst_k,stepTst,ev_k,stepEv,evs,lT,List.getElem?_cons_succ,List.getElem?_cons_zero,oBs,call_k,dr k 10 3 (by omega) (by omega) (by omega),oMs,gc_int,cmpD,eqD_ii]
 have tu:∀ (c d:Option D) (n:Nat),(rn fns m (n+3)).ev (lT ns k st.length a b c d) B (.bcall .tuple [(.var 2)])=some (.tup (os.map oD),B):=fun c d n=>by
  simp only[ev_k,stepEv,evs,lT,List.getElem?_cons_succ,List.getElem?_cons_zero,oBs,bfun,bTuple,sB,oMs]
 by_cases h:drawV ns k 10 3=0
 ·refine⟨.op os,[.lst true (os.map oD)],⟨h1,h2⟩,exs_ret ((stepEx_ite_t (st':=B) (by rw[t1,h]; rfl)).trans ?_)⟩
  rw[ex_k]
  refine exs_ret ?_
  have o1:∀ n:Nat,(rn fns m (n+1)).ev (lT ns k st.length a b none none) B (.lit (.str "open"))=some (tD wOpen,B):=fun n=>by rw[xOpen]; rfl
  simp only[stepEx]
  rw[ev_k]
  simp only[stepEv,evs,o1,tu,oBs]
  rw[hB]
  rfl
 ·have hb:(drawV ns k 10 3==0)=false:=by simpa using h
  rw[exs_cons (τ':=lT ns k st.length a b none none) (s':=B) (by refine(stepEx_ite_f (st':=B) ?_).trans rfl; rw[t1,hb])]
  rw[exs_cons (τ':=lT ns k st.length a b (some (wayD .ground)) none) (s':=B) (by rw[xGround]; rfl)]
  have gr:∀ k' j',0≤j'→j'<900→callD fns m 13 [sD ns,.int k',.int j'] B=some (iD (greatN ns k' j'),B):=fun k' j' q1 q2=>great_ok (m:=m) (by omega) B ns k' j' hn q1 q2
  have t2:∀ n:Nat,(rn fns m (n+8)).tst (lT ns k st.length a b (some (wayD .ground)) none) B (.cmp .Gt (.gc (.call 9 [(.var 0),(.var 1),(.lit (.int 11)),(.lit (.int 3))])) (.lit (.int 0)))=some (decide (0<drawV ns k 11 3),B):=fun n=>by
   simp only[tst_k,stepTst,ev_k,stepEv,evs,lT,List.getElem?_cons_succ,List.getElem?_cons_zero,oBs,call_k,dr k 11 3 (by omega) (by omega) (by omega),oMs,gc_int,cmpD]
  have gcg:∀ (c d:Option D) (j':Int),0≤j'→j'<900→∀ n:Nat,(rn fns m (n+8)).ev (lT ns k st.length a b c d) B (.gc (.call 13 [(.var 0),(.var 1),(.lit (.int j'))]))=some (iD (greatN ns k j'),B):=fun c d j' q1 q2 n=>by
   refine gc_ev (n:=n+7) ?_ rfl
   simp only[ev_k,stepEv,evs,lT,List.getElem?_cons_succ,List.getElem?_cons_zero,oBs,call_k,gr k j' q1 q2]
  have way:∃ w:Way,w.ok∧stepEx (rn fns m (0+30)) (lT ns k st.length a b (some (wayD .ground)) none) B (.ite (.cmp .Gt (.gc (.call 9 [(.var 0),(.var 1),(.lit (.int 11)),(.lit (.int 3))])) (.lit (.int 0))) [.set (.var 5) (.tup [(.lit (.str "dip")),(.gc (.call 13 [(.var 0),(.var 1),(.lit (.int 12))])),(.gc (.call 13 [(.var 0),(.var 1),(.lit (.int 16))]))])] [])=some (.nx (lT ns k st.length a b (some (wayD w)) none),B):=by
   by_cases hw:0<drawV ns k 11 3
   ·refine⟨.dip (greatN ns k 12) (greatN ns k 16),⟨(great_n ns k 12).1,(great_n ns k 16).1⟩,(stepEx_ite_t (st':=B) (by rw[t2,decide_eq_true hw])).trans ?_⟩
    rw[ex_k,exs_cons (τ':=lT ns k st.length a b (some (wayD (.dip (greatN ns k 12) (greatN ns k 16)))) none) (s':=B) (by
     have o1:∀ n:Nat,(rn fns m (n+1)).ev (lT ns k st.length a b (some (wayD .ground)) none) B (.lit (.str "dip"))=some (tD wDip,B):=fun n=>by rw[xDip]; rfl
     simp only[stepEx]
     rw[ev_k]
     simp only[stepEv,evs,o1,gcg _ _ 12 (by omega) (by omega),gcg _ _ 16 (by omega) (by omega),oBs]
     rfl)]
    rfl
   ·exact⟨.ground,trivial,(stepEx_ite_f (st':=B) (by rw[t2,decide_eq_false hw])).trans rfl⟩
  obtain⟨w,hw,ew⟩:=way
  rw[exs_cons ew]
  have y0:=drawV_lo ns k 24 (many:=7) (by omega)
  have y1:=drawV_hi ns k 24 (many:=7) (by omega)
  have ey:=dr k 24 7 (by omega) (by omega) (by omega)
  generalize hy:drawV ns k 24 7=x at y0 y1 ey
  have hbx:big x=false:=by
   unfold big
   simp
   omega
  let ys:List Nat:=(List.range x.toNat).map fun(i:Nat)=>greatN ns (k+(0+(i:Int))) 20
  have cy:∀ n:Nat,(rn fns m (n+12)).ev (lT ns k st.length a b (some (wayD w)) none) B (.gc (.comp (.var 0) (.rng1 (.gc (.call 9 [(.var 0),(.var 1),(.lit (.int 24)),(.lit (.int 7))]))) none (.gc (.call 13 [(.var 1),(.bin .Add (.var 2) (.var 0)),(.lit (.int 20))])) [none,some 0,some 1]))=some (.lst (ys.map iD),B):=fun n=>by
   have:=gc_comp (c:=callD fns m) (n:=n+10) (τ:=lT ns k st.length a b (some (wayD w)) none) (st:=B) (it:=.rng1 (.gc (.call 9 [(.var 0),(.var 1),(.lit (.int 24)),(.lit (.int 7))]))) (elt:=.gc (.call 13 [(.var 1),(.bin .Add (.var 2) (.var 0)),(.lit (.int 20))])) (sr:=[none,some 0,some 1]) (s:=.rng 0 x.toNat) (rest:=[some (sD ns),some (.int k)]) (List.range x.toNat) (fun(i:Nat)=>.int ((0:Int)+i)) (fun(i:Nat)=>iD (greatN ns (k+(0+(i:Int))) 20)) (by
    simp only[src,ev_k,stepEv,evs,lT,List.getElem?_cons_succ,List.getElem?_cons_zero,oBs,call_k,ey,oMs,gc_int,hbx,Bool.false_eq_true,if_false]) (fun i=>at_rng 0 _ i) (by simp[Src.size]) rfl (by simp; omega) (fun _ _=>rfl) (fun i hi=>by
    refine gc_ev (n:=n+9) ?_ rfl
    simp only[ev_k,stepEv,evs,List.getElem?_cons_succ,List.getElem?_cons_zero,oBs,pA,call_k,gr _ 20 (by omega) (by omega)])
   rw[this]
   simp only[ys,List.map_map]
   rfl
  rw[exs_cons (τ':=lT ns k st.length a b (some (wayD w)) (some (.lst (ys.map iD)))) (s':=B) (by
   simp only[stepEx,cy,oBs]
   rfl)]
  refine⟨.held (greatN ns k 25) w ys os,[.lst true (os.map oD)],⟨(great_n ns k 25).1,hw,fun y hy=>?_,by simp[ys]; omega,h1,h2⟩,exs_ret ?_⟩
  ·obtain⟨i,_,rfl⟩:=List.mem_map.mp hy
   exact(great_n _ _ _).1
  ·have o1:∀ n:Nat,(rn fns m (n+1)).ev (lT ns k st.length a b (some (wayD w)) (some (.lst (ys.map iD)))) B (.lit (.str "held"))=some (tD wHeld,B):=fun n=>by rw[xHeld]; rfl
   have v5:∀ n:Nat,(rn fns m (n+1)).ev (lT ns k st.length a b (some (wayD w)) (some (.lst (ys.map iD)))) B (.var 5)=some (wayD w,B):=fun n=>rfl
   have t6:∀ n:Nat,(rn fns m (n+3)).ev (lT ns k st.length a b (some (wayD w)) (some (.lst (ys.map iD)))) B (.bcall .tuple [(.var 6)])=some (.tup (ys.map iD),B):=fun n=>rfl
   simp only[stepEx]
   rw[ev_k]
   simp only[stepEv,evs,o1,gcg _ _ 25 (by omega) (by omega),v5,t6,tu,oBs]
   rw[hB]
   rfl
open K34 (fns b_law_small f_law_small wOpen wHeld wGround wDip wYears wOthers xOpen xHeld xGround xDip wordsO hDraw cutTk cutDr wl wl_cons wl_app wl_nil Gt)
noncomputable def smO(o:Oth):Oth:=⟨o.c % 1000,o.w,o.d % 1000⟩
noncomputable def smW:Way→Way
 |.dip v c=>.dip (v % 1000) (c % 1000)
 |.ground=>.ground
noncomputable def smP:Pap→Pap
 |.op os=>.op (os.map smO)
 |.held c w ys os=>.held (c % 1000) (smW w) (ys.map (· % 1000)) (os.map smO)
theorem mod_i(S:Store)(n:Nat):binop S .Mod (iD n) (.int 1000)=some (iD (n % 1000),S):=by
 show binop S .Mod (.int (n:Int)) (.int 1000)=_
 rw[bMo S _ (by omega)]
 rfl
theorem loopC_all{f:Sl→Store→D→Option (Option D×Sl×Store)}{s:Src}{ds:List D}{st:Store}(P:Sl→Prop)(g:D→D)(hat:∀ i,s.at st i=some ds[i]?)(hl:ds.length<lim)(hs:∀ d∈ds,∀ τ,P τ→∃ τ',f τ st d=some (some (g d),τ',st)∧P τ'):
  ∀ (k i:Nat) (acc:List D) (τ:Sl),i+k=ds.length→P τ→acc.length=i→loopC s f (k+1) i acc τ st=some (acc++(ds.drop i).map g,st)
 |0,i,acc,τ,h,p,ha=>by
  rw[loopC,hat i,List.getElem?_eq_none (by omega),List.drop_eq_nil_of_le (by omega)]
  simp only[oBs]
  rw[if_neg (by omega)]
  simp
 |k+1,i,acc,τ,h,p,ha=>by
  have hi:i<ds.length:=by omega
  obtain⟨τ',e,p'⟩:=hs ds[i] (List.getElem_mem hi) τ p
  rw[loopC,hat i,List.getElem?_eq_getElem hi]
  simp only[oBs]
  rw[if_neg (by omega),e]
  simp only[oBs]
  rw[loopC_all P g hat hl hs k (i+1) _ τ' (by omega) p' (by simp[ha]),List.drop_eq_getElem_cons hi]
  simp only[List.map_cons,List.append_assoc,List.cons_append,List.nil_append]
section
variable (m:Nat)(st:Store)(p:Pap)
theorem sm_last(n:Nat):src (rn fns m (n+4)) [some (papD p),none,none] st (.idx (.var 0) (.neg (.lit (.int 1))))=some (.tup ((papO p).map oD),st):=by
 cases p<;>rfl
theorem sm_1(h:p.ok)(n:Nat):stepEx (rn fns m (n+20)) [some (papD p),none,none] st (.set (.var 1) (.bcall .tuple [(.gc (.comp (.tup [0,1,2]) (.idx (.var 0) (.neg (.lit (.int 1)))) none (.tup [(.bin .Mod (.var 0) (.lit (.int 1000))),(.var 1),(.bin .Mod (.var 2) (.lit (.int 1000)))]) [none,none,none]))]))=some (.nx [some (papD p),some (.tup ((papO p).map fun o=>oD (smO o))),none],st):=by
 have hlen:(papO p).length<6:=by
  cases p with
  |op os=>exact h.2
  |held c w ys os=>exact h.2.2.2.2.2
 have cm:∀ n,(rn fns m (n+10)).ev [some (papD p),none,none] st (.gc (.comp (.tup [0,1,2]) (.idx (.var 0) (.neg (.lit (.int 1)))) none (.tup [(.bin .Mod (.var 0) (.lit (.int 1000))),(.var 1),(.bin .Mod (.var 2) (.lit (.int 1000)))]) [none,none,none]))=some (.lst ((papO p).map fun o=>oD (smO o)),st):=fun n=>by
  refine gc_evL (n:=n+9) ?_ (noLocs_map fun _ _=>rfl)
  have key:=loopC_all (f:=turnC (rn fns m (n+8)) (.tup [0,1,2]) none (.tup [(.bin .Mod (.var 0) (.lit (.int 1000))),(.var 1),(.bin .Mod (.var 2) (.lit (.int 1000)))])) (s:=.tup ((papO p).map oD)) (ds:=(papO p).map oD) (st:=st) (fun τ=>∃ a b c,τ=[a,b,c]) (fun d=>match d with|.tup [.int a,w,.int b]=>.tup [.int (a % 1000),w,.int (b % 1000)]|d=>d) (fun i=>rfl) (by rw[List.length_map]; unfold lim; omega) (fun d hd τ hτ=>by
   obtain⟨a,b,c,rfl⟩:=hτ
   obtain⟨o,_,rfl⟩:=List.mem_map.mp hd
   refine⟨[some (iD o.c),some (tD o.w),some (iD o.d)],?_,_,_,_,rfl⟩
   have e2:turnC (rn fns m (n+8)) (.tup [0,1,2]) none (.tup [(.bin .Mod (.var 0) (.lit (.int 1000))),(.var 1),(.bin .Mod (.var 2) (.lit (.int 1000)))]) [a,b,c] st (oD o)=((rn fns m (n+8)).ev [some (iD o.c),some (tD o.w),some (iD o.d)] st (.tup [(.bin .Mod (.var 0) (.lit (.int 1000))),(.var 1),(.bin .Mod (.var 2) (.lit (.int 1000)))])).map fun p=>(some p.1,[some (iD o.c),some (tD o.w),some (iD o.d)],p.2):=rfl
   have e:(rn fns m (n+8)).ev [some (iD o.c),some (tD o.w),some (iD o.d)] st (.tup [(.bin .Mod (.var 0) (.lit (.int 1000))),(.var 1),(.bin .Mod (.var 2) (.lit (.int 1000)))])=some (oD (smO o),st):=by
    rw[ev_k]
    simp only[stepEv,evs,ev_k,List.getElem?_cons_succ,List.getElem?_cons_zero,oBs,mod_i]
    rfl
   rw[e2,e]
   rfl) ((papO p).map oD).length 0 [] [none,none,none] (by omega) ⟨_,_,_,rfl⟩ rfl
  show(src (rn fns m (n+8)) [some (papD p),none,none] st (.idx (.var 0) (.neg (.lit (.int 1))))).bind _=_
  rw[sm_last m st p (n+4),oBs]
  show(loopC (.tup ((papO p).map oD)) _ (((papO p).map oD).length+1) 0 [] [none,none,none] st).map _=_
  rw[key,oMs,List.nil_append,List.drop_zero,List.map_map]
  rfl
 simp only[stepEx]
 rw[ev_k]
 simp only[stepEv,evs,cm,oBs,bfun,bTuple,seqAt,oMs]
 rfl
theorem small_ok(h:p.ok):callD fns (m+1) 22 [papD p] st=some (papD (smP p),st):=by
 refine call_of (0+20) (F:=f_law_small) rfl rfl rfl ?_
 show exs (stepEx (rn fns m (0+20))) b_law_small [some (papD p),none,none] st=_
 unfold b_law_small
 rw[exs_cons (sm_1 m st p h 0)]
 cases p with
 |op os=>
  refine exs_ret ((stepEx_ite_t (st':=st) ?_).trans ?_)
  ·rw[xOpen]
   refine tCmp (n:=19) (x:=tD wOpen) (y:=.str (mk wOpen)) rfl rfl ?_
   show cmpD st .Eq (.str (mk wOpen)) (.str (mk wOpen))=_
   simp only[cmpD,eqD_ss,beq_self_eq_true]
  ·rw[ex_k]
   refine exs_ret ?_
   rw[xOpen]
   show _=some (Out.rt (.tup [tD wOpen,.tup ((os.map smO).map oD)]),st)
   rw[List.map_map]
   rfl
 |held c w ys os=>
  rw[exs_cons (τ':=[some (papD (.held c w ys os)),some (.tup ((papO (.held c w ys os)).map fun o=>oD (smO o))),none]) (s':=st) (by
   refine(stepEx_ite_f (st':=st) ?_).trans rfl
   rw[xOpen]
   refine tCmp (n:=19) (x:=tD wHeld) (y:=.str (mk wOpen)) rfl rfl ?_
   show cmpD st .Eq (.str (mk wHeld)) (.str (mk wOpen))=_
   simp only[cmpD,eqD_ss,mk_beq]
   rfl)]
  generalize hT:([some (papD (.held c w ys os)),some (.tup ((papO (.held c w ys os)).map fun o=>oD (smO o))),none]:Sl)=T
  have i0:∀ n,(rn fns m (n+2)).ev T st (.idx (.var 0) (.lit (.int 2)))=some (wayD w,st):=fun n=>by rw[← hT]; rfl
  have i1:∀ n,(rn fns m (n+2)).ev T st (.idx (.var 0) (.lit (.int 1)))=some (iD c,st):=fun n=>by rw[← hT]; rfl
  have modc:∀ (S:Store) (x:Nat) (n:Nat) (T:Sl),(rn fns m (n+3)).ev (some (iD x)::T) S (.bin .Mod (.var 0) (.lit (.int 1000)))=some (iD (x % 1000),S):=fun S x n T=>evB (n:=n+2) rfl rfl (mod_i S x)
  have wx:∀ n,(rn fns m (n+12)).ev T st (.gc (.bin .Add (.gc (.sli (.idx (.var 0) (.lit (.int 2))) none (some (.lit (.int 1))))) (.bcall .tuple [(.gc (.comp (.var 0) (.gc (.sli (.idx (.var 0) (.lit (.int 2))) (some (.lit (.int 1))) none)) none (.bin .Mod (.var 0) (.lit (.int 1000))) [none]))])))=some (wayD (smW w),st):=fun n=>by
   obtain⟨hd,tl,htw,hsm⟩:∃ (hd:List Nat) (tl:List Nat),wayD w=.tup (tD hd::tl.map iD)∧wayD (smW w)=.tup (tD hd::tl.map fun x=>iD (x % 1000)):=by
    cases w with
    |ground=>exact⟨wGround,[],rfl,rfl⟩
    |dip v c=>exact⟨wDip,[v,c],rfl,rfl⟩
   have tl2:tl.length≤2:=by
    cases w with
    |ground=>
     have e:(D.tup [tD wGround])=.tup (tD hd::tl.map iD):=htw
     injection e with e
     injection e with _ e
     have:=congrArg List.length e
     simp at this
     omega
    |dip v c=>
     have e:(D.tup [tD wDip,iD v,iD c])=.tup (tD hd::tl.map iD):=htw
     injection e with e
     injection e with _ e
     have:=congrArg List.length e
     simp at this
     omega
   have s1:∀ n,(rn fns m (n+4)).ev T st (.gc (.sli (.idx (.var 0) (.lit (.int 2))) none (some (.lit (.int 1)))))=some (.tup [tD hd],st):=fun n=>by
    refine gc_ev (n:=n+3) ?_ rfl
    rw[ev_k]
    simp only[stepEv,i0,oBs,part,htw]
    show sliD st (.tup (tD hd::tl.map iD)) none (some ((1:Nat):Int))=_
    simp only[sliD,cutTk]
    rfl
   have s2:∀ n,(rn fns m (n+4)).ev T st (.gc (.sli (.idx (.var 0) (.lit (.int 2))) (some (.lit (.int 1))) none))=some (.tup (tl.map iD),st):=fun n=>by
    refine gc_ev (n:=n+3) ?_ (nl_iD tl)
    rw[ev_k]
    simp only[stepEv,i0,oBs,part,htw]
    show sliD st (.tup (tD hd::tl.map iD)) (some ((1:Nat):Int)) none=_
    simp only[sliD,cutDr]
    rfl
   have cm:∀ n,(rn fns m (n+8)).ev T st (.gc (.comp (.var 0) (.gc (.sli (.idx (.var 0) (.lit (.int 2))) (some (.lit (.int 1))) none)) none (.bin .Mod (.var 0) (.lit (.int 1000))) [none]))=some (.lst (tl.map fun x=>iD (x % 1000)),st):=fun n=>by
    refine gc_comp (n:=n+6) (s:=.tup (tl.map iD)) (rest:=[]) tl iD (fun x=>iD (x % 1000)) ?_ (fun i=>rfl) (by simp[Src.size]) rfl (by omega) (fun _ _=>rfl) (fun x _=>modc st x (n+3) [])
    show((rn fns m (n+6)).ev T st _).bind _=_
    rw[s2 (n+2)]
    rfl
   have tp:∀ n,(rn fns m (n+10)).ev T st (.bcall .tuple [(.gc (.comp (.var 0) (.gc (.sli (.idx (.var 0) (.lit (.int 2))) (some (.lit (.int 1))) none)) none (.bin .Mod (.var 0) (.lit (.int 1000))) [none]))])=some (.tup (tl.map fun x=>iD (x % 1000)),st):=fun n=>by
    rw[ev_k]
    simp only[stepEv,evs,cm,oBs,bfun,bTuple,seqAt,oMs]
   have ad:binop st .Add (.tup [tD hd]) (.tup (tl.map fun x=>iD (x % 1000)))=some (.tup (tD hd::tl.map fun x=>iD (x % 1000)),st):=by
    show(if ([tD hd]:List D).isEmpty||decide (lim<([tD hd]:List D).length+(tl.map fun x=>iD (x % 1000)).length) then none else some (D.tup ([tD hd]++tl.map fun x=>iD (x % 1000)),st))=_
    rw[if_neg]
    ·rfl
    ·simp only[List.isEmpty_cons,Bool.false_or,decide_eq_true_eq,List.length_map,List.length_cons,List.length_nil]
     unfold lim
     omega
   rw[hsm]
   refine gc_ev (n:=n+11) (evB (n:=n+10) (s1 (n+6)) (tp n) ad) ?_
   rw[noLoc_tup,noLocs_cons]
   exact noLocs_map (xs:=tl) fun _ _=>rfl
  have sx:stepEx (rn fns m (0+20)) T st (.set (.var 2) (.gc (.bin .Add (.gc (.sli (.idx (.var 0) (.lit (.int 2))) none (some (.lit (.int 1))))) (.bcall .tuple [(.gc (.comp (.var 0) (.gc (.sli (.idx (.var 0) (.lit (.int 2))) (some (.lit (.int 1))) none)) none (.bin .Mod (.var 0) (.lit (.int 1000))) [none]))]))))=some (.nx [some (papD (.held c w ys os)),some (.tup ((papO (.held c w ys os)).map fun o=>oD (smO o))),some (wayD (smW w))],st):=by
   simp only[stepEx,wx,oBs]
   rw[← hT]
   rfl
  rw[exs_cons sx]
  refine exs_ret ?_
  generalize hU:([some (papD (.held c w ys os)),some (.tup ((papO (.held c w ys os)).map fun o=>oD (smO o))),some (wayD (smW w))]:Sl)=U
  have y1:∀ n,(rn fns m (n+8)).ev U st (.gc (.comp (.var 0) (.idx (.var 0) (.lit (.int 3))) none (.bin .Mod (.var 0) (.lit (.int 1000))) [none]))=some (.lst (ys.map fun x=>iD (x % 1000)),st):=fun n=>by
   refine gc_comp (n:=n+6) (s:=.tup (ys.map iD)) (rest:=[]) ys iD (fun x=>iD (x % 1000)) (by rw[← hU]; rfl) (fun i=>rfl) (by simp[Src.size]) rfl (by have:=h.2.2.2.1; omega) (fun _ _=>rfl) (fun x _=>modc st x (n+3) [])
  have y2:∀ n,(rn fns m (n+10)).ev U st (.bcall .tuple [(.gc (.comp (.var 0) (.idx (.var 0) (.lit (.int 3))) none (.bin .Mod (.var 0) (.lit (.int 1000))) [none]))])=some (.tup (ys.map fun x=>iD (x % 1000)),st):=fun n=>by
   rw[ev_k]
   simp only[stepEv,evs,y1,oBs,bfun,bTuple,seqAt,oMs]
  have c1:∀ n,(rn fns m (n+3)).ev U st (.bin .Mod (.idx (.var 0) (.lit (.int 1))) (.lit (.int 1000)))=some (iD (c % 1000),st):=fun n=>evB (n:=n+2) (by rw[← hU]; rfl) rfl (mod_i st c)
  have h1:∀ n,(rn fns m (n+1)).ev U st (.lit (.str "held"))=some (tD wHeld,st):=fun n=>by rw[xHeld]; rfl
  have v1:∀ n,(rn fns m (n+1)).ev U st (.var 1)=some (.tup ((papO (.held c w ys os)).map fun o=>oD (smO o)),st):=fun n=>by rw[← hU]; rfl
  have v2:∀ n,(rn fns m (n+1)).ev U st (.var 2)=some (wayD (smW w),st):=fun n=>by rw[← hU]; rfl
  refine stR ?_
  rw[ev_k]
  simp only[stepEv,evs,h1,c1,v2,y2,v1,oBs]
  show some (D.tup [tD wHeld,iD (c % 1000),wayD (smW w),.tup (ys.map fun x=>iD (x % 1000)),.tup (os.map fun o=>oD (smO o))],st)=some (.tup [tD wHeld,iD (c % 1000),wayD (smW w),.tup ((ys.map (· % 1000)).map iD),.tup ((os.map smO).map oD)],st)
  rw[List.map_map,List.map_map]
  rfl
end
theorem sm_nat(n:Nat):(natD (n % 1000)).length≤3:=natD_len 2 (n % 1000) (by omega)
theorem sm_ok{p:Pap}(h:p.ok):(smP p).ok:=by
 have ns:∀ n:Nat,nSm (n % 1000):=fun n=>by unfold nSm; omega
 have oo:∀ os:List Oth,(∀ o∈os,o.ok)→∀ o∈os.map smO,o.ok:=fun os ho o hm=>by
  obtain⟨o',h1,rfl⟩:=List.mem_map.mp hm
  exact⟨ns _,ns _,(ho o' h1).2.2⟩
 cases p with
 |op os=>exact⟨oo os h.1,by simp; exact h.2⟩
 |held c w ys os=>
  refine⟨ns _,?_,fun y hy=>?_,by simp; exact h.2.2.2.1,oo os h.2.2.2.2.1,by simp; exact h.2.2.2.2.2⟩
  ·cases w with
   |ground=>trivial
   |dip v c=>exact⟨ns _,ns _⟩
  ·obtain⟨y',_,rfl⟩:=List.mem_map.mp hy
   exact ns _
theorem word_len{w:List Nat}(h:w∈wordsO):w.length≤8∧∀ c∈w,c<128:=by
 have:∀ w∈wordsO,w.length≤8∧∀ c∈w,c<128:=by decide
 exact this w h
theorem wl_os:∀ os:List Oth,(∀ o∈os,o.ok)→wl ((os.map smO).flatMap oP)≤17*os.length
 |[],_=>by simp[wl]
 |o::r,h=>by
  have ih:=wl_os r fun o' h'=>h o' (List.mem_cons_of_mem _ h')
  have hw:=(word_len (h o List.mem_cons_self).2.2).1
  have h1:=sm_nat o.c
  have h2:=sm_nat o.d
  rw[List.map_cons,List.flatMap_cons,wl_app]
  have e:wl (oP (smO o))=(natD (o.c % 1000)).length+1+(o.w.length+1+((natD (o.d % 1000)).length+1+0)):=rfl
  rw[e,List.length_cons]
  omega
theorem wl_ys:∀ ys:List Nat,wl ((ys.map (· % 1000)).map natD)≤4*ys.length
 |[]=>by simp[wl]
 |y::r=>by
  have ih:=wl_ys r
  have h1:=sm_nat y
  rw[List.map_cons,List.map_cons,wl_cons,List.length_cons]
  omega
theorem joinC_wl(c:Nat):∀ ps:List (List Nat),(joinC c ps).length+1=wl ps∨ps=[]
 |[]=>.inr rfl
 |[p]=>.inl (by simp[joinC,wl])
 |p::q::r=>by
  rcases joinC_wl c (q::r) with h|h
  ·left
   show(p++c::joinC c (q::r)).length+1=_
   rw[wl_cons,← h]
   simp
   omega
  ·cases h
theorem sm_gt{p:Pap}(h:p.ok):Gt 146 (papX (smP p)):=by
 have hok:=sm_ok h
 refine⟨fun c hc=>?_,?_⟩
 ·unfold papX at hc
  rcases joinC_mem 32 _ c hc with z|⟨w,hw,hcw⟩
  ·omega
  ·have gdw:∀ w∈papP (smP p),∀ c∈w,c<128:=by
    have wn:∀ n:Nat,∀ c∈natD n,c<128:=natD_lt
    have wo:∀ os:List Oth,(∀ o∈os,o.ok)→∀ w∈os.flatMap oP,∀ c∈w,c<128:=fun os ho w hw c hc=>by
     obtain⟨o,h1,h2⟩:=List.mem_flatMap.mp hw
     simp only[oP,List.mem_cons,List.not_mem_nil,or_false]at h2
     rcases h2 with h2|h2|h2
     ·exact wn _ c (h2▸hc)
     ·exact(word_len (ho o h1).2.2).2 c (h2▸hc)
     ·exact wn _ c (h2▸hc)
    have k:∀ w∈[wOpen,wHeld,wGround,wDip,wYears,wOthers],∀ c∈w,c<128:=by decide
    intro w hw c hc
    cases hq:smP p with
    |op os=>
     rw[hq]at hw hok
     simp only[papP,papH,papO,List.cons_append,List.nil_append,List.mem_cons]at hw
     rcases hw with hw|hw|hw
     ·exact k w (by rw[hw]; simp) c hc
     ·exact k w (by rw[hw]; simp) c hc
     ·exact wo os hok.1 w hw c hc
    |held c' wy ys os=>
     rw[hq]at hw hok
     simp only[papP,papH,papO,List.cons_append,List.mem_cons,List.mem_append]at hw
     rcases hw with hw|hw|(hw|hw|hw)|hw|hw
     ·exact k w (by rw[hw]; simp) c hc
     ·exact wn _ c (hw▸hc)
     ·cases wy with
      |ground=>simp only[wayP,List.mem_singleton]at hw; exact k w (by rw[hw]; simp) c hc
      |dip v c2=>
       simp only[wayP,List.mem_cons,List.not_mem_nil,or_false]at hw
       rcases hw with hw|hw|hw
       ·exact k w (by rw[hw]; simp) c hc
       ·exact wn _ c (hw▸hc)
       ·exact wn _ c (hw▸hc)
     ·exact k w (by rw[hw]; simp) c hc
     ·obtain⟨y,_,e⟩:=List.mem_map.mp hw
      exact wn y c (e▸hc)
     ·exact k w (by rw[hw]; simp) c hc
     ·exact wo os hok.2.2.2.2.1 w hw c hc
   exact gdw w hw c hcw
 ·unfold papX
  rcases joinC_wl 32 (papP (smP p)) with e|e
  ·have hlen:wl (papP (smP p))≤147:=by
    cases p with
    |op os=>
     have:=wl_os os h.1
     have:=h.2
     simp only[smP,papP,papH,papO,List.cons_append,List.nil_append,wl_cons]
     have a1:wOpen.length=4:=rfl
     have a2:wOthers.length=6:=rfl
     omega
    |held c w ys os=>
     have:=wl_os os h.2.2.2.2.1
     have:=h.2.2.2.2.2
     have:=wl_ys ys
     have:=h.2.2.2.1
     have:=sm_nat c
     have hw:wl (wayP (smW w))≤12:=by
      cases w with
      |ground=>decide
      |dip v c=>
       have:=sm_nat v
       have:=sm_nat c
       simp only[smW,wayP,wl_cons,wl_nil]
       have:wDip.length=3:=rfl
       omega
     simp only[smP,papP,papH,papO,List.cons_append,wl_cons,wl_app]
     have a1:wHeld.length=4:=rfl
     have a2:wOthers.length=6:=rfl
     have a3:wYears.length=5:=rfl
     omega
   omega
  ·rw[e]; simp[joinC]
end K34p
end
section
namespace K34
open M
open PySem (Str)
noncomputable def alph:List Nat:=[32,48,49,50,51,52,53,54,55,56,57,44,45,43,46,95,126,97,101,104,105,106,107,110,111,112,114,115,116,117,118,119,120,121,122,10,65]
theorem xAlph:PySem.Str.ofString " 0123456789,-+._~aehijknoprstuvwxyz\nA" = mk alph:=by decide +kernel
theorem bAdd(S:Store){a b:List Nat}(h:a.length+b.length<10000):binop S .Add (.str (mk a)) (.str (mk b))=some (.str (mk (a++b)),S):=by
 show(if lim<(mk a).length+(mk b).length then none else some (D.str (mk a++mk b),S))=_
 rw[mk_len,mk_len,if_neg (by unfold lim; omega),mk_app]
section
variable {c:CF}{n:Nat}{τ:Sl}{st:Store}{e:E}{cs:List Nat}(hv:(runK c (n+1)).ev τ st e=some (.str (mk cs),st))(hl:cs.length<10000)
include hv hl
theorem stTk{x:E}{k:Nat}(hx:(runK c (n+1)).ev τ st x=some (.int (k:Int),st)):(runK c (n+2)).ev τ st (.sli e none (some x))=some (.str (mk (cs.take k)),st):=by
 rw[ev_k]
 simp only[stepEv,hv,oBs,part,hx]
 show(if lim<(mk cs).length then none else some (D.str ⟨(cut cs none (some (k:Int))).toArray⟩,st))=_
 rw[mk_len,if_neg (by unfold lim; omega),cutTk]
 rfl
theorem stDr{x:E}{k:Nat}(hx:(runK c (n+1)).ev τ st x=some (.int (k:Int),st)):(runK c (n+2)).ev τ st (.sli e (some x) none)=some (.str (mk (cs.drop k)),st):=by
 rw[ev_k]
 simp only[stepEv,hv,oBs,part,hx]
 show(if lim<(mk cs).length then none else some (D.str ⟨(cut cs (some (k:Int)) none).toArray⟩,st))=_
 rw[mk_len,if_neg (by unfold lim; omega),cutDr]
 rfl
end
theorem Gt.mono{B B':Nat}{cs:List Nat}(h:Gt B cs)(hb:B≤B'):Gt B' cs:=⟨h.1,Nat.le_trans h.2 hb⟩
section
variable (m:Nat)(st:Store)(ns:List Int)(hn:ns.length≤63)(k:Int){B:Nat}(cs:List Nat)(hg:Gt B cs)(hB:B<1000)
theorem drwG(j many:Int)(hn:ns.length≤63)(hj:0≤j)(hj2:j<100000)(hm:0<many):callD fns (m+1) 9 [sD ns,.int k,.int j,.int many] st=some (.int (drawV ns k j many),st):=M.drw hDraw (by omega) hn st k j many hj hj2 hm
include hn hg hB
theorem bent_ok:∃ cs',Gt (B+2) cs'∧callD fns (m+2) 14 [sD ns,.int k,.int 4,.str (mk cs)] st=some (.str (mk cs'),st):=by
 have hlc:=hg.2
 have hli:¬ lim<(mk cs).length:=by rw[mk_len]; unfold lim; omega
 have ln:∀ S,bLen S [.str (mk cs)]=some (.int (cs.length:Int),S):=fun S=>by
  simp only[bLen]
  rw[if_neg hli,mk_len]
 obtain⟨a,ha,hal⟩:∃ a:Nat,drawV ns k 4 ((cs.length:Int)+1)=(a:Int)∧a≤cs.length:=by
  have h0:=drawV_lo ns k 4 (many:=(cs.length:Int)+1) (by omega)
  have h1:=drawV_hi ns k 4 (many:=(cs.length:Int)+1) (by omega)
  exact⟨(drawV ns k 4 ((cs.length:Int)+1)).toNat,by omega,by omega⟩
 have sg0:=drawV_lo ns k 5 (many:=37) (by omega)
 have sg1:=drawV_hi ns k 5 (many:=37) (by omega)
 obtain⟨s,hs,hsa⟩:∃ s:Nat,(∀ S,idxD S (.str (mk alph)) (.int (drawV ns k 5 37))=some (.str (mk [s])))∧s<128:=by
  have hlt:(drawV ns k 5 37).toNat<alph.length:=by have:alph.length=37:=rfl; omega
  refine⟨alph[(drawV ns k 5 37).toNat],fun S=>?_,?_⟩
  ·show(if lim<(mk alph).length then none else(atI alph (drawV ns k 5 37)).map fun c=>D.str ⟨#[c]⟩)=_
   rw[if_neg (by decide)]
   unfold atI ixN
   rw[if_pos sg0,if_pos (by have:alph.length=37:=rfl; omega),oBs,List.getElem?_eq_getElem hlt]
   rfl
  ·have:∀ c∈alph,c<128:=by decide
   exact this _ (List.getElem_mem hlt)
 have w0:=drawV_lo ns k 6 (many:=6) (by omega)
 have w1:=drawV_hi ns k 6 (many:=6) (by omega)
 have key:∀ cs',Gt (B+2) cs'→exs (stepEx (rn fns (m+1) (0+24))) b_law_bent [some (sD ns),some (.int k),some (.int 4),some (.str (mk cs)),none,none,none,none] st=some (.rt (.str (mk cs')),st)→∃ cs',Gt (B+2) cs'∧callD fns (m+2) 14 [sD ns,.int k,.int 4,.str (mk cs)] st=some (.str (mk cs'),st):=fun cs' h1 h2=>⟨cs',h1,call_of (0+24) (F:=f_law_bent) rfl rfl rfl h2⟩
 unfold b_law_bent at key
 have s1:stepEx (rn fns (m+1) (0+24)) [some (sD ns),some (.int k),some (.int 4),some (.str (mk cs)),none,none,none,none] st (.set (.var 4) (.gc (.call 9 [(.var 0),(.var 1),(.var 2),(.bin .Add (.bcall .len [(.var 3)]) (.lit (.int 1)))])))=some (.nx [some (sD ns),some (.int k),some (.int 4),some (.str (mk cs)),some (.int (a:Int)),none,none,none],st):=by
  have d1:=drwG m st ns k 4 ((cs.length:Int)+1) hn (by omega) (by omega) (by omega)
  rw[ha]at d1
  simp only[stepEx,ev_k,stepEv,evs,List.getElem?_cons_succ,List.getElem?_cons_zero,oBs,bfun,ln,pA,call_k,d1,oMs,gc_int]
  rfl
 have s2:stepEx (rn fns (m+1) (0+24)) [some (sD ns),some (.int k),some (.int 4),some (.str (mk cs)),some (.int (a:Int)),none,none,none] st (.set (.var 5) (.lit (.str " 0123456789,-+._~aehijknoprstuvwxyz\nA")))=some (.nx [some (sD ns),some (.int k),some (.int 4),some (.str (mk cs)),some (.int (a:Int)),some (.str (mk alph)),none,none],st):=by
  rw[xAlph]
  rfl
 have la:∀ S,bLen S [.str (mk alph)]=some (.int 37,S):=fun S=>by
  simp only[bLen]
  rw[if_neg (by decide)]
  rfl
 have s3:stepEx (rn fns (m+1) (0+24)) [some (sD ns),some (.int k),some (.int 4),some (.str (mk cs)),some (.int (a:Int)),some (.str (mk alph)),none,none] st (.set (.var 6) (.idx (.var 5) (.gc (.call 9 [(.var 0),(.var 1),(.bin .Add (.var 2) (.lit (.int 1))),(.bcall .len [(.var 5)])]))))=some (.nx [some (sD ns),some (.int k),some (.int 4),some (.str (mk cs)),some (.int (a:Int)),some (.str (mk alph)),some (.str (mk [s])),none],st):=by
  have d1:=drwG m st ns k 5 37 hn (by omega) (by omega) (by omega)
  have e5:(4:Int)+1=5:=rfl
  simp only[stepEx,ev_k,stepEv,evs,List.getElem?_cons_succ,List.getElem?_cons_zero,oBs,bfun,la,pA,e5,call_k,d1,oMs,gc_int,hs]
  rfl
 obtain⟨w,hw⟩:∃ w,w=drawV ns k 6 6:=⟨_,rfl⟩
 rw[← hw]at w0 w1
 have s4:stepEx (rn fns (m+1) (0+24)) [some (sD ns),some (.int k),some (.int 4),some (.str (mk cs)),some (.int (a:Int)),some (.str (mk alph)),some (.str (mk [s])),none] st (.set (.var 7) (.gc (.call 9 [(.var 0),(.var 1),(.bin .Add (.var 2) (.lit (.int 2))),(.lit (.int 6))])))=some (.nx [some (sD ns),some (.int k),some (.int 4),some (.str (mk cs)),some (.int (a:Int)),some (.str (mk alph)),some (.str (mk [s])),some (.int w)],st):=by
  have d1:=drwG m st ns k 6 6 hn (by omega) (by omega) (by omega)
  rw[← hw]at d1
  have e5:(4:Int)+2=6:=rfl
  simp only[stepEx,ev_k,stepEv,evs,List.getElem?_cons_succ,List.getElem?_cons_zero,oBs,pA,e5,call_k,d1,oMs,gc_int]
  rfl
 simp only[exs_cons s1,exs_cons s2,exs_cons s3,exs_cons s4]at key
 generalize hT:([some (sD ns),some (.int k),some (.int 4),some (.str (mk cs)),some (.int (a:Int)),some (.str (mk alph)),some (.str (mk [s])),some (.int w)]:Sl)=T at key
 have v0:∀ n,(rn fns (m+1) (n+1)).ev T st (.var 3)=some (.str (mk cs),st):=fun n=>by rw[← hT]; rfl
 have v4:∀ n,(rn fns (m+1) (n+1)).ev T st (.var 4)=some (.int (a:Int),st):=fun n=>by rw[← hT]; rfl
 have v6:∀ n,(rn fns (m+1) (n+1)).ev T st (.var 6)=some (.str (mk [s]),st):=fun n=>by rw[← hT]; rfl
 have v4':∀ n,(rn fns (m+1) (n+2)).ev T st (.bin .Add (.var 4) (.lit (.int 1)))=some (.int ((a+1:Nat):Int),st):=fun n=>evB (n:=n+1) (v4 n) rfl (by rw[pA]; rfl)
 have tw:∀ (q:Int) n,(rn fns (m+1) (n+2)).tst T st (.cmp .Eq (.var 7) (.lit (.int q)))=some (w==q,st):=fun q n=>tCmp (n:=n+1) (x:=.int w) (y:=.int q) (by rw[← hT]; rfl) rfl (by simp only[cmpD,eqD_ii])
 have no:∀ (q:Int) (r b:List S),w≠q→exs (stepEx (rn fns (m+1) (0+24))) (.ite (.cmp .Eq (.var 7) (.lit (.int q))) r []::b) T st=exs (stepEx (rn fns (m+1) (0+24))) b T st:=fun q r b h=>exs_cons ((stepEx_ite_f (st':=st) (by rw[tw q 22,show(w==q)=false by simpa using h])).trans rfl)
 have yes:∀ (q:Int) (e:E) (d:D) (b:List S),w=q→(∀ n,(rn fns (m+1) (n+10)).ev T st e=some (d,st))→exs (stepEx (rn fns (m+1) (0+24))) (.ite (.cmp .Eq (.var 7) (.lit (.int q))) [.ret e] []::b) T st=some (.rt d,st):=fun q e d b h he=>by
  refine exs_ret ((stepEx_ite_t (st':=st) (by rw[tw q 22,show(w==q)=true by simpa using h])).trans ?_)
  rw[ex_k]
  exact exs_ret (stR (he 13))
 have tk:∀ n,(rn fns (m+1) (n+3)).ev T st (.gc (.sli (.var 3) none (some (.var 4))))=some (.str (mk (cs.take a)),st):=fun n=>gc_ev (n:=n+2) (stTk (n:=n) (v0 n) (by omega) (v4 n)) rfl
 have dr:∀ n,(rn fns (m+1) (n+3)).ev T st (.gc (.sli (.var 3) (some (.var 4)) none))=some (.str (mk (cs.drop a)),st):=fun n=>gc_ev (n:=n+2) (stDr (n:=n) (v0 n) (by omega) (v4 n)) rfl
 have dr1:∀ n,(rn fns (m+1) (n+4)).ev T st (.gc (.sli (.var 3) (some (.bin .Add (.var 4) (.lit (.int 1)))) none))=some (.str (mk (cs.drop (a+1))),st):=fun n=>gc_ev (n:=n+3) (stDr (n:=n+1) (v0 (n+1)) (by omega) (v4' n)) rfl
 have tks:∀ n,(rn fns (m+1) (n+5)).ev T st (.gc (.bin .Add (.gc (.sli (.var 3) none (some (.var 4)))) (.var 6)))=some (.str (mk (cs.take a++[s])),st):=fun n=>gc_ev (n:=n+4) (evB (n:=n+3) (tk n) (v6 (n+2)) (bAdd st (by rw[List.length_take]; simp; omega))) rfl
 have gtk:∀ c∈cs.take a,c<128:=fun c hc=>hg.1 c (List.mem_of_mem_take hc)
 have gdr:∀ q,∀ c∈cs.drop q,c<128:=fun q c hc=>hg.1 c (List.mem_of_mem_drop hc)
 have app:∀ {x y:List Nat},(∀ c∈x,c<128)→(∀ c∈y,c<128)→∀ c∈x++y,c<128:=fun hx hy c hc=>(List.mem_append.mp hc).elim (hx c) (hy c)
 have one:∀ c∈([s]:List Nat),c<128:=fun c hc=>by rw[List.mem_singleton]at hc; rw[hc]; exact hsa
 have hw6:w=0∨w=1∨w=2∨w=3∨w=4∨w=5:=by omega
 rcases hw6 with h|h|h|h|h|h
 ·refine key (cs.take a++[s]++cs.drop a) ⟨app (app gtk one) (gdr a),by simp; omega⟩ ?_
  exact yes 0 _ _ _ h fun n=>evB (n:=n+9) (tks (n+4)) (dr (n+6)) (bAdd st (by simp; omega))
 ·refine key (cs.take a++cs.drop (a+1)) ⟨app gtk (gdr _),by simp; omega⟩ ?_
  rw[no 0 _ _ (by omega)]
  exact yes 1 _ _ _ h fun n=>evB (n:=n+9) (tk (n+6)) (dr1 (n+5)) (bAdd st (by simp; omega))
 ·refine key (cs.take a++[s]++cs.drop (a+1)) ⟨app (app gtk one) (gdr _),by simp; omega⟩ ?_
  rw[no 0 _ _ (by omega),no 1 _ _ (by omega)]
  exact yes 2 _ _ _ h fun n=>evB (n:=n+9) (tks (n+4)) (dr1 (n+5)) (bAdd st (by simp; omega))
 ·refine key (cs.take a) ⟨gtk,by rw[List.length_take]; omega⟩ ?_
  rw[no 0 _ _ (by omega),no 1 _ _ (by omega),no 2 _ _ (by omega)]
  exact yes 3 _ _ _ h fun n=>stTk (n:=n+8) (v0 (n+8)) (by omega) (v4 (n+8))
 ·refine key (cs.drop a) ⟨gdr a,by rw[List.length_drop]; omega⟩ ?_
  rw[no 0 _ _ (by omega),no 1 _ _ (by omega),no 2 _ _ (by omega),no 3 _ _ (by omega)]
  exact yes 4 _ _ _ h fun n=>stDr (n:=n+8) (v0 (n+8)) (by omega) (v4 (n+8))
 ·have l0:=drawV_lo ns k 7 (many:=5) (by omega)
  have l1:=drawV_hi ns k 7 (many:=5) (by omega)
  let xs:List (List Nat):=[[32],[10],[32,48],[48],[44,49]]
  have hx:∀ S,idxD S (.lst (xs.map tD)) (.int (drawV ns k 7 5))=some (tD (xs.getD (drawV ns k 7 5).toNat [])):=fun S=>ix_lst tD xs [] (drawV ns k 7 5) l0 (by show _<(5:Int); exact l1) S
  have hmem:=getD_mem xs [] (drawV ns k 7 5) l0 (by show _<(5:Int); exact l1)
  have hp:∀ x∈xs,x.length≤2∧∀ c∈x,c<128:=by decide
  obtain⟨hp1,hp2⟩:=hp _ hmem
  generalize xs.getD (drawV ns k 7 5).toNat []=y at hx hp1 hp2
  have lst:∀ n,(rn fns (m+1) (n+5)).ev T st (.gc (.lst [(.lit (.str " ")),(.lit (.str "\n")),(.lit (.str " 0")),(.lit (.str "0")),(.lit (.str ",1"))]))=some (.lst (xs.map tD),st):=fun n=>by
   refine gc_lit (n:=n+3) ?_ (by simp[xs]) (nl_tD _)
   rw[show PySem.Str.ofString " " = mk [32] by decide +kernel,show PySem.Str.ofString "\n" = mk [10] by decide +kernel,show PySem.Str.ofString " 0" = mk [32,48] by decide +kernel,show PySem.Str.ofString "0" = mk [48] by decide +kernel,show PySem.Str.ofString ",1" = mk [44,49] by decide +kernel]
   rfl
  have d1:=drwG m st ns k 7 5 hn (by omega) (by omega) (by omega)
  have e5:(4:Int)+3=7:=rfl
  have v0':∀ n,(rn fns (m+1) (n+1)).ev T st (.var 0)=some (sD ns,st):=fun n=>by rw[← hT]; rfl
  have v1':∀ n,(rn fns (m+1) (n+1)).ev T st (.var 1)=some (.int k,st):=fun n=>by rw[← hT]; rfl
  have v2':∀ n,(rn fns (m+1) (n+1)).ev T st (.var 2)=some (.int 4,st):=fun n=>by rw[← hT]; rfl
  have j2:∀ n,(rn fns (m+1) (n+2)).ev T st (.bin .Add (.var 2) (.lit (.int 3)))=some (.int 7,st):=fun n=>evB (n:=n+1) (v2' n) rfl (by rw[pA]; rfl)
  have q1:∀ n,(rn fns (m+1) (n+1)).ev T st (.lit (.int 5))=some (.int 5,st):=fun n=>rfl
  have dc:∀ n,(rn fns (m+1) (n+5)).ev T st (.gc (.call 9 [(.var 0),(.var 1),(.bin .Add (.var 2) (.lit (.int 3))),(.lit (.int 5))]))=some (.int (drawV ns k 7 5),st):=fun n=>gc_callR (r:=[]) (n:=n+2) (ds:=[sD ns,.int k,.int 7,.int 5]) (by simp only[evs,v0',v1',j2,q1,oBs]) (by rw[List.append_nil]; exact d1) rfl
  refine key (cs++y) ⟨app hg.1 hp2,by simp; omega⟩ ?_
  rw[no 0 _ _ (by omega),no 1 _ _ (by omega),no 2 _ _ (by omega),no 3 _ _ (by omega),no 4 _ _ (by omega)]
  exact exs_ret (stR (n:=0+24) (evB (n:=23) (v0 22) (evX (n:=22) (lst 17) (dc 17) (hx st)) (bAdd st (by omega))))
end
section
variable {c:CF}{n:Nat}{τ:Sl}{st:Store}{e x y:E}{ws:List (List Nat)}{k l:Nat}(hv:(runK c (n+1)).ev τ st e=some (.lst (ws.map tD),st))
include hv
theorem lsTk(hx:(runK c (n+1)).ev τ st x=some (.int (k:Int),st)):(runK c (n+3)).ev τ st (.gc (.sli e none (some x)))=some (.lst ((ws.take k).map tD),st):=by
 have:=gc_sli (c:=c) (n:=n+1) (τ:=τ) (st:=st) (a:=e) (lo:=none) (hi:=some x) (xs:=ws.map tD) (l:=none) (h:=some (k:Int)) hv rfl (by simp only[part,hx,oBs]) (by rw[cutTk,← List.map_take]; exact nl_tD _)
 rw[cutTk,← List.map_take]at this
 exact this
theorem lsDr(hx:(runK c (n+1)).ev τ st x=some (.int (k:Int),st)):(runK c (n+3)).ev τ st (.gc (.sli e (some x) none))=some (.lst ((ws.drop k).map tD),st):=by
 have:=gc_sli (c:=c) (n:=n+1) (τ:=τ) (st:=st) (a:=e) (lo:=some x) (hi:=none) (xs:=ws.map tD) (l:=some (k:Int)) (h:=none) hv (by simp only[part,hx,oBs]) rfl (by rw[cutDr,← List.map_drop]; exact nl_tD _)
 rw[cutDr,← List.map_drop]at this
 exact this
theorem lsMd(hx:(runK c (n+1)).ev τ st x=some (.int (k:Int),st))(hy:(runK c (n+1)).ev τ st y=some (.int (l:Int),st))(h:k≤l):(runK c (n+3)).ev τ st (.gc (.sli e (some x) (some y)))=some (.lst (((ws.drop k).take (l - k)).map tD),st):=by
 have:=gc_sli (c:=c) (n:=n+1) (τ:=τ) (st:=st) (a:=e) (lo:=some x) (hi:=some y) (xs:=ws.map tD) (l:=some (k:Int)) (h:=some (l:Int)) hv (by simp only[part,hx,oBs]) (by simp only[part,hy,oBs]) (by rw[cutMd _ _ _ h,← List.map_drop,← List.map_take]; exact nl_tD _)
 rw[cutMd _ _ _ h,← List.map_drop,← List.map_take]at this
 exact this
theorem lsRv:(runK c (n+3)).ev τ st (.gc (.rev e))=some (.lst (ws.reverse.map tD),st):=by
 refine gc_evL (n:=n+2) ?_ (nl_tD _)
 rw[ev_k]
 simp only[stepEv,hv,oBs,seqAt,oMs,← List.map_reverse]
 rfl
end
theorem lsAd{c:CF}{n:Nat}{τ:Sl}{st:Store}{a b:E}{x y:List (List Nat)}(ha:(runK c n).ev τ st a=some (.lst (x.map tD),st))(hb:(runK c n).ev τ st b=some (.lst (y.map tD),st))(hl:x.length+y.length<10000):(runK c (n+2)).ev τ st (.gc (.bin .Add a b))=some (.lst ((x++y).map tD),st):=by
 have:=gc_add (c:=c) (n:=n) (τ:=τ) (st:=st) ha hb rfl rfl (by simp; omega) (by rw[← List.map_append]; exact nl_tD _)
 rw[← List.map_append]at this
 exact this
noncomputable def menu1:List (List Nat):=[wOthers,wYears,wDip,wGround,wHeld,wOpen,[55]]
noncomputable def menu2:List (List Nat):=[[48],[],[48,55],wYounger,[115,116,97,110,100,115],[45,49],wFallen]
theorem wl_take_drop(ws:List (List Nat))(a:Nat):wl (ws.take a)+wl (ws.drop a)=wl ws:=by rw[← wl_app,List.take_append_drop]
theorem wl_rev(ws:List (List Nat)):wl ws.reverse=wl ws:=by
 induction ws with
 |nil=>rfl
 |cons w r ih=>rw[List.reverse_cons,wl_app,ih,wl_cons,wl_cons,wl_nil]; omega
section
variable (m:Nat)(st:Store)(ns:List Int)(hn:ns.length≤63)(k:Int){B:Nat}(cs:List Nat)(hg:Gt B cs)(hB:B<400)(hB8:8≤B)
include hn hg hB hB8
theorem wbent_ok:∃ cs',Gt (2*B+1) cs'∧callD fns (m+2) 21 [sD ns,.int k,.str (mk cs)] st=some (.str (mk cs'),st):=by
 have hlc:=hg.2
 have hwl:=wl_split 32 cs
 have hch:∀ w∈splitC 32 cs,∀ c∈w,c<128:=fun w hw c hc=>hg.1 c (splitC_mem 32 cs w hw c hc)
 have hne:splitC 32 cs≠[]:=fun z=>by rw[z,wl_nil]at hwl; omega
 generalize hws:splitC 32 cs=ws at hwl hch hne
 have hlen:=wl_len ws
 have hpos:0<ws.length:=List.length_pos_iff.mpr hne
 obtain⟨a,ha,hal⟩:∃ a:Nat,drawV ns k 30 (ws.length:Int)=(a:Int)∧a<ws.length:=by
  have h0:=drawV_lo ns k 30 (many:=(ws.length:Int)) (by omega)
  have h1:=drawV_hi ns k 30 (many:=(ws.length:Int)) (by omega)
  exact⟨(drawV ns k 30 (ws.length:Int)).toNat,by omega,by omega⟩
 have w0:=drawV_lo ns k 31 (many:=5) (by omega)
 have w1:=drawV_hi ns k 31 (many:=5) (by omega)
 obtain⟨w,hw⟩:∃ w,w=drawV ns k 31 5:=⟨_,rfl⟩
 rw[← hw]at w0 w1
 have z0:=drawV_lo ns k 32 (many:=14) (by omega)
 have z1:=drawV_hi ns k 32 (many:=14) (by omega)
 have hme:=getD_mem (menu1++menu2) [] (drawV ns k 32 14) z0 (by show _<(14:Int); exact z1)
 have hix:∀ S,idxD S (.lst ((menu1++menu2).map tD)) (.int (drawV ns k 32 14))=some (tD ((menu1++menu2).getD (drawV ns k 32 14).toNat [])):=fun S=>ix_lst tD (menu1++menu2) [] (drawV ns k 32 14) z0 (by show _<(14:Int); exact z1) S
 have hpp:∀ x∈menu1++menu2,x.length≤7∧∀ c∈x,c<128:=by decide
 obtain⟨hy1,hy2⟩:=hpp _ hme
 generalize (menu1++menu2).getD (drawV ns k 32 14).toNat []=y at hix hy1 hy2
 have key:∀ ws',(∀ w∈ws',∀ c∈w,c<128)→wl ws'≤2*B+2→exs (stepEx (rn fns (m+1) (0+24))) b_law_words_bent [some (sD ns),some (.int k),some (.str (mk cs)),none,none,none,none] st=some (.rt (.str (mk (joinC 32 ws'))),st)→∃ cs',Gt (2*B+1) cs'∧callD fns (m+2) 21 [sD ns,.int k,.str (mk cs)] st=some (.str (mk cs'),st):=fun ws' h1 h2 h3=>by
  refine⟨joinC 32 ws',⟨fun c hc=>?_,?_⟩,call_of (0+24) (F:=f_law_words_bent) rfl rfl rfl h3⟩
  ·rcases joinC_mem 32 ws' c hc with z|⟨p,hp,hcp⟩
   ·omega
   ·exact h1 p hp c hcp
  ·rcases K34p.joinC_wl 32 ws' with e|e
   ·omega
   ·rw[e]; simp[joinC]
 unfold b_law_words_bent at key
 have s1:stepEx (rn fns (m+1) (0+24)) [some (sD ns),some (.int k),some (.str (mk cs)),none,none,none,none] st (.set (.var 3) (.gc (.meth (.var 2) .split [(.lit (.str " "))])))=some (.nx [some (sD ns),some (.int k),some (.str (mk cs)),some (.lst (ws.map tD)),none,none,none],st):=by
  rw[← hws]
  exact stS (gc_split (n:=20) (i:=2) rfl (by omega)) rfl
 have s2:stepEx (rn fns (m+1) (0+24)) [some (sD ns),some (.int k),some (.str (mk cs)),some (.lst (ws.map tD)),none,none,none] st (.set (.var 4) (.gc (.lst [(.lit (.str "others")),(.lit (.str "years")),(.lit (.str "dip")),(.lit (.str "ground")),(.lit (.str "held")),(.lit (.str "open")),(.lit (.str "7"))])))=some (.nx [some (sD ns),some (.int k),some (.str (mk cs)),some (.lst (ws.map tD)),some (.lst (menu1.map tD)),none,none],st):=by
  rw[xOthers,xYears,xDip,xGround,xHeld,xOpen,show PySem.Str.ofString "7" = mk [55] by decide +kernel]
  exact stS (gc_lit (n:=22) (ds:=menu1.map tD) rfl (by decide) (nl_tD _)) rfl
 have s3:stepEx (rn fns (m+1) (0+24)) [some (sD ns),some (.int k),some (.str (mk cs)),some (.lst (ws.map tD)),some (.lst (menu1.map tD)),none,none] st (.set (.var 4) (.gc (.bin .Add (.var 4) (.gc (.lst [(.lit (.str "0")),(.lit (.str "")),(.lit (.str "07")),(.lit (.str "younger")),(.lit (.str "stands")),(.lit (.str "-1")),(.lit (.str "fallen"))])))))=some (.nx [some (sD ns),some (.int k),some (.str (mk cs)),some (.lst (ws.map tD)),some (.lst ((menu1++menu2).map tD)),none,none],st):=by
  rw[xYounger,xFallen,t0,te,show PySem.Str.ofString "07" = mk [48,55] by decide +kernel,show PySem.Str.ofString "stands" = mk [115,116,97,110,100,115] by decide +kernel,show PySem.Str.ofString "-1" = mk [45,49] by decide +kernel]
  exact stS (lsAd (n:=22) (x:=menu1) (y:=menu2) rfl (gc_lit (n:=20) (ds:=menu2.map tD) rfl (by decide) (nl_tD _)) (by decide)) rfl
 have ln:∀ S,bLen S [.lst (ws.map tD)]=some (.int (ws.length:Int),S):=fun S=>by simp only[bLen,seqAt,oMs,List.length_map]
 have s4:stepEx (rn fns (m+1) (0+24)) [some (sD ns),some (.int k),some (.str (mk cs)),some (.lst (ws.map tD)),some (.lst ((menu1++menu2).map tD)),none,none] st (.set (.var 5) (.gc (.call 9 [(.var 0),(.var 1),(.lit (.int 30)),(.bcall .len [(.var 3)])])))=some (.nx [some (sD ns),some (.int k),some (.str (mk cs)),some (.lst (ws.map tD)),some (.lst ((menu1++menu2).map tD)),some (.int (a:Int)),none],st):=by
  have d1:=drwG m st ns k 30 (ws.length:Int) hn (by omega) (by omega) (by omega)
  rw[ha]at d1
  simp only[stepEx,ev_k,stepEv,evs,List.getElem?_cons_succ,List.getElem?_cons_zero,oBs,bfun,ln,call_k,d1,oMs,gc_int]
  rfl
 have s5:stepEx (rn fns (m+1) (0+24)) [some (sD ns),some (.int k),some (.str (mk cs)),some (.lst (ws.map tD)),some (.lst ((menu1++menu2).map tD)),some (.int (a:Int)),none] st (.set (.var 6) (.gc (.call 9 [(.var 0),(.var 1),(.lit (.int 31)),(.lit (.int 5))])))=some (.nx [some (sD ns),some (.int k),some (.str (mk cs)),some (.lst (ws.map tD)),some (.lst ((menu1++menu2).map tD)),some (.int (a:Int)),some (.int w)],st):=by
  have d1:=drwG m st ns k 31 5 hn (by omega) (by omega) (by omega)
  rw[← hw]at d1
  simp only[stepEx,ev_k,stepEv,evs,List.getElem?_cons_succ,List.getElem?_cons_zero,oBs,call_k,d1,oMs,gc_int]
  rfl
 simp only[exs_cons s1,exs_cons s2,exs_cons s3,exs_cons s4,exs_cons s5]at key
 obtain⟨T,hT⟩:∃ T:List (List Nat)→Sl,T=fun v=>[some (sD ns),some (.int k),some (.str (mk cs)),some (.lst (v.map tD)),some (.lst ((menu1++menu2).map tD)),some (.int (a:Int)),some (.int w)]:=⟨_,rfl⟩
 have hT0:[some (sD ns),some (.int k),some (.str (mk cs)),some (.lst (ws.map tD)),some (.lst ((menu1++menu2).map tD)),some (.int (a:Int)),some (.int w)]=T ws:=by rw[hT]
 rw[hT0]at key
 have v0:∀ v n,(rn fns (m+1) (n+1)).ev (T v) st (.var 0)=some (sD ns,st):=fun v n=>by rw[hT]; rfl
 have v1:∀ v n,(rn fns (m+1) (n+1)).ev (T v) st (.var 1)=some (.int k,st):=fun v n=>by rw[hT]; rfl
 have v3:∀ v n,(rn fns (m+1) (n+1)).ev (T v) st (.var 3)=some (.lst (v.map tD),st):=fun v n=>by rw[hT]; rfl
 have v4:∀ v n,(rn fns (m+1) (n+1)).ev (T v) st (.var 4)=some (.lst ((menu1++menu2).map tD),st):=fun v n=>by rw[hT]; rfl
 have v5:∀ v n,(rn fns (m+1) (n+1)).ev (T v) st (.var 5)=some (.int (a:Int),st):=fun v n=>by rw[hT]; rfl
 have v51:∀ v n,(rn fns (m+1) (n+2)).ev (T v) st (.bin .Add (.var 5) (.lit (.int 1)))=some (.int ((a+1:Nat):Int),st):=fun v n=>evB (n:=n+1) (v5 v n) rfl (by rw[pA]; rfl)
 have v52:∀ v n,(rn fns (m+1) (n+2)).ev (T v) st (.bin .Add (.var 5) (.lit (.int 2)))=some (.int ((a+2:Nat):Int),st):=fun v n=>evB (n:=n+1) (v5 v n) rfl (by rw[pA]; rfl)
 have tw:∀ v (q:Int) n,(rn fns (m+1) (n+2)).tst (T v) st (.cmp .Eq (.var 6) (.lit (.int q)))=some (w==q,st):=fun v q n=>tCmp (n:=n+1) (x:=.int w) (y:=.int q) (by rw[hT]; rfl) rfl (by simp only[cmpD,eqD_ii])
 have no:∀ v (q:Int) (r b:List S),w≠q→exs (stepEx (rn fns (m+1) (0+24))) (.ite (.cmp .Eq (.var 6) (.lit (.int q))) r []::b) (T v) st=exs (stepEx (rn fns (m+1) (0+24))) b (T v) st:=fun v q r b h=>exs_cons ((stepEx_ite_f (st':=st) (by rw[tw v q 22,show(w==q)=false by simpa using h])).trans rfl)
 have yes:∀ v (q:Int) (e:E) (v':List (List Nat)) (b:List S),w=q→(∀ n,(rn fns (m+1) (n+15)).ev (T v) st e=some (.lst (v'.map tD),st))→exs (stepEx (rn fns (m+1) (0+24))) (.ite (.cmp .Eq (.var 6) (.lit (.int q))) [.set (.var 3) e] []::b) (T v) st=exs (stepEx (rn fns (m+1) (0+24))) b (T v') st:=fun v q e v' b h he=>by
  refine exs_cons ((stepEx_ite_t (st':=st) (by rw[tw v q 22,show(w==q)=true by simpa using h])).trans ?_)
  rw[ex_k]
  refine(exs_cons (b:=[]) (stS (n:=23) (he 8) (τ':=T v') (by rw[hT]; rfl))).trans rfl
 have jn:∀ v,wl v≤2*B+2→exs (stepEx (rn fns (m+1) (0+24))) [.ret (.meth (.lit (.str " ")) .join [(.var 3)])] (T v) st=some (.rt (.str (mk (joinC 32 v))),st):=fun v hv=>by
  refine exs_ret (stR ?_)
  rw[xBlank]
  have j1:mJoin st (.str (mk [32])) [.lst (v.map tD)]=some (.str (mk (joinC 32 v)),st):=join_list (ps:=v) rfl (fun p hp=>by have:=wl_le hp; omega) (by have:=wl_len v; omega)
  have my:∀ S,mty S .join (.str (mk [32]))=true:=fun S=>rfl
  have l1:∀ n,(rn fns (m+1) (n+1)).ev (T v) st (.lit (.str (mk [32])))=some (.str (mk [32]),st):=fun n=>rfl
  rw[ev_k]
  simp only[stepEv,l1,oBs,my,if_true,evs,v3,mfun,j1]
 have d3:=drwG m st ns k 32 14 hn (by omega) (by omega) (by omega)
 have q14:∀ v n,(rn fns (m+1) (n+1)).ev (T v) st (.lit (.int 14))=some (.int 14,st):=fun v n=>rfl
 have q32:∀ v n,(rn fns (m+1) (n+1)).ev (T v) st (.lit (.int 32))=some (.int 32,st):=fun v n=>rfl
 have dc:∀ v n,(rn fns (m+1) (n+4)).ev (T v) st (.gc (.call 9 [(.var 0),(.var 1),(.lit (.int 32)),(.lit (.int 14))]))=some (.int (drawV ns k 32 14),st):=fun v n=>gc_callR (r:=[]) (n:=n+1) (ds:=[sD ns,.int k,.int 32,.int 14]) (by simp only[evs,v0,v1,q32,q14,oBs]) (by rw[List.append_nil]; exact d3) rfl
 have im:∀ v n,(rn fns (m+1) (n+5)).ev (T v) st (.idx (.var 4) (.gc (.call 9 [(.var 0),(.var 1),(.lit (.int 32)),(.lit (.int 14))])))=some (tD y,st):=fun v n=>evX (n:=n+4) (v4 v (n+3)) (dc v n) (hix st)
 have lm:∀ v n,(rn fns (m+1) (n+7)).ev (T v) st (.gc (.lst [(.idx (.var 4) (.gc (.call 9 [(.var 0),(.var 1),(.lit (.int 32)),(.lit (.int 14))])))]))=some (.lst ([y].map tD),st):=fun v n=>gc_lit (n:=n+5) (ds:=[y].map tD) (by simp only[evs,im,oBs]; rfl) (by simp) (nl_tD _)
 have tk:∀ n,(rn fns (m+1) (n+3)).ev (T ws) st (.gc (.sli (.var 3) none (some (.var 5))))=some (.lst ((ws.take a).map tD),st):=fun n=>lsTk (n:=n) (v3 ws n) (v5 ws n)
 have dr:∀ n,(rn fns (m+1) (n+3)).ev (T ws) st (.gc (.sli (.var 3) (some (.var 5)) none))=some (.lst ((ws.drop a).map tD),st):=fun n=>lsDr (n:=n) (v3 ws n) (v5 ws n)
 have dr1:∀ n,(rn fns (m+1) (n+4)).ev (T ws) st (.gc (.sli (.var 3) (some (.bin .Add (.var 5) (.lit (.int 1)))) none))=some (.lst ((ws.drop (a+1)).map tD),st):=fun n=>lsDr (n:=n+1) (v3 ws (n+1)) (v51 ws n)
 have dr2:∀ n,(rn fns (m+1) (n+4)).ev (T ws) st (.gc (.sli (.var 3) (some (.bin .Add (.var 5) (.lit (.int 2)))) none))=some (.lst ((ws.drop (a+2)).map tD),st):=fun n=>lsDr (n:=n+1) (v3 ws (n+1)) (v52 ws n)
 have md1:∀ n,(rn fns (m+1) (n+4)).ev (T ws) st (.gc (.sli (.var 3) (some (.var 5)) (some (.bin .Add (.var 5) (.lit (.int 1))))))=some (.lst (((ws.drop a).take 1).map tD),st):=fun n=>by
  have:=lsMd (n:=n+1) (v3 ws (n+1)) (v5 ws (n+1)) (v51 ws n) (by omega)
  rw[show a+1 - a=1 by omega]at this
  exact this
 have md2:∀ n,(rn fns (m+1) (n+4)).ev (T ws) st (.gc (.sli (.var 3) (some (.var 5)) (some (.bin .Add (.var 5) (.lit (.int 2))))))=some (.lst (((ws.drop a).take 2).map tD),st):=fun n=>by
  have:=lsMd (n:=n+1) (v3 ws (n+1)) (v5 ws (n+1)) (v52 ws n) (by omega)
  rw[show a+2 - a=2 by omega]at this
  exact this
 have rv:∀ n,(rn fns (m+1) (n+6)).ev (T ws) st (.gc (.rev (.gc (.sli (.var 3) (some (.var 5)) (some (.bin .Add (.var 5) (.lit (.int 2))))))))=some (.lst (((ws.drop a).take 2).reverse.map tD),st):=fun n=>lsRv (n:=n+3) (md2 n)
 have ltk:(ws.take a).length≤ws.length:=by rw[List.length_take]; omega
 have ldr:∀ q,(ws.drop q).length≤ws.length:=fun q=>by rw[List.length_drop]; omega
 have mtk:∀ x∈ws.take a,∀ c∈x,c<128:=fun x hx=>hch x (List.mem_of_mem_take hx)
 have mdr:∀ q,∀ x∈ws.drop q,∀ c∈x,c<128:=fun q x hx=>hch x (List.mem_of_mem_drop hx)
 have app:∀ {p q:List (List Nat)},(∀ x∈p,∀ c∈x,c<128)→(∀ x∈q,∀ c∈x,c<128)→∀ x∈p++q,∀ c∈x,c<128:=fun hp hq x hx=>(List.mem_append.mp hx).elim (hp x) (hq x)
 have one:∀ x∈[y],∀ c∈x,c<128:=fun x hx=>by rw[List.mem_singleton]at hx; rw[hx]; exact hy2
 have td0:=wl_take_drop ws a
 have td1:=wl_take_drop ws (a+1)
 have td2:=wl_take_drop (ws.drop a) 2
 have td3:=wl_take_drop (ws.drop a) 1
 rw[List.drop_drop]at td2 td3
 have y1:wl [y]≤8:=by rw[wl_cons,wl_nil]; omega
 have hw5:w=0∨w=1∨w=2∨w=3∨w=4:=by omega
 rcases hw5 with h|h|h|h|h
 ·refine key (ws.take a++ws.drop (a+1)) (app mtk (mdr _)) (by rw[wl_app]; omega) ?_
  have hv:wl (ws.take a++ws.drop (a+1))≤2*B+2:=by rw[wl_app]; omega
  rw[yes ws 0 _ _ _ h fun n=>lsAd (n:=n+13) (tk (n+10)) (dr1 (n+9)) (by have:=ldr (a+1); omega),no _ 1 _ _ (by omega),no _ 2 _ _ (by omega),no _ 3 _ _ (by omega),no _ 4 _ _ (by omega)]
  exact jn _ hv
 ·have hv:wl (ws.take a++(ws.drop a).take 1++ws.drop a)≤2*B+2:=by rw[wl_app,wl_app]; omega
  refine key _ (app (app mtk fun x hx=>mdr a x (List.mem_of_mem_take hx)) (mdr a)) hv ?_
  rw[no _ 0 _ _ (by omega),yes ws 1 _ _ _ h fun n=>lsAd (n:=n+13) (lsAd (n:=n+11) (tk (n+8)) (md1 (n+7)) (by simp only[List.length_append,List.length_reverse,List.length_take,List.length_drop]; omega)) (dr (n+10)) (by simp only[List.length_append,List.length_reverse,List.length_take,List.length_drop]; omega),no _ 2 _ _ (by omega),no _ 3 _ _ (by omega),no _ 4 _ _ (by omega)]
  exact jn _ hv
 ·have hv:wl (ws.take a++((ws.drop a).take 2).reverse++ws.drop (a+2))≤2*B+2:=by rw[wl_app,wl_app,wl_rev]; omega
  refine key _ (app (app mtk fun x hx=>mdr a x (List.mem_of_mem_take (List.mem_reverse.mp hx))) (mdr _)) hv ?_
  rw[no _ 0 _ _ (by omega),no _ 1 _ _ (by omega),yes ws 2 _ _ _ h fun n=>lsAd (n:=n+13) (lsAd (n:=n+11) (tk (n+8)) (rv (n+5)) (by simp only[List.length_append,List.length_reverse,List.length_take,List.length_drop]; omega)) (dr2 (n+9)) (by simp only[List.length_append,List.length_reverse,List.length_take,List.length_drop]; omega),no _ 3 _ _ (by omega),no _ 4 _ _ (by omega)]
  exact jn _ hv
 ·have hv:wl (ws.take a++[y]++ws.drop a)≤2*B+2:=by rw[wl_app,wl_app]; omega
  refine key _ (app (app mtk one) (mdr a)) hv ?_
  rw[no _ 0 _ _ (by omega),no _ 1 _ _ (by omega),no _ 2 _ _ (by omega),yes ws 3 _ _ _ h fun n=>lsAd (n:=n+13) (lsAd (n:=n+11) (tk (n+8)) (lm ws (n+4)) (by simp; omega)) (dr (n+10)) (by have:=ldr a; simp; omega),no _ 4 _ _ (by omega)]
  exact jn _ hv
 ·have hv:wl (ws.take a++[y]++ws.drop (a+1))≤2*B+2:=by rw[wl_app,wl_app]; omega
  refine key _ (app (app mtk one) (mdr _)) hv ?_
  rw[no _ 0 _ _ (by omega),no _ 1 _ _ (by omega),no _ 2 _ _ (by omega),no _ 3 _ _ (by omega),yes ws 4 _ _ _ h fun n=>lsAd (n:=n+13) (lsAd (n:=n+11) (tk (n+8)) (lm ws (n+4)) (by simp; omega)) (dr1 (n+9)) (by have:=ldr (a+1); simp; omega)]
  exact jn _ hv
end
theorem dpN(k:Nat)(w:List Nat):Dp k (numV w):=by
 unfold numV
 split
 ·exact .int
 ·exact .non
theorem dp_oo{os:List T3}(hl:os.length<100000):Dp 2 (.tup (os.map tV)):=.tup (fun d hd=>by
 obtain⟨t,_,rfl⟩:=List.mem_map.mp hd
 refine .tup (fun d hd=>?_) (by simp)
 simp only[List.mem_cons,List.not_mem_nil,or_false]at hd
 rcases hd with rfl|rfl|rfl
 ·exact dpN _ _
 ·exact .str
 ·exact dpN _ _) (by rw[List.length_map]; exact hl)
theorem dp_way{ws:List (List Nat)}{d:D}(h:wayV ws=some d):Dp 2 d:=by
 unfold wayV at h
 split at h
 ·split at h
  ·cases h
   exact .tup (fun d hd=>by rw[List.mem_singleton]at hd; subst hd; exact .str) (by simp)
  ·cases h
 ·split at h
  ·cases h
   refine .tup (fun d hd=>?_) (by simp)
   simp only[List.mem_cons,List.not_mem_nil,or_false]at hd
   rcases hd with rfl|rfl|rfl
   ·exact .str
   ·exact dpN _ _
   ·exact dpN _ _
  ·cases h
 ·cases h
theorem dp_pv{B:Nat}(cs:List Nat)(hg:Gt B cs)(hB:B<600):Dp 3 (pv cs):=by
 unfold pv
 cases h:papO (splitC 32 cs) with
 |none=>exact .non
 |some d=>
  show Dp 3 d
  unfold papO at h
  obtain⟨⟨a,b⟩,h1,h⟩:=Option.bind_eq_some_iff.mp h
  obtain⟨os,h2,h⟩:=Option.bind_eq_some_iff.mp h
  obtain⟨e1,_⟩:=cutAt_some h1
  have e2:b=os.flatMap tP:=thr_some h2
  obtain⟨_,_,la,lb⟩:=paper_w cs hg hB e1
  rw[e2,flat_len]at lb
  have ho:=dp_oo (os:=os) (by omega)
  split at h
  ·split at h
   ·cases h
    refine .tup (fun d hd=>?_) (by simp)
    simp only[List.mem_cons,List.not_mem_nil,or_false]at hd
    rcases hd with rfl|rfl
    ·exact .str
    ·exact ho
   ·obtain⟨⟨q1,q2⟩,h3,h4⟩:=Option.bind_eq_some_iff.mp h
    obtain⟨e3,_⟩:=cutAt_some h3
    have e3:a=q1++wYears::q2:=e3
    have l3:=congrArg List.length e3
    simp only[List.length_append,List.length_cons]at l3
    unfold heldV at h4
    split at h4
    ·split at h4
     ·obtain⟨wd,h5,h6⟩:=Option.bind_eq_some_iff.mp h4
      split at h6
      ·cases h6
       refine .tup (fun d hd=>?_) (by simp)
       simp only[List.mem_cons,List.not_mem_nil,or_false]at hd
       rcases hd with rfl|rfl|rfl|rfl|rfl
       ·exact .str
       ·exact dpN _ _
       ·exact dp_way h5
       ·exact .tup (fun d hd=>by obtain⟨y,_,rfl⟩:=List.mem_map.mp hd; exact dpN _ _) (by rw[List.length_map]; omega)
       ·exact ho
      ·cases h6
     ·cases h4
    ·cases h4
  ·cases h
noncomputable def odd1:List Str:=[PySem.Str.ofString "",PySem.Str.ofString " ",PySem.Str.ofString "open",PySem.Str.ofString "open others ",PySem.Str.ofString "held",PySem.Str.ofString "held 5",PySem.Str.ofString "held 5 ground",PySem.Str.ofString "held 5 ground years"]
noncomputable def odd2:List Str:=[PySem.Str.ofString "held 5 dip 2 0 years others",PySem.Str.ofString "held 5 ground years others 1 ground",PySem.Str.ofString "open years others"]
noncomputable def odd3:List Str:=[PySem.Str.ofString "held 5 dip 2 years others",PySem.Str.ofString "held 5 dip years others",PySem.Str.ofString "held 5 ground 2 0 years 5 others"]
noncomputable def odd4:List Str:=[PySem.Str.ofString "open others\n",PySem.Str.ofString "held 5 ground others years",PySem.Str.ofString "held 5 ground years 5 years others"]
noncomputable def odd:List Str:=odd1++odd2++odd3++odd4
theorem odd_gt:∀ z∈odd,(z.cps.toList.all fun c=>decide (c<128))=true∧z.cps.toList.length≤146:=by decide +kernel
theorem nl_str(xs:List Str):noLocs (xs.map D.str)=true:=noLocs_map fun _ _=>rfl
theorem stAd{c:CF}{n:Nat}{τ:Sl}{st:Store}{a b:E}{x y:List Str}(ha:(runK c n).ev τ st a=some (.lst (x.map D.str),st))(hb:(runK c n).ev τ st b=some (.lst (y.map D.str),st))(hl:x.length+y.length<10000):(runK c (n+2)).ev τ st (.gc (.bin .Add a b))=some (.lst ((x++y).map D.str),st):=by
 have:=gc_add (c:=c) (n:=n) (τ:=τ) (st:=st) ha hb rfl rfl (by simp; omega) (by rw[← List.map_append]; exact nl_str _)
 rw[← List.map_append]at this
 exact this
noncomputable def lT(ns:List Int)(cs:List Nat)(y:Option D):Sl:=[some (sD ns),some (.str (mk cs)),some (.lst (odd.map D.str)),y]
noncomputable def bnd:Nat→Nat
 |0=>146
 |n+1=>2*bnd n+1
noncomputable def lbody:List S:=[.ite (.cmp .Eq (.gc (.call 9 [(.var 0),(.bin .Add (.lit (.int 10)) (.var 3)),(.lit (.int 3)),(.lit (.int 2))])) (.lit (.int 0))) [.set (.var 1) (.gc (.call 21 [(.var 0),(.bin .Add (.lit (.int 10)) (.var 3)),(.var 1)]))] [.set (.var 1) (.gc (.call 14 [(.var 0),(.bin .Add (.lit (.int 10)) (.var 3)),(.lit (.int 4)),(.var 1)]))]]
theorem lbody_ok(ns:List Int)(hn:ns.length≤63)(i:Int){B:Nat}(cs:List Nat)(hg:Gt B cs)(hB:B<400)(hB8:8≤B)(n:Nat):∃ cs',Gt (2*B+1) cs'∧(rn fns 19 (n+20)).ex (lT ns cs (some (.int i))) [] lbody=some (.nx (lT ns cs' (some (.int i))),[]):=by
 have v0:∀ n,(rn fns 19 (n+1)).ev (lT ns cs (some (.int i))) [] (.var 0)=some (sD ns,[]):=fun n=>rfl
 have v1:∀ n,(rn fns 19 (n+1)).ev (lT ns cs (some (.int i))) [] (.var 1)=some (.str (mk cs),[]):=fun n=>rfl
 have k1:∀ n,(rn fns 19 (n+2)).ev (lT ns cs (some (.int i))) [] (.bin .Add (.lit (.int 10)) (.var 3))=some (.int (10+i),[]):=fun n=>evB (n:=n+1) rfl rfl (pA _ _ _)
 have d1:=drwG 18 [] ns (10+i) 3 2 hn (by omega) (by omega) (by omega)
 have q3:∀ (q:Int) n,(rn fns 19 (n+1)).ev (lT ns cs (some (.int i))) [] (.lit (.int q))=some (.int q,[]):=fun q n=>rfl
 have c1:∀ n,(rn fns 19 (n+4)).ev (lT ns cs (some (.int i))) [] (.gc (.call 9 [(.var 0),(.bin .Add (.lit (.int 10)) (.var 3)),(.lit (.int 3)),(.lit (.int 2))]))=some (.int (drawV ns (10+i) 3 2),[]):=fun n=>gc_callR (r:=[]) (n:=n+1) (ds:=[sD ns,.int (10+i),.int 3,.int 2]) (by simp only[evs,v0,k1,q3,oBs]) d1 rfl
 have t1:∀ n,(rn fns 19 (n+5)).tst (lT ns cs (some (.int i))) [] (.cmp .Eq (.gc (.call 9 [(.var 0),(.bin .Add (.lit (.int 10)) (.var 3)),(.lit (.int 3)),(.lit (.int 2))])) (.lit (.int 0)))=some (drawV ns (10+i) 3 2==0,[]):=fun n=>tCmp (n:=n+4) (x:=.int (drawV ns (10+i) 3 2)) (y:=.int 0) (c1 n) rfl (by simp only[cmpD,eqD_ii])
 by_cases h:drawV ns (10+i) 3 2=0
 ·obtain⟨cs',g',e'⟩:=wbent_ok 17 [] ns hn (10+i) cs hg hB hB8
  refine⟨cs',g',?_⟩
  rw[ex_k]
  unfold lbody
  have e1:stepEx (rn fns 19 (n+19)) (lT ns cs (some (.int i))) [] (.ite (.cmp .Eq (.gc (.call 9 [(.var 0),(.bin .Add (.lit (.int 10)) (.var 3)),(.lit (.int 3)),(.lit (.int 2))])) (.lit (.int 0))) [.set (.var 1) (.gc (.call 21 [(.var 0),(.bin .Add (.lit (.int 10)) (.var 3)),(.var 1)]))] [.set (.var 1) (.gc (.call 14 [(.var 0),(.bin .Add (.lit (.int 10)) (.var 3)),(.lit (.int 4)),(.var 1)]))])=some (.nx (lT ns cs' (some (.int i))),[]):=by
   refine(stepEx_ite_t (st':=[]) (by rw[t1,h]; rfl)).trans ?_
   rw[ex_k]
   refine(exs_cons (b:=[]) (stS (n:=n+18) (gc_callR (r:=[]) (n:=n+15) (ds:=[sD ns,.int (10+i),.str (mk cs)]) (by simp only[evs,v0,k1,v1,oBs]) e' rfl) rfl)).trans rfl
  exact(exs_cons (b:=[]) e1).trans rfl
 ·obtain⟨cs',g',e'⟩:=bent_ok 17 [] ns hn (10+i) cs hg (by omega)
  refine⟨cs',g'.mono (by omega),?_⟩
  rw[ex_k]
  unfold lbody
  have e1:stepEx (rn fns 19 (n+19)) (lT ns cs (some (.int i))) [] (.ite (.cmp .Eq (.gc (.call 9 [(.var 0),(.bin .Add (.lit (.int 10)) (.var 3)),(.lit (.int 3)),(.lit (.int 2))])) (.lit (.int 0))) [.set (.var 1) (.gc (.call 21 [(.var 0),(.bin .Add (.lit (.int 10)) (.var 3)),(.var 1)]))] [.set (.var 1) (.gc (.call 14 [(.var 0),(.bin .Add (.lit (.int 10)) (.var 3)),(.lit (.int 4)),(.var 1)]))])=some (.nx (lT ns cs' (some (.int i))),[]):=by
   refine(stepEx_ite_f (st':=[]) (by rw[t1,show(drawV ns (10+i) 3 2==0)=false by simpa using h])).trans ?_
   rw[ex_k]
   refine(exs_cons (b:=[]) (stS (n:=n+18) (gc_callR (r:=[]) (n:=n+15) (ds:=[sD ns,.int (10+i),.int 4,.str (mk cs)]) (by simp only[evs,v0,k1,v1,q3,oBs]) e' rfl) rfl)).trans rfl
  exact(exs_cons (b:=[]) e1).trans rfl
theorem law_ok(ns:List Int)(hn:ns.length≤63):∃ st',callD fns 20 23 [.lst (ns.map D.int)] []=some (.bl true,st'):=by
 obtain⟨p,r,hp,e1⟩:=K34p.loose_ok (m:=19) (by omega) [] ns 1 hn
 have e2:=K34p.small_ok 18 [] p hp
 obtain⟨r3,e3⟩:=K34p.flat_ok 18 [] (K34p.smP p) (K34p.sm_ok hp)
 have g0:=K34p.sm_gt hp
 refine⟨[],call_of (0+30) (F:=f_law) rfl rfl rfl ?_⟩
 show exs (stepEx (rn fns 19 (0+30))) b_law [some (sD ns),none,none,none] []=_
 unfold b_law
 have s1:stepEx (rn fns 19 (0+30)) [some (sD ns),none,none,none] [] (.set (.var 1) (.gc (.call 15 [(.gc (.call 22 [(.gc (.call 16 [(.var 0),(.lit (.int 1))]))]))])))=some (.nx [some (sD ns),some (.str (mk (K34p.papX (K34p.smP p)))),none,none],[]):=by
  have a1:∀ n,(rn fns 19 (n+4)).ev [some (sD ns),none,none,none] [] (.gc (.call 16 [(.var 0),(.lit (.int 1))]))=some (K34p.papD p,[]):=fun n=>gc_callR (r:=r) (n:=n+1) (ds:=[sD ns,.int 1]) rfl e1 (K34p.papD_nl p)
  have a2:∀ n,(rn fns 19 (n+7)).ev [some (sD ns),none,none,none] [] (.gc (.call 22 [(.gc (.call 16 [(.var 0),(.lit (.int 1))]))]))=some (K34p.papD (K34p.smP p),[]):=fun n=>gc_callR (r:=[]) (n:=n+4) (ds:=[K34p.papD p]) (by simp only[evs,a1,oBs]) e2 (K34p.papD_nl _)
  exact stS (gc_callR (r:=r3) (n:=27) (ds:=[K34p.papD (K34p.smP p)]) (by simp only[evs,a2,oBs]) e3 rfl) rfl
 rw[exs_cons s1]
 generalize K34p.papX (K34p.smP p)=x0 at g0
 have s2:stepEx (rn fns 19 (0+30)) [some (sD ns),some (.str (mk x0)),none,none] [] (.set (.var 2) (.gc (.lst [(.lit (.str "")),(.lit (.str " ")),(.lit (.str "open")),(.lit (.str "open others ")),(.lit (.str "held")),(.lit (.str "held 5")),(.lit (.str "held 5 ground")),(.lit (.str "held 5 ground years"))])))=some (.nx [some (sD ns),some (.str (mk x0)),some (.lst (odd1.map D.str)),none],[]):=stS (gc_lit (n:=28) (ds:=odd1.map D.str) rfl (by decide) (nl_str _)) rfl
 have ad:∀ (x y:List Str) (es:List E),evs ((rn fns 19 26).ev [some (sD ns),some (.str (mk x0)),some (.lst (x.map D.str)),none]) es []=some (y.map D.str,[])→y.length≤1000→x.length≤1000→stepEx (rn fns 19 (0+30)) [some (sD ns),some (.str (mk x0)),some (.lst (x.map D.str)),none] [] (.set (.var 2) (.gc (.bin .Add (.var 2) (.gc (.lst es)))))=some (.nx [some (sD ns),some (.str (mk x0)),some (.lst ((x++y).map D.str)),none],[]):=fun x y es h hy hx=>stS (stAd (n:=28) (x:=x) (y:=y) rfl (gc_lit (n:=26) h (by simpa using hy) (nl_str _)) (by omega)) rfl
 rw[exs_cons s2,exs_cons (ad odd1 odd2 _ rfl (by decide) (by decide)),exs_cons (ad (odd1++odd2) odd3 _ rfl (by decide) (by decide)),exs_cons (ad (odd1++odd2++odd3) odd4 _ rfl (by decide) (by decide))]
 show exs (stepEx (rn fns 19 (0+30))) _ (lT ns x0 none) []=_
 obtain⟨x1,g1,s6⟩:∃ x1,Gt 146 x1∧stepEx (rn fns 19 (0+30)) (lT ns x0 none) [] (.ite (.cmp .Eq (.gc (.call 9 [(.var 0),(.lit (.int 0)),(.lit (.int 0)),(.lit (.int 9))])) (.lit (.int 0))) [.set (.var 1) (.idx (.var 2) (.gc (.call 9 [(.var 0),(.lit (.int 0)),(.lit (.int 1)),(.bcall .len [(.var 2)])])))] [])=some (.nx (lT ns x1 none),[]):=by
  have d1:=drwG 18 [] ns 0 0 9 hn (by omega) (by omega) (by omega)
  have c1:∀ n,(rn fns 19 (n+4)).ev (lT ns x0 none) [] (.gc (.call 9 [(.var 0),(.lit (.int 0)),(.lit (.int 0)),(.lit (.int 9))]))=some (.int (drawV ns 0 0 9),[]):=fun n=>gc_callR (r:=[]) (n:=n+1) (ds:=[sD ns,.int 0,.int 0,.int 9]) rfl d1 rfl
  have t1:∀ n,(rn fns 19 (n+5)).tst (lT ns x0 none) [] (.cmp .Eq (.gc (.call 9 [(.var 0),(.lit (.int 0)),(.lit (.int 0)),(.lit (.int 9))])) (.lit (.int 0)))=some (drawV ns 0 0 9==0,[]):=fun n=>tCmp (n:=n+4) (x:=.int (drawV ns 0 0 9)) (y:=.int 0) (c1 n) rfl (by simp only[cmpD,eqD_ii])
  by_cases h:drawV ns 0 0 9=0
  ·have z0:=drawV_lo ns 0 1 (many:=17) (by omega)
   have z1:=drawV_hi ns 0 1 (many:=17) (by omega)
   have hme:=getD_mem odd "" (drawV ns 0 1 17) z0 (by show _<(17:Int); exact z1)
   have hix:=ix_lst D.str odd "" (drawV ns 0 1 17) z0 (by show _<(17:Int); exact z1) []
   obtain⟨o1,o2⟩:=odd_gt _ hme
   generalize odd.getD (drawV ns 0 1 17).toNat "" = z at hix o1 o2
   refine⟨z.cps.toList,⟨fun c hc=>by have:=List.all_eq_true.mp o1 c hc; simpa using this,o2⟩,?_⟩
   have d2:=drwG 18 [] ns 0 1 17 hn (by omega) (by omega) (by omega)
   have ln:∀ n,(rn fns 19 (n+3)).ev (lT ns x0 none) [] (.bcall .len [(.var 2)])=some (.int 17,[]):=fun n=>rfl
   have v0:∀ n,(rn fns 19 (n+1)).ev (lT ns x0 none) [] (.var 0)=some (sD ns,[]):=fun n=>rfl
   have q3:∀ (q:Int) n,(rn fns 19 (n+1)).ev (lT ns x0 none) [] (.lit (.int q))=some (.int q,[]):=fun q n=>rfl
   have c2:∀ n,(rn fns 19 (n+6)).ev (lT ns x0 none) [] (.gc (.call 9 [(.var 0),(.lit (.int 0)),(.lit (.int 1)),(.bcall .len [(.var 2)])]))=some (.int (drawV ns 0 1 17),[]):=fun n=>gc_callR (r:=[]) (n:=n+3) (ds:=[sD ns,.int 0,.int 1,.int 17]) (by simp only[evs,v0,q3,ln,oBs]) d2 rfl
   refine(stepEx_ite_t (st':=[]) (by rw[t1 25,h]; rfl)).trans ?_
   rw[ex_k]
   exact(exs_cons (b:=[]) (stS (n:=29) (evX (n:=28) (x:=.lst (odd.map D.str)) rfl (c2 22) hix) rfl)).trans rfl
  ·exact⟨x0,g0,(stepEx_ite_f (st':=[]) (by rw[t1 25,show(drawV ns 0 0 9==0)=false by simpa using h])).trans rfl⟩
 rw[exs_cons s6]
 obtain⟨x2,y2,g2,s7⟩:∃ x2 y,Gt 590 x2∧stepEx (rn fns 19 (0+30)) (lT ns x1 none) [] (.forr (.var 3) (.rng1 (.idx (.gc (.lst [(.lit (.int 0)),(.lit (.int 1)),(.lit (.int 1)),(.lit (.int 1)),(.lit (.int 2))])) (.gc (.call 9 [(.var 0),(.lit (.int 0)),(.lit (.int 2)),(.lit (.int 5))])))) lbody)=some (.nx (lT ns x2 y),[]):=by
  have z0:=drawV_lo ns 0 2 (many:=5) (by omega)
  have z1:=drawV_hi ns 0 2 (many:=5) (by omega)
  have hme:=getD_mem [(0:Nat),1,1,1,2] 0 (drawV ns 0 2 5) z0 (by show _<(5:Int); exact z1)
  have hix:=ix_lst iD [(0:Nat),1,1,1,2] 0 (drawV ns 0 2 5) z0 (by show _<(5:Int); exact z1) []
  have h2:∀ q∈[(0:Nat),1,1,1,2],q≤2:=by decide
  have hq:=h2 _ hme
  generalize [(0:Nat),1,1,1,2].getD (drawV ns 0 2 5).toNat 0=q at hix hq
  have d1:=drwG 18 [] ns 0 2 5 hn (by omega) (by omega) (by omega)
  have c1:∀ n,(rn fns 19 (n+4)).ev (lT ns x1 none) [] (.gc (.call 9 [(.var 0),(.lit (.int 0)),(.lit (.int 2)),(.lit (.int 5))]))=some (.int (drawV ns 0 2 5),[]):=fun n=>gc_callR (r:=[]) (n:=n+1) (ds:=[sD ns,.int 0,.int 2,.int 5]) rfl d1 rfl
  have l1:∀ n,(rn fns 19 (n+5)).ev (lT ns x1 none) [] (.gc (.lst [(.lit (.int 0)),(.lit (.int 1)),(.lit (.int 1)),(.lit (.int 1)),(.lit (.int 2))]))=some (.lst ([(0:Nat),1,1,1,2].map iD),[]):=fun n=>gc_lit (n:=n+3) (ds:=[(0:Nat),1,1,1,2].map iD) rfl (by simp) (nl_iD _)
  have i1:∀ n,(rn fns 19 (n+6)).ev (lT ns x1 none) [] (.idx (.gc (.lst [(.lit (.int 0)),(.lit (.int 1)),(.lit (.int 1)),(.lit (.int 1)),(.lit (.int 2))])) (.gc (.call 9 [(.var 0),(.lit (.int 0)),(.lit (.int 2)),(.lit (.int 5))])))=some (.int (q:Int),[]):=fun n=>evX (n:=n+5) (l1 n) (c1 (n+1)) hix
  have sr:src (rn fns 19 (0+30)) (lT ns x1 none) [] (.rng1 (.idx (.gc (.lst [(.lit (.int 0)),(.lit (.int 1)),(.lit (.int 1)),(.lit (.int 1)),(.lit (.int 2))])) (.gc (.call 9 [(.var 0),(.lit (.int 0)),(.lit (.int 2)),(.lit (.int 5))]))))=some (.rng 0 q,[]):=by
   have hb:big (q:Int)=false:=by unfold big; simp; omega
   simp only[src,i1 24,oBs,hb]
   rfl
  obtain⟨τ',S',⟨rfl,cs,y,hgc,rfl⟩,e⟩:=loop_all (ds:=(List.range q).map fun(j:Nat)=>D.int (0+j)) (s:=.rng 0 q) (f:=fun τ S d=>(setT (.var 3) d τ).bind fun τ'=>(rn fns 19 (0+30)).ex τ' S lbody) (τ:=lT ns x1 none) (st:=[]) (fun i τ S=>S=[]∧∃ cs y,Gt (bnd i) cs∧τ=lT ns cs y) (fun i τ S _=>at_rng 0 q i) (fun i τ S d hi hd p=>by
   obtain⟨rfl,cs,y,hgc,rfl⟩:=p
   have hi:i<q:=by simpa using hi
   rw[List.getElem?_map,List.getElem?_range hi]at hd
   cases hd
   have hb:bnd i<400∧8≤bnd i:=by
    have:i=0∨i=1:=by omega
    rcases this with z|z<;>subst z<;>decide
   obtain⟨cs',g',e'⟩:=lbody_ok ns hn (0+(i:Int)) cs hgc hb.1 hb.2 10
   exact⟨_,_,e',rfl,cs',_,g',rfl⟩) ⟨rfl,x1,none,g1,rfl⟩
  refine⟨cs,y,?_,?_⟩
  ·have hlen:((List.range q).map fun(j:Nat)=>D.int (0+j)).length=q:=by simp
   rw[hlen]at hgc
   have:q=0∨q=1∨q=2:=by omega
   rcases this with z|z|z<;>subst z<;>exact hgc.mono (by decide)
  ·show(src (rn fns 19 (0+30)) (lT ns x1 none) [] _).bind _=_
   rw[sr,oBs]
   rw[show((List.range q).map fun(j:Nat)=>D.int (0+j)).length=Src.size [] (.rng 0 q) by simp[Src.size]]at e
   exact e
 refine(exs_cons s7).trans (exs_ret ?_)
 have v1:∀ n,(rn fns 19 (n+1)).ev (lT ns x2 y2) [] (.var 1)=some (.str (mk x2),[]):=fun n=>rfl
 have a1:∀ n,(rn fns 19 (n+4)).ev (lT ns x2 y2) [] (.gc (.call 20 [(.var 1)]))=some (pv x2,[]):=fun n=>gc_callR (r:=[]) (n:=n+1) (ds:=[.str (mk x2)]) rfl (told_ok 10 [] x2 g2) (pv_nl x2)
 have a2:∀ n,(rn fns 19 (n+4)).ev (lT ns x2 y2) [] (.gc (.call 19 [(.var 1)]))=some (pv x2,[]):=fun n=>gc_callR (r:=[]) (n:=n+1) (ds:=[.str (mk x2)]) rfl (lpaper_ok 15 [] x2 g2 (by omega)) (pv_nl x2)
 have e6:=same_eq hSame (dp_pv x2 g2 (by omega)) 19 [] (by omega)
 refine stR ?_
 rw[ev_k]
 simp only[stepEv,evs,a1,a2,oBs,call_k,e6]
end K34
end
section
namespace MS
open PySem PySem.Spec PyProof.Rows L2
theorem noFill_tuple_mul:fillsNumberSlot (.type "tuple") "mul" = pure false:=
 PySem.fillsNumberSlot_seq (id:="tuple.__mul__") (r:=some (.builtin "tuple.__rmul__")) F.slot_tuple_mul.lookup (by decide +kernel) F.slot_tuple_rmul.lookup (by decide +kernel)
theorem repeat_tuple:seqRepeat? (.type "tuple")=pure (some (.builtin "tuple.__mul__")):=by
 unfold seqRepeat?
 rw[PySem.seqSlot_of (T:="tuple") (name:="__mul__") (id:="tuple.__mul__") F.slot_tuple_mul.lookup (by decide +kernel),PySem.seqSlot_of (T:="tuple") (name:="__rmul__") (id:="tuple.__rmul__") F.slot_tuple_rmul.lookup (by decide +kernel)]
 rfl
theorem int_rmul_tuple(a:Int)(t:Tok)(l:Addr)(items:Array Value)(n:Nat)(dd:Option Addr)(sl:Array (Option Value)):
  Meets (Builtin.«int.__rmul__» ⟨[.int a t,.ref l],[]⟩) (fun _ R s=>s.heap.get? l=some { cls:=.type "tuple",dict:=dd,data:=.seq items n,slots:=sl }∧R (.ok (.ret Value.notImplemented)) s):=
 .of_wp fun prog w A R s h=>by obtain⟨hp,g,d,tk,os⟩:=s; obtain⟨hl,h⟩:=h; wp_walk; exact⟨_,rfl,h⟩
theorem tuple_mul_same(l:Addr)(items:Array Value)(n:Nat)(dd:Option Addr)(sl:Array (Option Value))(x:Int)(u:Tok)(h0:¬ (decide (x < -(2 ^ 63))||decide (x ≥ 2 ^ 63))=true)(h1:(items.isEmpty||x==1)=true):
  Meets (Builtin.«tuple.__mul__» ⟨[.ref l,.int x u],[]⟩) (fun _ R s=>s.heap.get? l=some { cls:=.type "tuple",dict:=dd,data:=.seq items n,slots:=sl }∧R (.ok (.ret (Value.ref l))) s):=
 .of_wp fun prog w A R s h=>by
  obtain⟨hp,g,d,tk,os⟩:=s; obtain⟨hl,h⟩:=h
  wp_walk
  simp only[if_neg h0]
  wp_walk
  exact⟨_,rfl,h⟩
theorem tuple_mul_none(l:Addr)(items:Array Value)(n:Nat)(dd:Option Addr)(sl:Array (Option Value))(x:Int)(u:Tok)(h0:¬ (decide (x < -(2 ^ 63))||decide (x ≥ 2 ^ 63))=true)(h1:¬ (items.isEmpty||x==1)=true)(h2:(decide (x≤0)||items.isEmpty)=true):
  Meets (Builtin.«tuple.__mul__» ⟨[.ref l,.int x u],[]⟩) (fun _ R s=>s.heap.get? l=some { cls:=.type "tuple",dict:=dd,data:=.seq items n,slots:=sl }∧R (.ok (.ret (Value.ref s.heap.objs.size))) { s with heap:=s.heap.push { cls:=.type "tuple",data:=.seq #[] } }):=
 .of_wp fun prog w A R s h=>by
  obtain⟨hp,g,d,tk,os⟩:=s; obtain⟨hl,h⟩:=h
  wp_walk
  simp only[if_neg h0]
  wp_walk
  exact⟨_,rfl,h⟩
theorem tuple_mul_more(l:Addr)(items:Array Value)(n:Nat)(dd:Option Addr)(sl:Array (Option Value))(x:Int)(u:Tok)(h0:¬ (decide (x < -(2 ^ 63))||decide (x ≥ 2 ^ 63))=true)(h1:¬ (items.isEmpty||x==1)=true)(h2:¬ (decide (x≤0)||items.isEmpty)=true)
  (h3:¬ ((items.size:Int)*x > (2 ^ 63 - 1) / 8)) (h4:¬ Builtin.Tuple.tupleTooMany ((items.size:Int)*x)=true) (h5:(List.foldl (fun x1 x2=>x1++x2) #[] (List.replicate x.toNat items)).size≤sizeLine) :
  Meets (Builtin.«tuple.__mul__» ⟨[.ref l,.int x u],[]⟩) (fun _ R s=>s.heap.get? l=some { cls:=.type "tuple",dict:=dd,data:=.seq items n,slots:=sl }∧R (.ok (.ret (Value.ref s.heap.objs.size))) { s with heap:=s.heap.push { cls:=.type "tuple",data:=.seq (List.foldl (fun x1 x2=>x1++x2) #[] (List.replicate x.toNat items)) } }):=
 .of_wp fun prog w A R s h=>by
  obtain⟨hp,g,d,tk,os⟩:=s; obtain⟨hl,h⟩:=h
  wp_walk
  simp only[if_neg h0]
  wp_walk
  simp only[if_neg h3]
  wp_walk
  exact⟨_,rfl,h⟩
noncomputable def rRepT(K:PySem.W.Frag):R2:=fun x y H Q=>∃ l k xs,x=.ref l∧y=.int k∧SqT K H l xs∧-(2 ^ 62)≤k∧k<2 ^ 62∧xs.length*k.toNat≤sizeLine∧
 (∀ ys,ys=(List.replicate k.toNat xs).flatten→(ys=xs→Q (.ref l) H)∧∀ p,H p=none→Q (.ref p) (upd H p (.tup ys)))
theorem op_repT{X:Cx}:OpR X (binaryOp .Mult) (rRepT X.K):=by
 intro pins s σ H x y v u Q I rx ry h
 obtain⟨l,k,xs,rfl,rfl,hq,k1,k2,hz,q⟩:=h
 cases rx
 obtain⟨t,rfl⟩:=ry
 obtain⟨its,r,hp,hz0⟩:=I.tuple hq
 obtain⟨⟨cls,dd,data,sl⟩,ho,hc,n,hd⟩:=id hp
 simp only at hc hd
 subst hc hd
 have hl:=r.length
 obtain⟨qs,qn⟩:=q _ rfl
 have f0:∀ m:Nat,List.foldl (fun x1 x2=>x1++x2) #[] (List.replicate m its.toArray)=(List.replicate m its).flatten.toArray:=fun m=>by
  have:=foldl_rep its m []
  rw[List.nil_append]at this
  exact this
 have h0:¬ (decide (k < -(2 ^ 63))||decide (k ≥ 2 ^ 63))=true:=by simp; omega
 refine wpAny_binaryOp_repeat_ref (T:="tuple") (U:="int") (by decide) ⟨_,ho,rfl⟩ (fun s'=>typeIs_int s' k t) noFill_tuple_mul F.fills_int_mul F.slot_int_rmul repeat_tuple F.slot_int_index.lookup
  (call_meets F.slot_int_rmul (typeIs_int s k t) F.entry_int_rmul (F.args_int_rmul_2 _ _) (int_rmul_tuple k t l its.toArray n dd sl) ⟨ho,rfl,⟨_,ho,rfl⟩,?_⟩)
 by_cases h1:(its.toArray.isEmpty||k==1)=true
 ·refine call_meets F.slot_tuple_mul ⟨_,ho,rfl⟩ F.entry_tuple_mul (F.args_tuple_mul_2 _ _) (tuple_mul_same l its.toArray n dd sl k t h0 h1) ⟨ho,?_⟩
  refine⟨.ref l,H,I,rfl,qs ?_⟩
  rw[Bool.or_eq_true]at h1
  rcases h1 with z|z
  ·have e1:its=[]:=by simpa using z
   have e2:xs=[]:=List.length_eq_zero_iff.mp (by rw[hl,e1]; rfl)
   rw[e2]
   simp
  ·have e1:k=1:=by simpa using z
   rw[e1]
   simp
 ·have hne:its≠[]:=fun z=>h1 (by rw[z]; rfl)
  by_cases h2:(decide (k≤0)||its.toArray.isEmpty)=true
  ·refine call_meets F.slot_tuple_mul ⟨_,ho,rfl⟩ F.entry_tuple_mul (F.args_tuple_mul_2 _ _) (tuple_mul_none l its.toArray n dd sl k t h0 h1 h2) ⟨ho,?_⟩
   have hk:k≤0:=by
    rw[Bool.or_eq_true]at h2
    rcases h2 with z|z
    ·simpa using z
    ·exact absurd (by simpa using z) hne
   have e0:k.toNat=0:=by omega
   refine⟨.ref _,_,I.laid (a:=s.heap.objs.size) (o:=.tup (List.replicate k.toNat xs).flatten) (t':=s.toks) (fun _ _ e=>Heap.get?_push_of_some _ e) (Nat.le_refl _) ?_,rfl,qn _ I.fresh⟩
   rw[e0]
   exact⟨Nat.zero_le _,[],.nil,IsTup.new s.heap _⟩
  ·have hk:0<k:=by
    simp at h2; omega
   have hmul:((its.toArray.size:Nat):Int)*k=((its.length*k.toNat:Nat):Int):=by
    rw[List.size_toArray,Int.natCast_mul]
    congr 1
    omega
   have hz':its.length*k.toNat≤sizeLine:=by rw[← hl]; exact hz
   have hsl:(sizeLine:Nat)<2 ^ 60:=by rw[sizeLine_eq]; decide
   refine call_meets F.slot_tuple_mul ⟨_,ho,rfl⟩ F.entry_tuple_mul (F.args_tuple_mul_2 _ _) (tuple_mul_more l its.toArray n dd sl k t h0 h1 h2 ?_ ?_ ?_) ⟨ho,?_⟩
   ·rw[hmul]; omega
   ·unfold Builtin.Tuple.tupleTooMany
    rw[hmul,decide_eq_true_eq]
    omega
   ·rw[f0,List.size_toArray,len_rep,Nat.mul_comm]; exact hz'
   ·refine⟨.ref _,_,I.laid (a:=s.heap.objs.size) (o:=.tup (List.replicate k.toNat xs).flatten) (t':=s.toks) (fun _ _ e=>Heap.get?_push_of_some _ e) (Nat.le_refl _) ?_,rfl,qn _ I.fresh⟩
    rw[f0]
    exact⟨by rw[len_rep,Nat.mul_comm]; exact hz,_,r.rep k.toNat,IsTup.new s.heap _⟩
section
variable {prog:Program}{w:World}{A:Around}{E:Value→Shared→Prop}{s:Shared}
theorem getItem_tuple_whole{t sl:Addr}{items:Array Value}{vl vu:Value}{lo hi:Option Int}{Q:Value→Shared→Prop}(ht:IsTup s.heap t items)(hs:s.heap.IsSliceOf sl vl vu .none)(pl:IsPart vl lo)(pu:IsPart vu hi)
  (hw:HT.sIx items.size 0 lo=0∧HT.sIx items.size items.size hi=items.size) (h:Q (.ref t) s):wpAny (model prog w) A (getItem (.ref t) (.ref sl)) Q E s:=by
 obtain⟨os,hos,hcs,hds⟩:=id hs
 have hTs:s.TypeIs (.ref sl) "slice":=⟨os,hos,hcs⟩
 unfold getItem
 try with_reducible refine wpAny_holding ?_
 first|refine wpAny_bind (wpAny_pure ?_)|skip
 refine wpAny_bind (wpAny_sequenceKey ht.typeIs (by decide) ?_)
 refine wpAny_bind (wpAny_callSpecial?_slot (name:=Str.ofString "__getitem__") ht.typeIs PyProof.Rows.slot_tuple_getitem
  (wpAny_call_entry PyProof.Rows.slot_tuple_getitem ht.typeIs entry_tuple_getitem ?_ (args_tuple_getitem _ _)))
 show wpAny _ _ (Builtin.Tuple.tupleItemsOf (.ref t) >>= _) _ _ s
 refine wpAny_bind (tupleItemsOf_ ht ?_)
 refine wpAny_bind (wpAny_typeOf hTs ?_)
 rw[if_pos (by decide)]
 refine wpAny_bind (HT.sliceApplied_gen hs pl pu ?_)
 have hyes:(((HT.sIx items.size 0 lo:Nat):Int)==0&&(1:Int)==1&&(HT.sIx items.size items.size hi - HT.sIx items.size 0 lo)==items.size)=true:=by
  rw[hw.1,hw.2]
  simp
 show wpAny _ _ (if (((HT.sIx items.size 0 lo:Nat):Int)==0&&(1:Int)==1&&(HT.sIx items.size items.size hi - HT.sIx items.size 0 lo)==items.size)=true then _ else _) _ _ s
 rw[if_pos hyes]
 refine wpAny_bind (m:=Builtin.Tuple.tupleIsExact _) ?_
 unfold Builtin.Tuple.tupleIsExact
 refine wpAny_bind (wpAny_typeOf ht.typeIs (wpAny_pure ?_))
 rw[if_pos (by decide)]
 first
  |exact wpAny_bind (wpAny_rule (wpAny_pure ⟨_,rfl,wpAny_pure h⟩))
  |exact wpAny_bind (wpAny_rule (wpAny_bind (wpAny_pure (wpAny_pure ⟨_,rfl,wpAny_pure h⟩))))
  |exact wpAny_bind (wpAny_bind (wpAny_rule (wpAny_pure (wpAny_pure ⟨_,rfl,wpAny_pure h⟩))))
end
end MS
end
section
namespace MS
open PySem PySem.Spec PyProof.Rows L2
open M (D Cell Store Sl)
def SqF(K:PySem.W.Frag)(H:Hp)(a:Addr)(xs:List V):Prop:=
 (∃ o,H a=some (.frz o (.lst xs)))∨∃ (o:Obj) (its:Array Value) (n:Nat),K.lookup a=some o∧o.cls=.type "list"∧o.dict=none∧o.data=.seq its n∧its.size≤sizeLine∧Vals xs its.toList
mutual
noncomputable def IsD(K:PySem.W.Frag)(m:List Addr)(H:Hp):D→V→Prop
 |.non,v=>v=.non
 |.bl b,v=>v=.bl b
 |.int i,v=>v=.int i
 |.str s,v=>v=.str s
 |.tup ds,v=>∃ a xs,v=.ref a∧SqT K H a xs∧IsDs K m H ds xs
 |.lst ds,v=>∃ a xs,v=.ref a∧SqF K H a xs∧IsDs K m H ds xs
 |.loc l,v=>∃ a,m[l]?=some a∧v=.ref a
noncomputable def IsDs(K:PySem.W.Frag)(m:List Addr)(H:Hp):List D→List V→Prop
 |[],xs=>xs=[]
 |d::ds,xs=>∃ x r,xs=x::r∧IsD K m H d x∧IsDs K m H ds r
end
def Sub(m m':List Addr):Prop:=∀ (l:Nat) (a:Addr),m[l]?=some a→m'[l]?=some a
structure Tr (H H':Hp):Prop where
 tup:∀ b xs,H b=some (.tup xs)→H' b=some (.tup xs)
 frz:∀ b o u,H b=some (.frz o u)→H' b=some (.frz o u)
theorem Sub.refl(m:List Addr):Sub m m:=fun _ _ h=>h
theorem Sub.trans{m m1 m2:List Addr}(a:Sub m m1)(b:Sub m1 m2):Sub m m2:=fun l x h=>b l x (a l x h)
theorem Sub.app(m r:List Addr):Sub m (m++r):=fun l a h=>by
 rw[List.getElem?_append_left (List.getElem?_eq_some_iff.mp h).1]; exact h
theorem Tr.refl(H:Hp):Tr H H:=⟨fun _ _ h=>h,fun _ _ _ h=>h⟩
theorem Tr.trans{H H1 H2:Hp}(a:Tr H H1)(b:Tr H1 H2):Tr H H2:=⟨fun c xs h=>b.tup c xs (a.tup c xs h),fun c o u h=>b.frz c o u (a.frz c o u h)⟩
theorem Tr.of_same{H H':Hp}(h:Same H H'):Tr H H':=⟨fun b xs e=>h b _ e,fun b o u e=>h b _ e⟩
theorem same_new{H:Hp}{p:Addr}{o:HO}(hp:H p=none):Same H (upd H p o):=fun b u e=>by
 rw[upd_ne (ne_of_none e hp)]; exact e
theorem Tr.put{H:Hp}{p:Addr}{xs ys:List V}(hp:H p=some (.lst xs)):Tr H (upd H p (.lst ys)):=
 ⟨fun b zs e=>by rw[upd_ne (ne_of e hp (by intro z; cases z))]; exact e,fun b o u e=>by rw[upd_ne (ne_of e hp (by intro z; cases z))]; exact e⟩
theorem Tr.sqT{K:PySem.W.Frag}{H H':Hp}{a:Addr}{xs:List V}(t:Tr H H')(h:SqT K H a xs):SqT K H' a xs:=by
 rcases h with (h|⟨o,h⟩)|h
 ·exact .inl (.inl (t.tup _ _ h))
 ·exact .inl (.inr ⟨o,t.frz _ _ _ h⟩)
 ·exact .inr h
theorem SqF.sq{K:PySem.W.Frag}{H:Hp}{a:Addr}{xs:List V}(h:SqF K H a xs):SqL K H a xs:=by
 rcases h with h|h
 ·exact .inl (.inr h)
 ·exact .inr h
theorem Tr.sqF{K:PySem.W.Frag}{H H':Hp}{a:Addr}{xs:List V}(t:Tr H H')(h:SqF K H a xs):SqF K H' a xs:=by
 rcases h with⟨o,h⟩|h
 ·exact .inl ⟨o,t.frz _ _ _ h⟩
 ·exact .inr h
section
variable {K:PySem.W.Frag}{m m':List Addr}{H H':Hp}
mutual
theorem isD_mono(hs:Sub m m')(ht:Tr H H'):∀ (d:D) (v:V),IsD K m H d v→IsD K m' H' d v
 |.non,_,h=>h
 |.bl _,_,h=>h
 |.int _,_,h=>h
 |.str _,_,h=>h
 |.tup ds,_,h=>by
  unfold IsD at h ⊢
  obtain⟨a,xs,e,q,r⟩:=h
  exact⟨a,xs,e,ht.sqT q,isDs_mono hs ht ds xs r⟩
 |.lst ds,_,h=>by
  unfold IsD at h ⊢
  obtain⟨a,xs,e,q,r⟩:=h
  exact⟨a,xs,e,ht.sqF q,isDs_mono hs ht ds xs r⟩
 |.loc l,_,h=>by
  unfold IsD at h ⊢
  obtain⟨a,e,q⟩:=h
  exact⟨a,hs l a e,q⟩
theorem isDs_mono(hs:Sub m m')(ht:Tr H H'):∀ (ds:List D) (xs:List V),IsDs K m H ds xs→IsDs K m' H' ds xs
 |[],_,h=>h
 |d::ds,_,h=>by
  unfold IsDs at h ⊢
  obtain⟨x,r,e,q,t⟩:=h
  exact⟨x,r,e,isD_mono hs ht d x q,isDs_mono hs ht ds r t⟩
end
theorem IsD.int{i:Int}{v:V}(h:IsD K m H (.int i) v):v=.int i:=by unfold IsD at h; exact h
theorem IsD.bl{i:Bool}{v:V}(h:IsD K m H (.bl i) v):v=.bl i:=by unfold IsD at h; exact h
theorem IsD.str{i:Str}{v:V}(h:IsD K m H (.str i) v):v=.str i:=by unfold IsD at h; exact h
theorem IsD.non{v:V}(h:IsD K m H .non v):v=.non:=by unfold IsD at h; exact h
theorem IsD.tup{ds:List D}{v:V}(h:IsD K m H (.tup ds) v):∃ a xs,v=.ref a∧SqT K H a xs∧IsDs K m H ds xs:=by unfold IsD at h; exact h
theorem IsD.lst{ds:List D}{v:V}(h:IsD K m H (.lst ds) v):∃ a xs,v=.ref a∧SqF K H a xs∧IsDs K m H ds xs:=by unfold IsD at h; exact h
theorem IsD.loc{l:Nat}{v:V}(h:IsD K m H (.loc l) v):∃ a,m[l]?=some a∧v=.ref a:=by unfold IsD at h; exact h
theorem mkInt(i:Int):IsD K m H (.int i) (.int i):=by unfold IsD; rfl
theorem mkBl(i:Bool):IsD K m H (.bl i) (.bl i):=by unfold IsD; rfl
theorem mkStr(i:Str):IsD K m H (.str i) (.str i):=by unfold IsD; rfl
theorem mkNon:IsD K m H .non .non:=by unfold IsD; rfl
theorem mkTup{ds:List D}{a:Addr}{xs:List V}(h:SqT K H a xs)(q:IsDs K m H ds xs):IsD K m H (.tup ds) (.ref a):=by unfold IsD; exact⟨a,xs,rfl,h,q⟩
theorem mkLst{ds:List D}{a:Addr}{xs:List V}(h:SqF K H a xs)(q:IsDs K m H ds xs):IsD K m H (.lst ds) (.ref a):=by unfold IsD; exact⟨a,xs,rfl,h,q⟩
theorem mkLoc{l:Nat}{a:Addr}(h:m[l]?=some a):IsD K m H (.loc l) (.ref a):=by unfold IsD; exact⟨a,h,rfl⟩
theorem IsDs.nil{xs:List V}(h:IsDs K m H [] xs):xs=[]:=by unfold IsDs at h; exact h
theorem IsDs.cons{d:D}{ds:List D}{xs:List V}(h:IsDs K m H (d::ds) xs):∃ x r,xs=x::r∧IsD K m H d x∧IsDs K m H ds r:=by unfold IsDs at h; exact h
theorem mkNil:IsDs K m H [] []:=by unfold IsDs; rfl
theorem mkCons{d:D}{ds:List D}{x:V}{r:List V}(h:IsD K m H d x)(t:IsDs K m H ds r):IsDs K m H (d::ds) (x::r):=by unfold IsDs; exact⟨x,r,rfl,h,t⟩
theorem IsDs.one{d:D}{xs:List V}(h:IsDs K m H [d] xs):∃ x,xs=[x]∧IsD K m H d x:=by
 obtain⟨x,r,rfl,q,t⟩:=h.cons
 rw[t.nil]
 exact⟨x,rfl,q⟩
theorem IsDs.two{d e:D}{xs:List V}(h:IsDs K m H [d,e] xs):∃ x y,xs=[x,y]∧IsD K m H d x∧IsD K m H e y:=by
 obtain⟨x,r,rfl,q,t⟩:=h.cons
 obtain⟨y,rfl,q'⟩:=t.one
 exact⟨x,y,rfl,q,q'⟩
theorem IsDs.length:∀ {ds:List D}{xs:List V},IsDs K m H ds xs→ds.length=xs.length
 |[],_,h=>by rw[h.nil]; rfl
 |_::_,_,h=>by
  obtain⟨x,r,rfl,_,t⟩:=h.cons
  rw[List.length_cons,List.length_cons,t.length]
theorem IsDs.get:∀ {ds:List D}{xs:List V}{i:Nat}{d:D},IsDs K m H ds xs→ds[i]?=some d→∃ x,xs[i]?=some x∧IsD K m H d x
 |[],_,_,_,_,e=>by simp at e
 |d::ds,_,0,d',h,e=>by
  obtain⟨x,r,rfl,q,_⟩:=h.cons
  have e':d=d':=by simpa using e
  subst e'
  exact⟨x,rfl,q⟩
 |d::ds,_,i+1,d',h,e=>by
  obtain⟨x,r,rfl,_,t⟩:=h.cons
  obtain⟨y,e1,e2⟩:=t.get (i:=i) (d:=d') (by simpa using e)
  exact⟨y,by simpa using e1,e2⟩
theorem IsDs.back:∀ {ds:List D}{xs:List V}{i:Nat}{x:V},IsDs K m H ds xs→xs[i]?=some x→∃ d,ds[i]?=some d∧IsD K m H d x:=fun {ds xs i x} h e=>by
 have hl:=h.length
 have hi:=(List.getElem?_eq_some_iff.mp e).1
 have e2:ds[i]?=some (ds[i]'(by omega)):=by simp
 obtain⟨y,e3,q⟩:=h.get e2
 rw[e]at e3
 cases e3
 exact⟨_,e2,q⟩
theorem IsDs.append:∀ {ds es:List D}{xs ys:List V},IsDs K m H ds xs→IsDs K m H es ys→IsDs K m H (ds++es) (xs++ys)
 |[],_,_,_,h,q=>by rw[h.nil]; exact q
 |_::_,_,_,_,h,q=>by
  obtain⟨x,r,rfl,a,t⟩:=h.cons
  exact mkCons a (t.append q)
theorem IsDs.set:∀ {ds:List D}{xs:List V}(i:Nat){d:D}{x:V},IsDs K m H ds xs→IsD K m H d x→IsDs K m H (ds.set i d) (xs.set i x)
 |[],_,_,_,_,h,_=>by rw[h.nil]; exact mkNil
 |_::_,_,0,_,_,h,q=>by
  obtain⟨x,r,rfl,a,t⟩:=h.cons
  exact mkCons q t
 |_::_,_,i+1,_,_,h,q=>by
  obtain⟨x,r,rfl,a,t⟩:=h.cons
  exact mkCons a (t.set i q)
end
noncomputable def keyOf:D→Option Key
 |.int i=>some (.inl i)
 |.str z=>some (.inr z)
 |_=>none
noncomputable def IsKV(K:PySem.W.Frag)(m:List Addr)(H:Hp):List (D×D)→List (Key×V)→Prop
 |[],xs=>xs=[]
 |p::r,xs=>∃ k v xr,xs=(k,v)::xr∧keyOf p.1=some k∧IsD K m H p.2 v∧IsKV K m H r xr
theorem isKV_mono{K:PySem.W.Frag}{m m':List Addr}{H H':Hp}(hs:Sub m m')(ht:Tr H H'):∀ (kvs:List (D×D)) (xs:List (Key×V)),IsKV K m H kvs xs→IsKV K m' H' kvs xs
 |[],_,h=>h
 |p::r,_,⟨k,v,xr,e,hk,hv,hr⟩=>⟨k,v,xr,e,hk,isD_mono hs ht _ _ hv,isKV_mono hs ht r xr hr⟩
theorem IsKV.length{K:PySem.W.Frag}{m:List Addr}{H:Hp}:∀ {kvs:List (D×D)}{xs:List (Key×V)},IsKV K m H kvs xs→kvs.length=xs.length
 |[],_,h=>by rw[show _=[] from h]; rfl
 |p::r,_,⟨k,v,xr,e,_,_,hr⟩=>by rw[e,List.length_cons,List.length_cons,hr.length]
theorem eq_key{a b:D}{k j:Key}(ha:keyOf a=some k)(hb:keyOf b=some j):M.eqT a b=decide (k=j):=by
 cases a with
 |int i=>
  cases ha
  cases b with
  |int i'=>cases hb; rw[M.eqT]; by_cases h:i=i'<;>simp[h]
  |str z=>cases hb; simp[M.eqT]
  |_=>cases hb
 |str z=>
  cases ha
  cases b with
  |int i'=>cases hb; simp[M.eqT]
  |str z'=>cases hb; rw[M.eqT]; by_cases h:z=z'<;>simp[h]
  |_=>cases hb
 |_=>cases ha
theorem IsKV.get{K:PySem.W.Frag}{m:List Addr}{H:Hp}{a:D}{j:Key}(ha:keyOf a=some j):∀ {kvs:List (D×D)}{xs:List (Key×V)},IsKV K m H kvs xs→(M.dget kvs a=none∧valV xs j=none)∨∃ d v,M.dget kvs a=some d∧valV xs j=some v∧IsD K m H d v
 |[],_,h=>by rw[show _=[] from h]; exact .inl ⟨rfl,rfl⟩
 |p::r,_,⟨k,v,xr,e,hk,hv,hr⟩=>by
  subst e
  have eq:=eq_key hk ha
  by_cases hkj:k=j
  ·refine .inr ⟨p.2,v,?_,valV_pos (p:=(k,v)) hkj,hv⟩
   rw[decide_eq_true hkj]at eq
   simp[M.dget,List.find?_cons,eq]
  ·rw[decide_eq_false hkj]at eq
   have e1:M.dget (p::r) a=M.dget r a:=by simp[M.dget,List.find?_cons,eq]
   rw[e1,valV_neg (p:=(k,v)) hkj]
   exact hr.get ha
theorem IsKV.any{K:PySem.W.Frag}{m:List Addr}{H:Hp}{a:D}{j:Key}(ha:keyOf a=some j):∀ {kvs:List (D×D)}{xs:List (Key×V)},IsKV K m H kvs xs→(kvs.any fun p=>M.eqT p.1 a)=(xs.any fun p=>decide (p.1=j))
 |[],_,h=>by rw[show _=[] from h]; rfl
 |p::r,_,⟨k,v,xr,e,hk,hv,hr⟩=>by
  subst e
  rw[List.any_cons,List.any_cons,eq_key hk ha,hr.any ha]
theorem IsKV.repl{K:PySem.W.Frag}{m:List Addr}{H:Hp}{a d:D}{j:Key}{w:V}(ha:keyOf a=some j)(hd:IsD K m H d w):∀ {kvs:List (D×D)}{xs:List (Key×V)},IsKV K m H kvs xs→IsKV K m H (kvs.map fun p=>if M.eqT p.1 a then(p.1,d) else p) (xs.map fun p=>if p.1=j then(p.1,w) else p)
 |[],_,h=>by rw[show _=[] from h]; rfl
 |p::r,_,⟨k,v,xr,e,hk,hv,hr⟩=>by
  subst e
  have eq:=eq_key hk ha
  rw[List.map_cons,List.map_cons]
  by_cases hkj:k=j
  ·rw[decide_eq_true hkj]at eq
   rw[if_pos eq,if_pos hkj]
   exact⟨k,w,_,rfl,hk,hd,hr.repl ha hd⟩
  ·rw[decide_eq_false hkj]at eq
   rw[if_neg (by rw[eq]; nofun),if_neg hkj]
   exact⟨k,v,_,rfl,hk,hv,hr.repl ha hd⟩
theorem IsKV.snoc{K:PySem.W.Frag}{m:List Addr}{H:Hp}{a d:D}{j:Key}{w:V}(ha:keyOf a=some j)(hd:IsD K m H d w):∀ {kvs:List (D×D)}{xs:List (Key×V)},IsKV K m H kvs xs→IsKV K m H (kvs++[(a,d)]) (xs++[(j,w)])
 |[],_,h=>by rw[show _=[] from h]; exact⟨j,w,[],rfl,ha,hd,rfl⟩
 |p::r,_,⟨k,v,xr,e,hk,hv,hr⟩=>by
  subst e
  exact⟨k,v,_,rfl,hk,hv,hr.snoc ha hd⟩
theorem IsKV.put{K:PySem.W.Frag}{m:List Addr}{H:Hp}{a d:D}{j:Key}{w:V}{kvs:List (D×D)}{xs:List (Key×V)}(h:IsKV K m H kvs xs)(ha:keyOf a=some j)(hd:IsD K m H d w):IsKV K m H (M.dput kvs a d) (putK xs j w):=by
 unfold M.dput putK
 rw[h.any ha]
 split
 ·exact h.repl ha hd
 ·exact h.snoc ha hd
noncomputable def IsC(K:PySem.W.Frag)(m:List Addr)(H:Hp):Cell→Addr→Prop
 |.lst true ds,a=>∃ xs,H a=some (.lst xs)∧IsDs K m H ds xs
 |.lst false ds,a=>∃ xs,SqF K H a xs∧IsDs K m H ds xs
 |.dic kvs,a=>∃ xs,H a=some (.dK xs)∧IsKV K m H kvs xs
noncomputable def Wr:Cell→Bool
 |.lst w _=>w
 |.dic _=>true
structure Rel (K:PySem.W.Frag) (m:List Addr) (st:Store) (H:Hp):Prop where
 len:m.length=st.length
 nd:∀ (l l':Nat) (a:Addr) (c c':Cell),m[l]?=some a→m[l']?=some a→st[l]?=some c→st[l']?=some c'→Wr c=true→Wr c'=true→l=l'
 cell:∀ (l:Nat) (c:Cell) (a:Addr),st[l]?=some c→m[l]?=some a→IsC K m H c a
section
variable {K:PySem.W.Frag}{m:List Addr}{st:Store}{H:Hp}
theorem Rel.addr(h:Rel K m st H){l:Nat}{c:Cell}(e:st[l]?=some c):∃ a,m[l]?=some a:=by
 have hl:=(List.getElem?_eq_some_iff.mp e).1
 have:=h.len
 exact⟨m[l]'(by omega),by simp⟩
theorem IsC.wr{c:Cell}{a:Addr}(h:IsC K m H c a)(w:Wr c=true):∃ o,H a=some o:=by
 cases c with
 |lst w' ds=>
  have e:w'=true:=w
  subst e
  obtain⟨xs,e,_⟩:=h
  exact⟨_,e⟩
 |dic kvs=>
  obtain⟨xs,e,_⟩:=h
  exact⟨_,e⟩
theorem Rel.list(h:Rel K m st H){l:Nat}{ds:List D}{v:V}(e:M.listAt st l=some ds)(hv:IsD K m H (.loc l) v):∃ a xs,m[l]?=some a∧v=.ref a∧SqL K H a xs∧IsDs K m H ds xs:=by
 obtain⟨a,ha,rfl⟩:=hv.loc
 unfold M.listAt at e
 split at e
 ·rename_i w ds' q
  cases e
  have c:=h.cell l _ a q ha
  cases w with
  |true=>
   obtain⟨xs,e1,e2⟩:=c
   exact⟨a,xs,ha,rfl,SqL.of e1,e2⟩
  |false=>
   obtain⟨xs,e1,e2⟩:=c
   exact⟨a,xs,ha,rfl,e1.sq,e2⟩
 ·cases e
theorem Rel.seq(h:Rel K m st H){d:D}{ds:List D}{v:V}(e:M.seqAt st d=some ds)(hv:IsD K m H d v):∃ a xs,True∧v=.ref a∧SqL K H a xs∧IsDs K m H ds xs:=by
 cases d with
 |loc l=>
  obtain⟨a,xs,_,q⟩:=h.list e hv
  exact⟨a,xs,trivial,q⟩
 |lst es=>
  cases e
  obtain⟨a,xs,e,q,r⟩:=hv.lst
  exact⟨a,xs,trivial,e,q.sq,r⟩
 |_=>cases e
theorem Rel.wlist(h:Rel K m st H){l:Nat}{ds:List D}{v:V}(e:M.wlistAt st l=some ds)(hv:IsD K m H (.loc l) v):∃ a xs,m[l]?=some a∧v=.ref a∧H a=some (.lst xs)∧IsDs K m H ds xs∧st[l]?=some (.lst true ds):=by
 obtain⟨a,ha,rfl⟩:=hv.loc
 unfold M.wlistAt at e
 split at e
 ·rename_i ds' q
  cases e
  obtain⟨xs,e1,e2⟩:=h.cell l _ a q ha
  exact⟨a,xs,ha,rfl,e1,e2,q⟩
 ·cases e
theorem isC_mono{m':List Addr}{H':Hp}(hs:Sub m m')(ht:Tr H H'){c:Cell}{a:Addr}(h:IsC K m H c a)(hw:Wr c=true→H' a=H a):IsC K m' H' c a:=by
 cases c with
 |lst w ds=>
  cases w with
  |true=>
   obtain⟨xs,e,q⟩:=h
   exact⟨xs,(hw rfl).trans e,isDs_mono hs ht ds xs q⟩
  |false=>
   obtain⟨xs,e,q⟩:=h
   exact⟨xs,ht.sqF e,isDs_mono hs ht ds xs q⟩
 |dic kvs=>
  obtain⟨xs,e,q⟩:=h
  exact⟨xs,(hw rfl).trans e,isKV_mono hs ht kvs xs q⟩
theorem Rel.dict(h:Rel K m st H){l:Nat}{kvs:List (D×D)}{v:V}(e:M.dicAt st l=some kvs)(hv:IsD K m H (.loc l) v):∃ a xs,m[l]?=some a∧v=.ref a∧H a=some (.dK xs)∧IsKV K m H kvs xs∧st[l]?=some (.dic kvs):=by
 obtain⟨a,ha,rfl⟩:=hv.loc
 unfold M.dicAt at e
 split at e
 ·rename_i kvs' q
  cases e
  obtain⟨xs,e1,e2⟩:=h.cell l _ a q ha
  exact⟨a,xs,ha,rfl,e1,e2,q⟩
 ·cases e
theorem Rel.same(h:Rel K m st H){H':Hp}(s:Same H H'):Rel K m st H':=
 ⟨h.len,h.nd,fun l c a e ea=>isC_mono (Sub.refl m) (Tr.of_same s) (h.cell l c a e ea) fun w=>by
  obtain⟨xs,q⟩:=(h.cell l c a e ea).wr w
  rw[q]; exact s _ _ q⟩
theorem Rel.newC(h:Rel K m st H){p:Addr}{o:HO}{c:Cell}(hp:H p=none)(hc:Wr c=true→True)(hd:IsC K (m++[p]) (upd H p o) c p):Rel K (m++[p]) (st++[c]) (upd H p o):=by
 have ht:Tr H (upd H p o):=Tr.of_same (same_new hp)
 have old:∀ (l:Nat) (e:Cell) (a:Addr),(st++[c])[l]?=some e→(m++[p])[l]?=some a→(l<st.length∧st[l]?=some e∧m[l]?=some a)∨(l=st.length∧e=c∧a=p):=by
  intro l e a he ea
  by_cases hl:l<st.length
  ·rw[List.getElem?_append_left hl]at he
   rw[List.getElem?_append_left (by rw[h.len]; exact hl)]at ea
   exact .inl ⟨hl,he,ea⟩
  ·have hlt:=(List.getElem?_eq_some_iff.mp he).1
   rw[List.length_append,List.length_singleton]at hlt
   have e1:l=st.length:=by omega
   subst e1
   rw[List.getElem?_append_right (Nat.le_refl _)]at he
   rw[List.getElem?_append_right (by rw[h.len]; exact Nat.le_refl _),h.len]at ea
   have e2:c=e:=by simpa using he
   have e3:p=a:=by simpa using ea
   exact .inr ⟨rfl,e2.symm,e3.symm⟩
 refine⟨by simp[h.len],fun l l' a e e' e1 e2 e3 e4 w w'=>?_,fun l e a he ea=>?_⟩
 ·rcases old l e a e3 e1 with⟨h1,q1,r1⟩|⟨h1,q1,r1⟩<;>rcases old l' e' a e4 e2 with⟨h2,q2,r2⟩|⟨h2,q2,r2⟩
  ·exact h.nd l l' a e e' r1 r2 q1 q2 w w'
  ·obtain⟨ys,z⟩:=(h.cell l e a q1 r1).wr w
   rw[r2,hp]at z; cases z
  ·obtain⟨ys,z⟩:=(h.cell l' e' a q2 r2).wr w'
   rw[r1,hp]at z; cases z
  ·rw[h1,h2]
 ·rcases old l e a he ea with⟨h1,q1,r1⟩|⟨h1,q1,r1⟩
  ·refine isC_mono (Sub.app m [p]) ht (h.cell l e a q1 r1) fun w=>?_
   obtain⟨ys,z⟩:=(h.cell l e a q1 r1).wr w
   exact upd_ne (ne_of_none z hp)
  ·rw[q1,r1]
   exact hd
theorem Rel.new(h:Rel K m st H){p:Addr}{ds:List D}{xs:List V}(hp:H p=none)(hd:IsDs K m H ds xs):Rel K (m++[p]) (st++[.lst true ds]) (upd H p (.lst xs)):=
 h.newC hp (fun _=>trivial) ⟨xs,upd_same,isDs_mono (Sub.app m [p]) (Tr.of_same (same_new hp)) ds xs hd⟩
theorem Rel.newLoc(h:Rel K m st H){p:Addr}{H':Hp}:IsD K (m++[p]) H' (.loc st.length) (.ref p):=mkLoc (by
 rw[List.getElem?_append_right (by rw[h.len]; exact Nat.le_refl _),h.len]; simp)
theorem Rel.putC(h:Rel K m st H){l:Nat}{a:Addr}{c c':Cell}{o:HO}(e:st[l]?=some c)(hw:Wr c=true)(ea:m[l]?=some a)(ht:Tr H (upd H a o))(hd:IsC K m (upd H a o) c' a):
  Rel K m (st.set l c') (upd H a o):=by
 have hl:=(List.getElem?_eq_some_iff.mp e).1
 have wr:∀ (j:Nat) (d:Cell),(st.set l c')[j]?=some d→(j=l∧d=c')∨(j≠l∧st[j]?=some d):=by
  intro j d q
  by_cases hj:j=l
  ·subst hj
   rw[List.getElem?_set_self hl]at q
   exact .inl ⟨rfl,(Option.some.inj q).symm⟩
  ·rw[List.getElem?_set_ne (Ne.symm hj)]at q
   exact .inr ⟨hj,q⟩
 refine⟨by rw[List.length_set]; exact h.len,fun j j' b d d' e1 e2 e3 e4 w w'=>?_,fun j d b q eb=>?_⟩
 ·rcases wr j d e3 with⟨a1,b1⟩|⟨a1,b1⟩<;>rcases wr j' d' e4 with⟨a2,b2⟩|⟨a2,b2⟩
  ·rw[a1,a2]
  ·subst a1; exact h.nd _ _ b _ _ e1 e2 e b2 hw w'
  ·subst a2; exact h.nd _ _ b _ _ e1 e2 b1 e w hw
  ·exact h.nd _ _ b _ _ e1 e2 b1 b2 w w'
 ·rcases wr j d q with⟨a1,b1⟩|⟨a1,b1⟩
  ·subst a1 b1
   rw[ea]at eb; cases eb
   exact hd
  ·refine isC_mono (Sub.refl m) ht (h.cell j d b b1 eb) fun w=>upd_ne fun z=>?_
   subst z
   exact a1 (h.nd _ _ b _ _ eb ea b1 e w hw)
theorem Rel.put(h:Rel K m st H){l:Nat}{a:Addr}{ds ds':List D}{xs ys:List V}(e:st[l]?=some (.lst true ds))(ea:m[l]?=some a)(hH:H a=some (.lst xs))(hd:IsDs K m H ds' ys):
  Rel K m (st.set l (.lst true ds')) (upd H a (.lst ys)):=
 h.putC e rfl ea (Tr.put hH) ⟨ys,upd_same,isDs_mono (Sub.refl m) (Tr.put hH) ds' ys hd⟩
end
structure SlotOk (K:PySem.W.Frag) (m:List Addr) (H:Hp) (τ:Sl) (σ:L2.St):Prop where
 len:τ.length=σ.length
 at_:∀ (i:Nat) (d:D),τ[i]?=some (some d)→∃ v,σ[i]?=some (some v)∧IsD K m H d v
theorem SlotOk.mono{K:PySem.W.Frag}{m m':List Addr}{H H':Hp}{τ:Sl}{σ:L2.St}(h:SlotOk K m H τ σ)(s:Sub m m')(t:Tr H H'):SlotOk K m' H' τ σ:=
 ⟨h.len,fun i d e=>let ⟨v,a,b⟩:=h.at_ i d e; ⟨v,a,isD_mono s t d v b⟩⟩
theorem SlotOk.put{K:PySem.W.Frag}{m:List Addr}{H:Hp}{τ:Sl}{σ:L2.St}(h:SlotOk K m H τ σ){i:Nat}{d:D}{v:V}(q:IsD K m H d v):SlotOk K m H (τ.set i (some d)) (σ.set i (some v)):=by
 refine⟨by rw[List.length_set,List.length_set]; exact h.len,fun j e ej=>?_⟩
 by_cases hj:i=j
 ·subst hj
  have hi:i<τ.length:=by
   have:=(List.getElem?_eq_some_iff.mp ej).1
   rwa [List.length_set]at this
  rw[List.getElem?_set_self hi]at ej
  cases ej
  exact⟨v,List.getElem?_set_self (by rw[← h.len]; exact hi),q⟩
 ·rw[List.getElem?_set_ne hj]at ej ⊢
  exact h.at_ j e ej
def Post(K:PySem.W.Frag)(m:List Addr)(H:Hp)(d:D)(st':Store)(Q:VK):Prop:=∀ v m' H',Sub m m'→Tr H H'→Rel K m' st' H'→IsD K m' H' d v→Q v H'
def PostB(K:PySem.W.Frag)(m:List Addr)(H:Hp)(b:Bool)(st':Store)(Q:Bool→Hp→Prop):Prop:=∀ m' H',Sub m m'→Tr H H'→Rel K m' st' H'→Q b H'
def PostL(K:PySem.W.Frag)(m:List Addr)(H:Hp)(ds:List D)(st':Store)(Q:List V→Hp→Prop):Prop:=∀ vs m' H',Sub m m'→Tr H H'→Rel K m' st' H'→IsDs K m' H' ds vs→Q vs H'
theorem Post.mono{K:PySem.W.Frag}{m m1:List Addr}{H H1:Hp}{d:D}{st':Store}{Q:VK}(p:Post K m H d st' Q)(s:Sub m m1)(t:Tr H H1):Post K m1 H1 d st' Q:=
 fun v m' H' s' t' r i=>p v m' H' (s.trans s') (t.trans t') r i
theorem Post.here{K:PySem.W.Frag}{m:List Addr}{H:Hp}{d:D}{st':Store}{Q:VK}{v:V}(p:Post K m H d st' Q)(r:Rel K m st' H)(i:IsD K m H d v):Q v H:=p v m H (Sub.refl m) (Tr.refl H) r i
noncomputable def tD(K:PySem.W.Frag)(f:Sl→Store→Option (D×Store)):TE:=fun σ H Q=>∃ m st τ d st',Rel K m st H∧SlotOk K m H τ σ∧f τ st=some (d,st')∧Post K m H d st' Q
noncomputable def tTs(K:PySem.W.Frag)(f:Sl→Store→Option (Bool×Store)):TT:=fun σ H Q=>∃ m st τ d st',Rel K m st H∧SlotOk K m H τ σ∧f τ st=some (d,st')∧PostB K m H d st' Q
noncomputable def tL(K:PySem.W.Frag)(f:Sl→Store→Option (List D×Store)):TA:=fun σ H Q=>∃ m st τ d st',Rel K m st H∧SlotOk K m H τ σ∧f τ st=some (d,st')∧PostL K m H d st' Q
noncomputable def rD(K:PySem.W.Frag)(g:Store→D→D→Option (D×Store)):R2:=fun x y H Q=>∃ m st a b d st',Rel K m st H∧IsD K m H a x∧IsD K m H b y∧g st a b=some (d,st')∧Post K m H d st' Q
def rC(K:PySem.W.Frag)(g:Store→List D→Option (D×Store)):List V→Hp→VK→Prop:=fun xs H Q=>∃ m st ds d st',Rel K m st H∧IsDs K m H ds xs∧g st ds=some (d,st')∧Post K m H d st' Q
def rU1(K:PySem.W.Frag)(g:Store→D→Option (D×Store)):V→Hp→VK→Prop:=fun x H Q=>∃ m st a d st',Rel K m st H∧IsD K m H a x∧g st a=some (d,st')∧Post K m H d st' Q
theorem tD.el{K:PySem.W.Frag}{f:Sl→Store→Option (D×Store)}{σ:L2.St}{H:Hp}{Q:VK}{P:Prop}(h:tD K f σ H Q)(k:∀ m st τ d st',Rel K m st H→SlotOk K m H τ σ→f τ st=some (d,st')→Post K m H d st' Q→P):P:=by
 rcases h with⟨m,st,τ,d,st',a,b,c,e⟩
 exact k m st τ d st' a b c e
theorem tTs.el{K:PySem.W.Frag}{f:Sl→Store→Option (Bool×Store)}{σ:L2.St}{H:Hp}{Q:Bool→Hp→Prop}{P:Prop}(h:tTs K f σ H Q)(k:∀ m st τ d st',Rel K m st H→SlotOk K m H τ σ→f τ st=some (d,st')→PostB K m H d st' Q→P):P:=by
 rcases h with⟨m,st,τ,d,st',p0,p1,p2,p3⟩
 exact k m st τ d st' p0 p1 p2 p3
theorem tL.el{K:PySem.W.Frag}{f:Sl→Store→Option (List D×Store)}{σ:L2.St}{H:Hp}{Q:List V→Hp→Prop}{P:Prop}(h:tL K f σ H Q)(k:∀ m st τ d st',Rel K m st H→SlotOk K m H τ σ→f τ st=some (d,st')→PostL K m H d st' Q→P):P:=by
 rcases h with⟨m,st,τ,d,st',p0,p1,p2,p3⟩
 exact k m st τ d st' p0 p1 p2 p3
theorem rD.el{K:PySem.W.Frag}{f:Store→D→D→Option (D×Store)}{x y:V}{H:Hp}{Q:VK}{P:Prop}(h:rD K f x y H Q)(k:∀ m st a b d st',Rel K m st H→IsD K m H a x→IsD K m H b y→f st a b=some (d,st')→Post K m H d st' Q→P):P:=by
 rcases h with⟨m,st,a,b,d,st',p0,p1,p2,p3,p4⟩
 exact k m st a b d st' p0 p1 p2 p3 p4
theorem rC.el{K:PySem.W.Frag}{f:Store→List D→Option (D×Store)}{xs:List V}{H:Hp}{Q:VK}{P:Prop}(h:rC K f xs H Q)(k:∀ m st ds d st',Rel K m st H→IsDs K m H ds xs→f st ds=some (d,st')→Post K m H d st' Q→P):P:=by
 rcases h with⟨m,st,ds,d,st',p0,p1,p2,p3⟩
 exact k m st ds d st' p0 p1 p2 p3
theorem rU1.el{K:PySem.W.Frag}{f:Store→D→Option (D×Store)}{x:V}{H:Hp}{Q:VK}{P:Prop}(h:rU1 K f x H Q)(k:∀ m st a d st',Rel K m st H→IsD K m H a x→f st a=some (d,st')→Post K m H d st' Q→P):P:=by
 rcases h with⟨m,st,a,d,st',p0,p1,p2,p3⟩
 exact k m st a d st' p0 p1 p2 p3
theorem _root_.L2.PE.imp{X:Cx}{e:Expr}{t t':TE}(h:PE X e t)(f:∀ σ H Q,t' σ H Q→t σ H Q):PE X e t':=fun pins s σ H Q I q=>h pins s σ H Q I (f σ H Q q)
theorem _root_.L2.PT.imp{X:Cx}{e:Expr}{t t':TT}(h:PT X e t)(f:∀ σ H Q,t' σ H Q→t σ H Q):PT X e t':=fun pins s σ H Q I q=>h pins s σ H Q I (f σ H Q q)
theorem _root_.L2.PW.imp{X:Cx}{e:Expr}{t t':TT}(h:PW X e t)(f:∀ σ H Q,t' σ H Q→t σ H Q):PW X e t':=fun w pins s σ H Q I q=>h w pins s σ H Q I (f σ H Q q)
theorem _root_.L2.PA.imp{X:Cx}{e:List Expr}{t t':TA}(h:PA X e t)(f:∀ σ H Q,t' σ H Q→t σ H Q):PA X e t':=fun p pins s σ H Q I q=>h p pins s σ H Q I (f σ H Q q)
theorem _root_.L2.PS.imp{X:Cx}{e:Stmt}{t t':TS}(h:PS X e t)(f:∀ σ H Q,t' σ H Q→t σ H Q):PS X e t':=fun pins s σ H Q I q=>h pins s σ H Q I (f Q σ H q)
theorem _root_.L2.PSs.imp{X:Cx}{e:List Stmt}{t t':TS}(h:PSs X e t)(f:∀ D σ H,t' D σ H→t D σ H):PSs X e t':=fun pins s σ H D I q=>h pins s σ H D I (f D σ H q)
theorem bindD{α:Type}{f:Option (D×Store)}{g:D×Store→Option α}{r:α}(e:f.bind g=some r):∃ d st,f=some (d,st)∧g (d,st)=some r:=by
 cases f with
 |none=>cases e
 |some p=>exact⟨p.1,p.2,rfl,e⟩
theorem mapD{α β:Type}{f:Option α}{g:α→β}{r:β}(e:f.map g=some r):∃ d,f=some d∧g d=r:=by
 cases f with
 |none=>cases e
 |some p=>exact⟨p,rfl,Option.some.inj e⟩
theorem bindO{α β:Type}{f:Option α}{g:α→Option β}{r:β}(e:f.bind g=some r):∃ d,f=some d∧g d=some r:=by
 cases f with
 |none=>cases e
 |some p=>exact⟨p,rfl,e⟩
section
variable {K:PySem.W.Frag}
theorem tD_bin{fa fb:Sl→Store→Option (D×Store)}{g:Store→D→D→Option (D×Store)}{σ:L2.St}{H:Hp}{Q:VK}
  (h:tD K (fun τ st=>(fa τ st).bind fun p=>(fb τ p.2).bind fun q=>g q.2 p.1 q.1) σ H Q):tOp (rD K g) (tD K fa) (tD K fb) σ H Q:=by
 refine h.el fun m st τ d st' R0 S0 e q=>?_
 obtain⟨d1,s1,e1,e⟩:=bindD e
 obtain⟨d2,s2,e2,e⟩:=bindD e
 exact⟨m,st,τ,d1,s1,R0,S0,e1,fun x m1 H1 b1 t1 R1 i1=>⟨m1,s1,τ,d2,s2,R1,S0.mono b1 t1,e2,fun y m2 H2 b2 t2 R2 i2=>
  ⟨m2,s2,d1,d2,d,st',R2,isD_mono b2 t2 _ _ i1,i2,e,q.mono (b1.trans b2) (t1.trans t2)⟩⟩⟩
theorem tD_un{fa:Sl→Store→Option (D×Store)}{g:Store→D→Option (D×Store)}{σ:L2.St}{H:Hp}{Q:VK}
  (h:tD K (fun τ st=>(fa τ st).bind fun p=>g p.2 p.1) σ H Q):tUn (rU1 K g) (tD K fa) σ H Q:=by
 refine h.el fun m st τ d st' R0 S0 e q=>?_
 obtain⟨d1,s1,e1,e⟩:=bindD e
 exact⟨m,st,τ,d1,s1,R0,S0,e1,fun x m1 H1 b1 t1 R1 i1=>⟨m1,s1,d1,d,st',R1,i1,e,q.mono b1 t1⟩⟩
theorem tL_cons{fa:Sl→Store→Option (D×Store)}{fr:Sl→Store→Option (List D×Store)}{σ:L2.St}{H:Hp}{Q:List V→Hp→Prop}
  (h:tL K (fun τ st=>(fa τ st).bind fun p=>(fr τ p.2).bind fun q=>some (p.1::q.1,q.2)) σ H Q):tCons (tD K fa) (tL K fr) σ H Q:=by
 refine h.el fun m st τ d st' R0 S0 e q=>?_
 obtain⟨d1,s1,e1,e⟩:=bindD e
 obtain⟨p,e2,e⟩:=bindO e
 cases e
 exact⟨m,st,τ,d1,s1,R0,S0,e1,fun x m1 H1 b1 t1 R1 i1=>⟨m1,s1,τ,p.1,p.2,R1,S0.mono b1 t1,e2,fun xs m2 H2 b2 t2 R2 i2=>
  q _ m2 H2 (b1.trans b2) (t1.trans t2) R2 (mkCons (isD_mono b2 t2 _ _ i1) i2)⟩⟩
theorem tL_nil{σ:L2.St}{H:Hp}{Q:List V→Hp→Prop}(h:tL K (fun _ st=>some ([],st)) σ H Q):tNil σ H Q:=by
 refine h.el fun m st τ d st' R0 S0 e q=>?_
 cases e
 exact q [] m H (Sub.refl m) (Tr.refl H) R0 mkNil
theorem tL_call{fa:Sl→Store→Option (List D×Store)}{g:Store→List D→Option (D×Store)}{σ:L2.St}{H:Hp}{Q:VK}
  (h:tD K (fun τ st=>(fa τ st).bind fun p=>g p.2 p.1) σ H Q):tCB (rC K g) (tL K fa) σ H Q:=by
 refine h.el fun m st τ d st' R0 S0 e q=>?_
 obtain⟨p,e1,e⟩:=bindO e
 exact⟨m,st,τ,p.1,p.2,R0,S0,e1,fun xs m1 H1 b1 t1 R1 i1=>⟨m1,p.2,p.1,d,st',R1,i1,e,q.mono b1 t1⟩⟩
end
end MS
end
section
namespace MS
open PySem PySem.Spec PyProof.Rows L2
open M (D Cell Store Sl)
section
variable {X:Cx}
theorem lim_eq:(sizeLine:Nat)=M.lim:=sizeLine_eq
theorem op_fdiv64:OpR X (binaryOp .FloorDiv) (rI (fun _ j=>0<j∧j<2 ^ 64) fun i j=>.int (i / j)):=opI fun i j _ _ _ _ _ hc q=>by
 have h1:(0:Int)<j:=hc.1
 have h2:j<2 ^ 64:=hc.2
 refine floordiv_int (by omega) (by rw[Int.fdiv_eq_ediv_of_nonneg i (by omega)]; exact q) (.inl (PyProof.noPylong_of_log2 ?_))
 have h3:j.natAbs<2 ^ 64:=by omega
 have h4:j.natAbs≠0:=by omega
 have h5:j.natAbs.log2<64:=(Nat.log2_lt h4).mpr h3
 omega
theorem _root_.MS.IsDs.rep{K:PySem.W.Frag}{m:List Addr}{H:Hp}{ds:List D}{xs:List V}(h:IsDs K m H ds xs):∀ k:Nat,IsDs K m H (List.replicate k ds).flatten (List.replicate k xs).flatten
 |0=>by simp only[List.replicate_zero,List.flatten_nil]; exact mkNil
 |k+1=>by
  rw[List.replicate_succ,List.replicate_succ,List.flatten_cons,List.flatten_cons]
  exact h.append (IsDs.rep h k)
theorem op_catS{pins:List (Addr×Obj)}{s:Shared}{σ:L2.St}{H:Hp}{Q:VK}{l b:Addr}{xs ys:List V}(I:Inv X pins σ H s)(hq:SqL X.K H l xs)(hq':SqL X.K H b ys)(hz:xs.length+ys.length≤sizeLine)(q:∀ p,H p=none→Q (.ref p) (upd H p (.lst (xs++ys)))):
  wpAny (model X.prog X.w) X.A (binaryOp .Add (.ref l) (.ref b)) (EP X pins σ Q) X.xe s:=by
 obtain⟨vs,r1,pl,_⟩:=I.list hq
 obtain⟨ws,r2,pl2,_⟩:=I.list hq'
 have l1:=r1.length
 have l2:=r2.length
 obtain⟨⟨cls,dd,data,sl⟩,n,ho,hc,hdd,hd⟩:=pl
 obtain⟨⟨cls2,dd2,data2,sl2⟩,n2,ho2,hc2,hdd2,hd2⟩:=pl2
 simp only at hc hd hc2 hd2
 subst hc hd hc2 hd2
 have e:vs.toArray++ws.toArray=(vs++ws).toArray:=by simp
 refine concat_meets ⟨_,ho,rfl⟩ ⟨_,ho2,rfl⟩ noFill_list_add seq_list_add PySem.F.slot_list_add PySem.F.entry_list_add (PySem.F.args_list_add_2 _ _) (list_addW l b vs.toArray ws.toArray n n2 dd dd2 sl sl2 (by simp; omega)) ⟨ho,ho2,?_⟩
 rw[e]
 exact⟨.ref _,_,I.lnew (t':=s.toks) (r1.append r2) (by rw[List.length_append]; omega),rfl,q _ I.fresh⟩
theorem op_binD(op:Operator):OpR X (binaryOp op) (rD X.K fun st a b=>M.binop st op a b):=by
 intro pins s σ H x y v u Q I rx ry h
 refine h.el fun m st a b d st' R0 i1 i2 e q=>?_
 have e:M.binop st op a b=some (d,st'):=e
 unfold M.binop at e
 split at e
 ·cases e
  exact op_add pins s σ H x y v u Q I rx ry ⟨_,_,i1.int,i2.int,q.here R0 (mkInt _)⟩
 ·rename_i as bs
  split at e
  ·cases e
  ·rename_i hc
   cases e
   rw[Bool.or_eq_true,decide_eq_true_eq,not_or,List.isEmpty_iff]at hc
   obtain⟨pa,xs,rfl,hx,ix⟩:=i1.tup
   obtain⟨pb,ys,rfl,hy,iy⟩:=i2.tup
   have l1:=ix.length
   have l2:=iy.length
   have l3:=lim_eq
   refine op_catT pins s σ H _ _ v u Q I rx ry ⟨pa,pb,xs,ys,rfl,rfl,hx,hy,?_,by omega,fun z=>?_,fun z p hp=>?_⟩
   ·intro z
    subst z
    exact hc.1 (List.length_eq_zero_iff.mp l1)
   ·have i3:=ix.append iy
    rw[z,List.append_nil]at i3
    exact q.here R0 (mkTup hx i3)
   ·have sm:=same_new (o:=.tup (xs++ys)) hp
    exact q _ m _ (Sub.refl m) (Tr.of_same sm) (R0.same sm) (mkTup (SqT.of upd_same) (isDs_mono (Sub.refl m) (Tr.of_same sm) _ _ (ix.append iy)))
 ·split at e
  ·cases e
  ·rename_i hc
   cases e
   have l3:=lim_eq
   exact op_add_str pins s σ H x y v u Q I rx ry ⟨_,_,i1.str,i2.str,by omega,q.here R0 (mkStr _)⟩
 ·rename_i la lb _ _ _
  obtain⟨ds1,e1,e⟩:=bindO e
  obtain⟨ds2,e2,e⟩:=bindO e
  split at e
  ·cases e
  ·rename_i hc
   cases e
   obtain⟨pa,xs,_,rfl,hx,ix⟩:=R0.seq e1 i1
   obtain⟨pb,ys,_,rfl,hy,iy⟩:=R0.seq e2 i2
   have l1:=ix.length
   have l2:=iy.length
   have l3:=lim_eq
   cases rx
   cases ry
   refine op_catS I hx hy (by omega) fun p hp=>?_
   exact q _ (m++[p]) _ (Sub.app m [p]) (Tr.of_same (same_new hp)) (R0.new hp (ix.append iy)) R0.newLoc
 ·cases e
  exact op_sub pins s σ H x y v u Q I rx ry ⟨_,_,i1.int,i2.int,q.here R0 (mkInt _)⟩
 ·split at e
  ·rename_i hc
   cases e
   refine op_mul pins s σ H x y v u Q I rx ry ⟨_,_,i1.int,i2.int,?_,q.here R0 (mkInt _)⟩
   unfold M.mulOk at hc
   simp only[Bool.or_eq_true,Bool.and_eq_true,decide_eq_true_eq]at hc
   exact hc
  ·cases e
 ·rename_i as k _
  split at e
  ·cases e
  ·rename_i hc
   cases e
   simp only[Bool.or_eq_true,decide_eq_true_eq,not_or]at hc
   obtain⟨pa,xs,rfl,hx,ix⟩:=i1.tup
   have l1:=ix.length
   have l3:=lim_eq
   refine op_repT pins s σ H _ _ v u Q I rx ry ⟨pa,k,xs,rfl,i2.int,hx,by omega,by omega,by rw[← l1]; omega,fun ys hy=>⟨fun z=>?_,fun p hp=>?_⟩⟩
   ·have i3:=ix.rep k.toNat
    rw[← hy,z]at i3
    exact q.here R0 (mkTup hx i3)
   ·have sm:=same_new (o:=.tup ys) hp
    have i3:=ix.rep k.toNat
    rw[← hy]at i3
    exact q _ m _ (Sub.refl m) (Tr.of_same sm) (R0.same sm) (mkTup (SqT.of upd_same) (isDs_mono (Sub.refl m) (Tr.of_same sm) _ _ i3))
 ·rename_i la k _
  obtain⟨ds1,e1,e⟩:=bindO e
  split at e
  ·cases e
  ·rename_i hc
   cases e
   simp only[Bool.or_eq_true,decide_eq_true_eq,not_or]at hc
   obtain⟨pa,xs,m1,rfl,hx,ix,_⟩:=R0.wlist e1 i1
   have l1:=ix.length
   have l3:=lim_eq
   refine op_rep pins s σ H _ _ v u Q I rx ry ⟨pa,k,xs,rfl,i2.int,hx,by omega,by omega,by rw[← l1]; omega,fun p hp=>?_⟩
   exact q _ (m++[p]) _ (Sub.app m [p]) (Tr.of_same (same_new hp)) (R0.new hp (ix.rep k.toNat)) R0.newLoc
 ·split at e
  ·rename_i hc
   cases e
   exact op_fdiv64 pins s σ H x y v u Q I rx ry ⟨_,_,i1.int,i2.int,hc,q.here R0 (mkInt _)⟩
  ·cases e
 ·split at e
  ·rename_i hc
   cases e
   exact op_mod pins s σ H x y v u Q I rx ry ⟨_,_,i1.int,i2.int,hc,q.here R0 (mkInt _)⟩
  ·cases e
 ·split at e
  ·rename_i hc
   cases e
   exact op_pow pins s σ H x y v u Q I rx ry ⟨_,_,i1.int,i2.int,⟨hc.1,by omega,hc.2.2⟩,q.here R0 (mkInt _)⟩
  ·cases e
 ·cases e
theorem isD_tuple{pins:List (Addr×Obj)}{σ:L2.St}{H:Hp}{s:Shared}{m:List Addr}{ds:List D}{v:V}(I:Inv X pins σ H s)(h:IsD X.K m H (.tup ds) v):∃ a xs its,v=.ref a∧SqT X.K H a xs∧IsDs X.K m H ds xs∧Vals xs its∧IsTup s.heap a its.toArray:=by
 obtain⟨a,xs,rfl,hx,ix⟩:=h.tup
 obtain⟨its,r,p,_⟩:=I.tuple hx
 exact⟨a,xs,its,rfl,hx,ix,r,p⟩
section
variable {pins:List (Addr×Obj)}{σ:L2.St}{H:Hp}{s:Shared}{m:List Addr}
mutual
theorem isD_inj(I:Inv X pins σ H s):∀ (n:Nat) (d e:D) (v:V),M.flat n d=true→M.flat n e=true→IsD X.K m H d v→IsD X.K m H e v→d=e
 |n,.loc _,_,_,f,_,_,_=>by simp[M.flat]at f
 |n,.lst _,_,_,f,_,_,_=>by simp[M.flat]at f
 |n,.non,e,v,_,fe,h,h'=>by
  rw[h.non]at h'
  cases e with
  |non=>rfl
  |tup ds=>obtain⟨a,xs,z,_⟩:=h'.tup; cases z
  |loc l=>simp[M.flat]at fe
  |lst _=>simp[M.flat]at fe
  |bl b=>cases h'.bl
  |int b=>cases h'.int
  |str b=>cases h'.str
 |n,.bl b,e,v,_,fe,h,h'=>by
  rw[h.bl]at h'
  cases e with
  |non=>cases h'.non
  |tup ds=>obtain⟨a,xs,z,_⟩:=h'.tup; cases z
  |loc l=>simp[M.flat]at fe
  |lst _=>simp[M.flat]at fe
  |bl b=>cases h'.bl; rfl
  |int b=>cases h'.int
  |str b=>cases h'.str
 |n,.int b,e,v,_,fe,h,h'=>by
  rw[h.int]at h'
  cases e with
  |non=>cases h'.non
  |tup ds=>obtain⟨a,xs,z,_⟩:=h'.tup; cases z
  |loc l=>simp[M.flat]at fe
  |lst _=>simp[M.flat]at fe
  |bl b=>cases h'.bl
  |int b=>cases h'.int; rfl
  |str b=>cases h'.str
 |n,.str b,e,v,_,fe,h,h'=>by
  rw[h.str]at h'
  cases e with
  |non=>cases h'.non
  |tup ds=>obtain⟨a,xs,z,_⟩:=h'.tup; cases z
  |loc l=>simp[M.flat]at fe
  |lst _=>simp[M.flat]at fe
  |bl b=>cases h'.bl
  |int b=>cases h'.int
  |str b=>cases h'.str; rfl
 |0,.tup ds,e,v,f,fe,h,h'=>by simp[M.flat]at f
 |n+1,.tup ds,e,v,f,fe,h,h'=>by
  obtain⟨a,xs,rfl,hx,ix⟩:=h.tup
  cases e with
  |non=>cases h'.non
  |tup es=>
   obtain⟨b,ys,z,hy,iy⟩:=h'.tup
   cases z
   have:=I.tuple_inj hx hy
   subst this
   simp only[M.flat]at f fe
   rw[isDs_inj I n ds es xs f fe ix iy]
  |loc l=>simp[M.flat]at fe
  |lst _=>simp[M.flat]at fe
  |bl b=>cases h'.bl
  |int b=>cases h'.int
  |str b=>cases h'.str
theorem isDs_inj(I:Inv X pins σ H s):∀ (n:Nat) (ds es:List D) (xs:List V),M.flats n ds=true→M.flats n es=true→IsDs X.K m H ds xs→IsDs X.K m H es xs→ds=es
 |n,[],es,xs,_,_,h,h'=>by
  rw[h.nil]at h'
  exact(List.length_eq_zero_iff.mp h'.length).symm
 |n,d::ds,es,xs,f,fe,h,h'=>by
  obtain⟨x,r,rfl,q,t⟩:=h.cons
  cases es with
  |nil=>cases h'.nil
  |cons e es=>
   obtain⟨x',r',z,q',t'⟩:=h'.cons
   cases z
   simp only[M.flats,Bool.and_eq_true]at f fe
   rw[isD_inj I n d e x f.1 fe.1 q q',isDs_inj I n ds es r f.2 fe.2 t t']
end
mutual
theorem eqT_refl:∀ (n:Nat) (d:D),M.flat n d=true→M.eqT d d=true
 |n,.loc _,f=>by simp[M.flat]at f
 |n,.lst _,f=>by simp[M.flat]at f
 |n,.non,_=>rfl
 |n,.bl b,_=>by simp[M.eqT]
 |n,.int b,_=>by simp[M.eqT]
 |n,.str b,_=>by simp[M.eqT]
 |0,.tup ds,f=>by simp[M.flat]at f
 |n+1,.tup ds,f=>by
  simp only[M.flat]at f
  simp only[M.eqT]
  exact eqTs_refl n ds f
theorem eqTs_refl:∀ (n:Nat) (ds:List D),M.flats n ds=true→M.eqTs ds ds=true
 |n,[],_=>rfl
 |n,d::ds,f=>by
  simp only[M.flats,Bool.and_eq_true]at f
  simp only[M.eqTs,eqT_refl n d f.1,eqTs_refl n ds f.2,Bool.and_self]
end
noncomputable def pairE(ds es:List D)(j:Nat):Bool:=match ds[j]?,es[j]? with
 |some d,some e=>M.eqT d e
 |_,_=>true
theorem eqTs_pair:∀ (ds es:List D),M.eqTs ds es=((List.range (min ds.length es.length)).all (pairE ds es)&&ds.length==es.length)
 |[],[]=>rfl
 |[],e::es=>by simp[M.eqTs]
 |d::ds,[]=>by simp[M.eqTs]
 |d::ds,e::es=>by
  simp only[M.eqTs]
  rw[eqTs_pair ds es,List.length_cons,List.length_cons,Nat.add_min_add_right,List.range_succ_eq_map,List.all_cons,List.all_map,Bool.and_assoc]
  congr 1
  congr 1
  rw[Bool.eq_iff_iff,beq_iff_eq,beq_iff_eq]
  omega
theorem eqTs_same{ds es:List D}(h:ds.length=es.length):M.eqTs ds es=(List.range ds.length).all (pairE ds es):=by
 rw[eqTs_pair,h,Nat.min_self]
 simp
theorem eqAt_D(I:Inv X pins σ H s):∀ (n:Nat) (A:Around) (d e:D) (x y:V) (u v:Value),A.units+n<cLine→M.flat n d=true→M.flat n e=true→IsD X.K m H d x→IsD X.K m H e y→RelV x u→RelV y v→
  SeqAt.EqAt A s u v (M.eqT d e)∧SeqAt.RcAt A s u v (M.eqT d e):=by
 intro n
 induction n with
 |zero=>
  intro A d e x y u v hu f fe hx hy rx ry
  have hu0:A.units<cLine:=by omega
  cases d with
  |loc _=>simp[M.flat]at f
  |lst _=>simp[M.flat]at f
  |tup _=>simp[M.flat]at f
  |non=>
   cases hx.non; cases rx
   cases e with
   |loc _=>simp[M.flat]at fe
   |lst _=>simp[M.flat]at fe
   |tup _=>simp[M.flat]at fe
   |non=>cases hy.non; cases ry; exact⟨SeqAt.EqAt.same _,SeqAt.RcAt.none_none⟩
   |bl b=>cases hy.bl; cases ry; exact⟨SeqAt.EqAt.none_bool b,SeqAt.RcAt.none_bool b⟩
   |int b=>cases hy.int; obtain⟨t,rfl⟩:=ry; exact⟨SeqAt.EqAt.none_int b t,SeqAt.RcAt.none_int b t⟩
   |str b=>cases hy.str; obtain⟨t,rfl⟩:=ry; exact⟨SeqAt.EqAt.none_str b t,SeqAt.RcAt.none_str b t⟩
  |bl a=>
   cases hx.bl; cases rx
   cases e with
   |loc _=>simp[M.flat]at fe
   |lst _=>simp[M.flat]at fe
   |tup _=>simp[M.flat]at fe
   |non=>cases hy.non; cases ry; exact⟨SeqAt.EqAt.bool_none a,SeqAt.RcAt.bool_none a⟩
   |bl b=>cases hy.bl; cases ry; exact⟨SeqAt.EqAt.bool_bool a b,SeqAt.RcAt.bool_bool a b⟩
   |int b=>cases hy.int; obtain⟨t,rfl⟩:=ry; exact⟨SeqAt.EqAt.bool_int a b t,SeqAt.RcAt.bool_int a b t⟩
   |str b=>cases hy.str; obtain⟨t,rfl⟩:=ry; exact⟨SeqAt.EqAt.bool_str a b t,SeqAt.RcAt.bool_str a b t⟩
  |int a=>
   cases hx.int; obtain⟨t',rfl⟩:=rx
   cases e with
   |loc _=>simp[M.flat]at fe
   |lst _=>simp[M.flat]at fe
   |tup _=>simp[M.flat]at fe
   |non=>cases hy.non; cases ry; exact⟨SeqAt.EqAt.int_none a t',SeqAt.RcAt.int_none a t'⟩
   |bl b=>cases hy.bl; cases ry; exact⟨SeqAt.EqAt.int_bool a t' b,SeqAt.RcAt.int_bool a t' b⟩
   |int b=>cases hy.int; obtain⟨t,rfl⟩:=ry; exact⟨SeqAt.EqAt.int_int a t' b t,SeqAt.RcAt.int_int a t' b t⟩
   |str b=>cases hy.str; obtain⟨t,rfl⟩:=ry; exact⟨SeqAt.EqAt.int_str a t' b t,SeqAt.RcAt.int_str a t' b t⟩
  |str a=>
   cases hx.str; obtain⟨t',rfl⟩:=rx
   cases e with
   |loc _=>simp[M.flat]at fe
   |lst _=>simp[M.flat]at fe
   |tup _=>simp[M.flat]at fe
   |non=>cases hy.non; cases ry; exact⟨SeqAt.EqAt.str_none a t',SeqAt.RcAt.str_none a t'⟩
   |bl b=>cases hy.bl; cases ry; exact⟨SeqAt.EqAt.str_bool a t' b,SeqAt.RcAt.str_bool a t' b⟩
   |int b=>cases hy.int; obtain⟨t,rfl⟩:=ry; exact⟨SeqAt.EqAt.str_int a t' b t,SeqAt.RcAt.str_int a t' b t⟩
   |str b=>cases hy.str; obtain⟨t,rfl⟩:=ry; exact⟨SeqAt.EqAt.str_str a t' b t,SeqAt.RcAt.str_str a t' b t⟩
 |succ n ih=>
  intro A d e x y u v hu f fe hx hy rx ry
  have hu0:A.units<cLine:=by omega
  cases d with
  |loc _=>simp[M.flat]at f
  |lst _=>simp[M.flat]at f
  |tup ds=>
   obtain⟨a,xs,its,rfl,hq,ix,r1,p1⟩:=isD_tuple I hx
   cases rx
   cases e with
   |loc _=>simp[M.flat]at fe
   |lst _=>simp[M.flat]at fe
   |non=>cases hy.non; cases ry; exact⟨SeqAt.EqAt.tuple_none p1 hu0,SeqAt.RcAt.tuple_none p1 hu0⟩
   |bl b=>cases hy.bl; cases ry; exact⟨SeqAt.EqAt.tuple_bool b p1 hu0,SeqAt.RcAt.tuple_bool b p1 hu0⟩
   |int b=>cases hy.int; obtain⟨t,rfl⟩:=ry; exact⟨SeqAt.EqAt.tuple_int b t p1 hu0,SeqAt.RcAt.tuple_int b t p1 hu0⟩
   |str b=>cases hy.str; obtain⟨t,rfl⟩:=ry; exact⟨SeqAt.EqAt.tuple_str b t p1 hu0,SeqAt.RcAt.tuple_str b t p1 hu0⟩
   |tup es=>
    obtain⟨b,ys,its2,rfl,hq2,iy,r2,p2⟩:=isD_tuple I hy
    cases ry
    have l1:=ix.length
    have l2:=iy.length
    have l3:=r1.length
    have l4:=r2.length
    simp only[M.flat]at f fe
    have he:∀ j (h1:j<its.toArray.size) (h2:j<its2.toArray.size),SeqAt.EqAt A.in1 s its.toArray[j] its2.toArray[j] (pairE ds es j):=by
     intro j h1 h2
     rw[List.size_toArray]at h1 h2
     have j1:j<ds.length:=by omega
     have j2:j<es.length:=by omega
     have g1:ds[j]?=some ds[j]:=by simp
     have g2:es[j]?=some es[j]:=by simp
     obtain⟨x1,k1,q1⟩:=ix.get g1
     obtain⟨x2,k2,q2⟩:=iy.get g2
     obtain⟨u1,w1,z1⟩:=r1.get k1
     obtain⟨u2,w2,z2⟩:=r2.get k2
     have fl:∀ (l:List D) (k:Nat) (hk:k<l.length),M.flats n l=true→M.flat n l[k]=true:=by
      intro l
      induction l with
      |nil=>intro k hk; cases hk
      |cons c l ihl=>
       intro k hk hf
       simp only[M.flats,Bool.and_eq_true]at hf
       cases k with
       |zero=>exact hf.1
       |succ k=>exact ihl k (by simpa using hk) hf.2
     have:=(ih A.in1 ds[j] es[j] x1 x2 u1 u2 (by have hz:A.in1.units=A.units+1:=rfl; omega) (fl ds j j1 f) (fl es j j2 fe) q1 q2 z1 z2).1
     have e1:its.toArray[j]=u1:=by
      have:its[j]?=some its[j]:=by simp
      rw[w1]at this
      simpa using (Option.some.inj this).symm
     have e2:its2.toArray[j]=u2:=by
      have:its2[j]?=some its2[j]:=by simp
      rw[w2]at this
      simpa using (Option.some.inj this).symm
     rw[e1,e2]
     have e3:pairE ds es j=M.eqT ds[j] es[j]:=by
      unfold pairE
      rw[g1,g2]
     rw[e3]
     exact this
    have rc:SeqAt.RcAt A s (.ref a) (.ref b) (M.eqT (.tup ds) (.tup es)):=by
     have:=SeqAt.RcAt.tuples p1 p2 hu0 he
     simp only[M.eqT]
     rw[eqTs_pair,l1,l2,l3,l4]
     simpa using this
    refine⟨?_,rc⟩
    by_cases hab:a=b
    ·subst hab
     have:=I.tuple_inj hq hq2
     subst this
     have e0:=isDs_inj I n ds es xs f fe ix iy
     subst e0
     have e1:M.eqT (.tup ds) (.tup ds)=true:=by
      simp only[M.eqT]
      exact eqTs_refl n ds f
     rw[e1]
     exact SeqAt.EqAt.same _
    ·exact SeqAt.EqAt.of_refs hab rc
  |non=>
   cases hx.non; cases rx
   cases e with
   |loc _=>simp[M.flat]at fe
   |lst _=>simp[M.flat]at fe
   |tup es=>
    obtain⟨b,ys,its2,rfl,hq2,iy,r2,p2⟩:=isD_tuple I hy
    cases ry
    exact⟨SeqAt.EqAt.none_tuple p2 hu0,SeqAt.RcAt.none_tuple p2 hu0⟩
   |non=>cases hy.non; cases ry; exact⟨SeqAt.EqAt.same _,SeqAt.RcAt.none_none⟩
   |bl b=>cases hy.bl; cases ry; exact⟨SeqAt.EqAt.none_bool b,SeqAt.RcAt.none_bool b⟩
   |int b=>cases hy.int; obtain⟨t,rfl⟩:=ry; exact⟨SeqAt.EqAt.none_int b t,SeqAt.RcAt.none_int b t⟩
   |str b=>cases hy.str; obtain⟨t,rfl⟩:=ry; exact⟨SeqAt.EqAt.none_str b t,SeqAt.RcAt.none_str b t⟩
  |bl a=>
   cases hx.bl; cases rx
   cases e with
   |loc _=>simp[M.flat]at fe
   |lst _=>simp[M.flat]at fe
   |tup es=>
    obtain⟨b,ys,its2,rfl,hq2,iy,r2,p2⟩:=isD_tuple I hy
    cases ry
    exact⟨SeqAt.EqAt.bool_tuple a p2 hu0,SeqAt.RcAt.bool_tuple a p2 hu0⟩
   |non=>cases hy.non; cases ry; exact⟨SeqAt.EqAt.bool_none a,SeqAt.RcAt.bool_none a⟩
   |bl b=>cases hy.bl; cases ry; exact⟨SeqAt.EqAt.bool_bool a b,SeqAt.RcAt.bool_bool a b⟩
   |int b=>cases hy.int; obtain⟨t,rfl⟩:=ry; exact⟨SeqAt.EqAt.bool_int a b t,SeqAt.RcAt.bool_int a b t⟩
   |str b=>cases hy.str; obtain⟨t,rfl⟩:=ry; exact⟨SeqAt.EqAt.bool_str a b t,SeqAt.RcAt.bool_str a b t⟩
  |int a=>
   cases hx.int; obtain⟨t',rfl⟩:=rx
   cases e with
   |loc _=>simp[M.flat]at fe
   |lst _=>simp[M.flat]at fe
   |tup es=>
    obtain⟨b,ys,its2,rfl,hq2,iy,r2,p2⟩:=isD_tuple I hy
    cases ry
    exact⟨SeqAt.EqAt.int_tuple a t' p2 hu0,SeqAt.RcAt.int_tuple a t' p2 hu0⟩
   |non=>cases hy.non; cases ry; exact⟨SeqAt.EqAt.int_none a t',SeqAt.RcAt.int_none a t'⟩
   |bl b=>cases hy.bl; cases ry; exact⟨SeqAt.EqAt.int_bool a t' b,SeqAt.RcAt.int_bool a t' b⟩
   |int b=>cases hy.int; obtain⟨t,rfl⟩:=ry; exact⟨SeqAt.EqAt.int_int a t' b t,SeqAt.RcAt.int_int a t' b t⟩
   |str b=>cases hy.str; obtain⟨t,rfl⟩:=ry; exact⟨SeqAt.EqAt.int_str a t' b t,SeqAt.RcAt.int_str a t' b t⟩
  |str a=>
   cases hx.str; obtain⟨t',rfl⟩:=rx
   cases e with
   |loc _=>simp[M.flat]at fe
   |lst _=>simp[M.flat]at fe
   |tup es=>
    obtain⟨b,ys,its2,rfl,hq2,iy,r2,p2⟩:=isD_tuple I hy
    cases ry
    exact⟨SeqAt.EqAt.str_tuple a t' p2 hu0,SeqAt.RcAt.str_tuple a t' p2 hu0⟩
   |non=>cases hy.non; cases ry; exact⟨SeqAt.EqAt.str_none a t',SeqAt.RcAt.str_none a t'⟩
   |bl b=>cases hy.bl; cases ry; exact⟨SeqAt.EqAt.str_bool a t' b,SeqAt.RcAt.str_bool a t' b⟩
   |int b=>cases hy.int; obtain⟨t,rfl⟩:=ry; exact⟨SeqAt.EqAt.str_int a t' b t,SeqAt.RcAt.str_int a t' b t⟩
   |str b=>cases hy.str; obtain⟨t,rfl⟩:=ry; exact⟨SeqAt.EqAt.str_str a t' b t,SeqAt.RcAt.str_str a t' b t⟩
theorem flats_get:∀ {n:Nat}{l:List D}{k:Nat}{d:D},M.flats n l=true→l[k]?=some d→M.flat n d=true
 |_,[],_,_,_,e=>by simp at e
 |n,c::l,0,d,f,e=>by
  simp only[M.flats,Bool.and_eq_true]at f
  have e':c=d:=by simpa using e
  rw[← e']; exact f.1
 |n,c::l,k+1,d,f,e=>by
  simp only[M.flats,Bool.and_eq_true]at f
  exact flats_get (k:=k) f.2 (by simpa using e)
end
end
end MS
end
section
namespace MS
open PySem PySem.Spec PyProof.Rows L2
noncomputable def Its(z:Str):It:=⟨fun i _=>i<z.cps.toList.length,fun i H x H'=>H'=H∧∃ c,z.cps.toList[i]?=some c∧x=.str ⟨#[c]⟩,fun i _=>z.cps.toList.length≤i⟩
theorem turn_text{P:Program}{w:World}{K:PySem.W.Frag}{tg:Expr}(z:Str)(t:Tok)(it:Addr):Turn P w K tg (Its z) [it] it (fun i h=>h.IsStrIter it "str_ascii_iterator" z t i) where
 mem:=by simp
 obj:=fun i h st b hb=>by
  have e:b=it:=by simpa using hb
  subst e
  obtain⟨o,e,c,d⟩:=st
  exact⟨o,e,fun v q=>by rw[d]at q; cases q⟩
 keep:=fun i h h' st k=>by
  obtain⟨o,e,r⟩:=st
  exact⟨o,k it (by simp) o e,r⟩
 item:=by
  intro X hP hw hK hc i pins s σ H E I hf st hg
  subst hP hw hK
  obtain⟨f0,f1,f2,f3,f4,f5⟩:=hf it (by simp)
  have hi:i<z.cps.toList.length:=hg
  have hx:z.cps[i]?=some (z.cps.toList[i]):=by
   rw[← Array.getElem?_toList]
   exact List.getElem?_eq_getElem hi
  refine wpAny_pyNext_ascii_item st hx fun h' st' sb=>?_
  have I1:Inv X pins σ H { s with heap:=h',toks:=s.toks+1 }:=I.turned (fun b o hb e=>(sb.2 b hb).trans e) f0 f1 f3 f4 f5
  obtain⟨o,e,c,d⟩:=id st'
  exact⟨_,rfl,go_of (s:={ s with heap:=h',toks:=s.toks+1 }) e c d (by decide) ⟨.str ⟨#[z.cps.toList[i]]⟩,H,I1,⟨_,rfl⟩,⟨rfl,_,List.getElem?_eq_getElem hi,rfl⟩,st',fun b hb=>(hf b hb).1⟩⟩
 done:=by
  intro X hP hw hK hc i pins s σ H E I hf st hg
  subst hP hw hK
  obtain⟨f0,f1,f2,f3,f4,f5⟩:=hf it (by simp)
  have hi:z.cps.toList.length≤i:=hg
  have hx:z.cps[i]?=none:=by
   rw[← Array.getElem?_toList]
   exact List.getElem?_eq_none hi
  exact wpAny_pyNext_ascii_end (I.ok.hd hc) st hx fun h' eb=>⟨rfl,I.turned (t':=s.toks) (fun b o hb e=>eb b o hb e) f0 f1 f3 f4 f5⟩
 self:=fun _ _ _ _ _ st h=>wpAny_pyIter_striter_ascii st h
section
variable {X:Cx}
theorem part_int{v:Value}{o:Option Int}(h:IsPart v o):∃ p:Option (Int×Tok),v=partValue p∧p.map (·.1)=o:=by
 cases h with
 |none=>exact⟨none,rfl,rfl⟩
 |int i t=>exact⟨some (i,t),rfl,rfl⟩
theorem idx_range(n:Nat)(lo hi:Option Int):Builtin.Str.strSliceIndices lo hi 1 n=PySem.sliceRange ((M.cutIx n 0 lo:Nat):Int) ((M.cutIx n n hi:Nat):Int) 1:=by
 have cl:∀ (o:Option Int) (d:Nat),d≤n→(match o with
   |none=>(d:Int)
   |some i=>max 0 (min (if i<0 then i+(n:Int) else i) (n:Int)))=((M.cutIx n d o:Nat):Int):=by
  intro o d hd
  cases o with
  |none=>rfl
  |some i=>
   simp only[M.cutIx]
   split<;>omega
 rw[← cl lo 0 (Nat.zero_le _),← cl hi n (Nat.le_refl _)]
 unfold Builtin.Str.strSliceIndices
 simp only[show((1:Int) > 0)=True from by simp,if_true]
 congr 2
theorem cutIx_le(n d:Nat)(o:Option Int)(h:d≤n):M.cutIx n d o≤n:=by
 cases o with
 |none=>exact h
 |some i=>
  simp only[M.cutIx]
  split<;>omega
theorem range_one(a b:Nat):PySem.sliceRange (a:Int) (b:Int) 1=(List.range (b - a)).map fun k=>a+k:=by
 unfold PySem.sliceRange
 simp only[show((1:Int) > 0)=True from by simp,if_true]
 by_cases h:(a:Int)<(b:Int)
 ·rw[if_pos h]
  have e:(((b:Int) - a+1 - 1) / 1).toNat=b - a:=by
   rw[Int.ediv_one]; omega
  rw[e]
  refine List.map_congr_left fun k _=>?_
  omega
 ·rw[if_neg h]
  have e:b - a=0:=by omega
  rw[e]
  rfl
theorem cut_text(z:Str)(lo hi:Option Int):(Builtin.Str.strSliceIndices lo hi 1 z.length).filterMap (z.cps[·]?)=M.cut z.cps.toList lo hi:=by
 have hl:z.cps.toList.length=z.length:=by simp[Str.length]
 have h1:=cutIx_le z.length 0 lo (Nat.zero_le _)
 have h2:=cutIx_le z.length z.length hi (Nat.le_refl _)
 rw[idx_range,range_one]
 unfold M.cut
 rw[hl]
 generalize M.cutIx z.length 0 lo=a at *
 generalize M.cutIx z.length z.length hi=b at *
 have e:∀ l:List Nat,l.filterMap (z.cps[·]?)=l.filterMap (z.cps.toList[·]?):=fun l=>by simp
 rw[e]
 by_cases hab:a≤b
 ·exact PySem.StrLaws.picks z.cps.toList (b - a) a (by omega)
 ·have e0:b - a=0:=by omega
  rw[e0]
  simp
theorem cut_whole(z:Str)(lo hi:Option Int)(h:(Builtin.Str.strSliceIndices lo hi 1 z.length).length=z.length):M.cut z.cps.toList lo hi=z.cps.toList:=by
 have hl:z.cps.toList.length=z.length:=by simp[Str.length]
 have h1:=cutIx_le z.length 0 lo (Nat.zero_le _)
 have h2:=cutIx_le z.length z.length hi (Nat.le_refl _)
 rw[idx_range,range_one,List.length_map,List.length_range]at h
 unfold M.cut
 rw[hl]
 generalize M.cutIx z.length 0 lo=a at *
 generalize M.cutIx z.length z.length hi=b at *
 by_cases h0:z.length=0
 ·have e:z.cps.toList=[]:=List.length_eq_zero_iff.mp (hl.trans h0)
  rw[e]; simp
 ·have ea:a=0:=by omega
  subst ea
  rw[List.drop_zero]
  exact List.take_of_length_le (by omega)
theorem sl_text:SlR X (fun x lo hi H Q=>∃ z,x=.str z∧z.length≤sizeLine∧Q (.str ⟨(M.cut z.cps.toList lo hi).toArray⟩) H):=by
 intro pins s σ H x v vl vu lo hi sl Q I rx hs pl pu h
 obtain⟨z,rfl,hz,q⟩:=h
 obtain⟨t,rfl⟩:=rx
 obtain⟨l,rfl,el⟩:=part_int pl
 obtain⟨u,rfl,eu⟩:=part_int pu
 have hsl:s.heap.IsSlice sl l u none:=hs
 refine⟨"str",_,PySem.F.slot_str_getitem.lookup,typeIs_str s z t,?_⟩
 have el:l.map (·.1)=lo:=el
 have eu:u.map (·.1)=hi:=eu
 have hpick:slicePicked z l u none=Builtin.Str.strSliceIndices lo hi 1 z.length:=by unfold slicePicked; rw[el,eu]; rfl
 have hcut:=cut_text z lo hi
 have hl:z.cps.toList.length=z.length:=by simp[Str.length]
 have clen:(M.cut z.cps.toList lo hi).length≤z.length:=by
  unfold M.cut
  rw[List.length_take,List.length_drop,hl]
  omega
 refine wpAny_getItem_str_slice hsl (by decide) ?_
 unfold sliceMade
 rw[hpick,hcut]
 refine post_val_or_str ⟨?_,fun t' k=>?_⟩
 ·split
  ·exact hz
  ·show(M.cut z.cps.toList lo hi).toArray.size≤sizeLine
   rw[List.size_toArray]
   exact Nat.le_trans clen hz
 ·refine⟨.str ⟨(M.cut z.cps.toList lo hi).toArray⟩,H,I.tok k,⟨t',?_⟩,q⟩
  split
  ·rename_i hw
   rw[Bool.and_eq_true,beq_iff_eq,beq_iff_eq]at hw
   have hw2:(Builtin.Str.strSliceIndices lo hi 1 z.length).length=z.length:=hw.2
   have e:M.cut z.cps.toList lo hi=z.cps.toList:=cut_whole z lo hi hw2
   rw[e]
  ·rfl
theorem find_one(z:Str)(c:Nat):Txt.find z ⟨#[c]⟩=M.findC z.cps.toList c:=by
 have at_:∀ i,PySem.StrLaws.At z ⟨#[c]⟩ z.length i↔z.cps.toList[i]?=some c:=by
  intro i
  have hl:z.cps.toList.length=z.length:=by simp[Str.length]
  have e1:(⟨#[c]⟩:Str).length=1:=rfl
  unfold PySem.StrLaws.At
  rw[PySem.StrLaws.subAt_eq,e1,beq_iff_eq]
  constructor
  ·rintro⟨h1,h2⟩
   have hi:i<z.cps.toList.length:=by omega
   rw[List.drop_eq_getElem_cons hi]at h2
   have h3:[z.cps.toList[i]]=[c]:=by simpa using h2
   rw[List.getElem?_eq_getElem hi]
   simpa using h3
  ·intro h
   obtain⟨hi,hx⟩:=List.getElem?_eq_some_iff.mp h
   refine⟨by omega,?_⟩
   rw[List.drop_eq_getElem_cons hi,hx]
   simp
 unfold M.findC
 rcases find_whole z ⟨#[c]⟩ with⟨e,h⟩|⟨i,e,h1,h2⟩
 ·rw[e]
  have:z.cps.toList.findIdx? (· == c)=none:=by
   rw[List.findIdx?_eq_none_iff]
   intro x hx
   obtain⟨i,hi⟩:=List.mem_iff_getElem?.mp hx
   by_cases hc:x=c
   ·subst hc
    exact absurd ((at_ i).mpr hi) (h i)
   ·simpa using hc
  rw[this]
 ·rw[e]
  have h1:=(at_ i).mp h1
  have:z.cps.toList.findIdx? (· == c)=some i:=by
   rw[List.findIdx?_eq_some_iff_getElem]
   obtain⟨hi,hx⟩:=List.getElem?_eq_some_iff.mp h1
   refine⟨hi,by simpa using hx,fun j hj=>?_⟩
   have:=h2 j hj
   rw[at_]at this
   intro hc
   exact this (by rw[List.getElem?_eq_getElem (by omega)]; simpa using hc)
  rw[this]
theorem oneOf_eq{z:Str}{c:Nat}(h:M.oneOf z=some c):z=⟨#[c]⟩:=by
 obtain⟨cs⟩:=z
 unfold M.oneOf at h
 split at h
 ·rename_i d hd
  cases h
  have:cs=#[c]:=by
   apply Array.toList_inj.mp
   simpa using hd
  rw[this]
 ·cases h
end
end MS
end
section
namespace MS
open PySem PySem.Spec PyProof.Rows L2
open M (D Cell Store Sl)
section
variable {X:Cx}
section
variable {pins:List (Addr×Obj)}{σ:L2.St}{H:Hp}{s:Shared}{m:List Addr}
theorem ans_of(I:Inv X pins σ H s)(A:Around)(hu:A.units+9<cLine){d0:D}{x0:V}{u0:Value}(f0:M.flat 9 d0=true)(h0:IsD X.K m H d0 x0)(r0:RelV x0 u0):
  ∃ e:Value→Bool,∀ (ds:List D) (xs:List V) (its:List Value),M.flats 9 ds=true→IsDs X.K m H ds xs→Vals xs its→(∀ w∈its,SeqAt.EqAt A s w u0 (e w))∧its.any e=ds.any fun y=>M.eqT y d0:=by
 classical
 refine⟨fun w=>decide (∃ d x,M.flat 9 d=true∧IsD X.K m H d x∧RelV x w∧M.eqT d d0=true),fun ds=>?_⟩
 have key:∀ d x w,M.flat 9 d=true→IsD X.K m H d x→RelV x w→decide (∃ d x,M.flat 9 d=true∧IsD X.K m H d x∧RelV x w∧M.eqT d d0=true)=M.eqT d d0:=by
  intro d x w f i r
  cases q:M.eqT d d0 with
  |true=>exact decide_eq_true ⟨d,x,f,i,r,q⟩
  |false=>
   refine decide_eq_false ?_
   rintro⟨d',x',f',i',r',q'⟩
   have e1:=r.inj r'
   subst e1
   have e2:=isD_inj I 9 d d' x f f' i i'
   subst e2
   rw[q]at q'
   cases q'
 induction ds with
 |nil=>
  intro xs its _ ix r
  rw[ix.nil]at r
  cases r
  exact⟨fun w hw=>(by cases hw),rfl⟩
 |cons d ds ih=>
  intro xs its f ix r
  obtain⟨x,xr,rfl,q,t⟩:=ix.cons
  simp only[M.flats,Bool.and_eq_true]at f
  cases r with
  |@cons _ u _ us r1 r2=>
   obtain⟨a1,a2⟩:=ih xr us f.2 t r2
   refine⟨fun w hw=>?_,?_⟩
   ·rcases List.mem_cons.mp hw with z|z
    ·subst z
     show SeqAt.EqAt A s w u0 (decide _)
     rw[key d x w f.1 q r1]
     exact(eqAt_D I 9 A d d0 x x0 w u0 hu f.1 f0 q h0 r1 r0).1
    ·exact a1 w z
   ·rw[List.any_cons,List.any_cons,a2]
    congr 1
    exact key d x u f.1 q r1
end
theorem items_eq{pins:List (Addr×Obj)}{σ:L2.St}{H:Hp}{s:Shared}{m:List Addr}(I:Inv X pins σ H s)(A:Around)(n:Nat)(hu:A.units+n<cLine){ds es:List D}{xs ys:List V}{its its2:List Value}(f:M.flats n ds=true)(fe:M.flats n es=true)(ix:IsDs X.K m H ds xs)(iy:IsDs X.K m H es ys)(r1:Vals xs its)(r2:Vals ys its2)
  (j:Nat) (h1:j<its.toArray.size) (h2:j<its2.toArray.size):SeqAt.EqAt A s its.toArray[j] its2.toArray[j] (pairE ds es j):=by
 have l1:=ix.length
 have l2:=iy.length
 have l3:=r1.length
 have l4:=r2.length
 rw[List.size_toArray]at h1 h2
 have j1:j<ds.length:=by omega
 have j2:j<es.length:=by omega
 have g1:ds[j]?=some ds[j]:=by simp
 have g2:es[j]?=some es[j]:=by simp
 obtain⟨x1,k1,q1⟩:=ix.get g1
 obtain⟨x2,k2,q2⟩:=iy.get g2
 obtain⟨u1,w1,z1⟩:=r1.get k1
 obtain⟨u2,w2,z2⟩:=r2.get k2
 have this:=(eqAt_D I n A ds[j] es[j] x1 x2 u1 u2 hu (flats_get f g1) (flats_get fe g2) q1 q2 z1 z2).1
 have e1:its.toArray[j]=u1:=by
  have:its[j]?=some its[j]:=by simp
  rw[w1]at this
  simpa using (Option.some.inj this).symm
 have e2:its2.toArray[j]=u2:=by
  have:its2[j]?=some its2[j]:=by simp
  rw[w2]at this
  simpa using (Option.some.inj this).symm
 rw[e1,e2]
 have e3:pairE ds es j=M.eqT ds[j] es[j]:=by
  unfold pairE
  rw[g1,g2]
 rw[e3]
 exact this
theorem op_inD(hu:X.A.units+64<cLine):OpR X (compareOp .In) (rD X.K fun st a b=>(M.inD st a b).map fun k=>(.bl k,st)):=by
 intro pins s σ H x y v u Q I rx ry h
 refine h.el fun m st a b d st' R0 i1 i2 e q=>?_
 obtain⟨k,e1,e2⟩:=mapD e
 cases e2
 have hu1:X.A.in1.units+9<cLine:=by have hz:X.A.in1.units=X.A.units+1:=rfl; omega
 cases b with
 |tup ds=>
  simp only[M.inD]at e1
  split at e1
  ·rename_i hf
   cases e1
   rw[Bool.and_eq_true]at hf
   obtain⟨p,xs,its,rfl,hq,ix,r,pl⟩:=isD_tuple I i2
   cases ry
   obtain⟨ef,ha⟩:=ans_of I X.A.in1 hu1 hf.1 i1 rx
   obtain⟨h1,h2⟩:=ha ds xs its hf.2 ix r
   refine SeqAt.in_tupleAt ef pl (fun w hw=>h1 w (by simpa using hw)) ⟨.bl _,H,I,rfl,?_⟩
   rw[show its.toArray.any ef=its.any ef by simp,h2]
   exact q.here R0 (mkBl _)
  ·cases e1
 |loc l=>
  simp only[M.inD]at e1
  obtain⟨ds,e2,e1⟩:=bindO e1
  split at e1
  ·rename_i hf
   cases e1
   rw[Bool.and_eq_true]at hf
   obtain⟨p,xs,_,rfl,hq,ix⟩:=R0.seq e2 i2
   cases ry
   obtain⟨its,r,pl,_⟩:=I.list hq
   obtain⟨ef,ha⟩:=ans_of I X.A.in1 hu1 hf.1 i1 rx
   obtain⟨h1,h2⟩:=ha ds xs its hf.2 ix r
   refine SeqAt.in_listAt ef pl.isList (fun w hw=>h1 w (by simpa using hw)) ⟨.bl _,H,I,rfl,?_⟩
   rw[show its.toArray.any ef=its.any ef by simp,h2]
   exact q.here R0 (mkBl _)
  ·cases e1
 |lst l=>
  simp only[M.inD]at e1
  obtain⟨ds,e2,e1⟩:=bindO e1
  split at e1
  ·rename_i hf
   cases e1
   rw[Bool.and_eq_true]at hf
   obtain⟨p,xs,_,rfl,hq,ix⟩:=R0.seq e2 i2
   cases ry
   obtain⟨its,r,pl,_⟩:=I.list hq
   obtain⟨ef,ha⟩:=ans_of I X.A.in1 hu1 hf.1 i1 rx
   obtain⟨h1,h2⟩:=ha ds xs its hf.2 ix r
   refine SeqAt.in_listAt ef pl.isList (fun w hw=>h1 w (by simpa using hw)) ⟨.bl _,H,I,rfl,?_⟩
   rw[show its.toArray.any ef=its.any ef by simp,h2]
   exact q.here R0 (mkBl _)
  ·cases e1
 |str z=>
  simp only[M.inD]at e1
  cases a with
  |str y0=>
   obtain⟨c,e3,e4⟩:=mapD e1
   have hy:=oneOf_eq e3
   subst hy
   subst e4
   refine op_in_str pins s σ H x y v u Q I rx ry ⟨_,_,i1.str,i2.str,?_⟩
   rw[PySem.StrLaws.found_one]
   exact q.here R0 (mkBl _)
  |_=>cases e1
 |_=>simp[M.inD,M.seqAt]at e1
theorem op_notInD(hu:X.A.units+64<cLine):OpR X (compareOp .NotIn) (rD X.K fun st a b=>((M.inD st a b).map (!·)).map fun k=>(.bl k,st)):=by
 intro pins s σ H x y v u Q I rx ry h
 refine h.el fun m st a b d st' R0 i1 i2 e q=>?_
 obtain⟨k0,e0,e2⟩:=mapD e
 cases e2
 obtain⟨k,e1,e3⟩:=mapD e0
 subst e3
 have hu1:X.A.in1.units+9<cLine:=by have hz:X.A.in1.units=X.A.units+1:=rfl; omega
 cases b with
 |tup ds=>
  simp only[M.inD]at e1
  split at e1
  ·rename_i hf
   cases e1
   rw[Bool.and_eq_true]at hf
   obtain⟨p,xs,its,rfl,hq,ix,r,pl⟩:=isD_tuple I i2
   cases ry
   obtain⟨ef,ha⟩:=ans_of I X.A.in1 hu1 hf.1 i1 rx
   obtain⟨h1,h2⟩:=ha ds xs its hf.2 ix r
   refine SeqAt.notIn_tupleAt ef pl (fun w hw=>h1 w (by simpa using hw)) ⟨.bl _,H,I,rfl,?_⟩
   rw[show its.toArray.any ef=its.any ef by simp,h2]
   exact q.here R0 (mkBl _)
  ·cases e1
 |loc l=>
  simp only[M.inD]at e1
  obtain⟨ds,e2,e1⟩:=bindO e1
  split at e1
  ·rename_i hf
   cases e1
   rw[Bool.and_eq_true]at hf
   obtain⟨p,xs,_,rfl,hq,ix⟩:=R0.seq e2 i2
   cases ry
   obtain⟨its,r,pl,_⟩:=I.list hq
   obtain⟨ef,ha⟩:=ans_of I X.A.in1 hu1 hf.1 i1 rx
   obtain⟨h1,h2⟩:=ha ds xs its hf.2 ix r
   refine SeqAt.notIn_listAt ef pl.isList (fun w hw=>h1 w (by simpa using hw)) ⟨.bl _,H,I,rfl,?_⟩
   rw[show its.toArray.any ef=its.any ef by simp,h2]
   exact q.here R0 (mkBl _)
  ·cases e1
 |lst l=>
  simp only[M.inD]at e1
  obtain⟨ds,e2,e1⟩:=bindO e1
  split at e1
  ·rename_i hf
   cases e1
   rw[Bool.and_eq_true]at hf
   obtain⟨p,xs,_,rfl,hq,ix⟩:=R0.seq e2 i2
   cases ry
   obtain⟨its,r,pl,_⟩:=I.list hq
   obtain⟨ef,ha⟩:=ans_of I X.A.in1 hu1 hf.1 i1 rx
   obtain⟨h1,h2⟩:=ha ds xs its hf.2 ix r
   refine SeqAt.notIn_listAt ef pl.isList (fun w hw=>h1 w (by simpa using hw)) ⟨.bl _,H,I,rfl,?_⟩
   rw[show its.toArray.any ef=its.any ef by simp,h2]
   exact q.here R0 (mkBl _)
  ·cases e1
 |str z=>
  simp only[M.inD]at e1
  cases a with
  |str y0=>
   obtain⟨c,e3,e4⟩:=mapD e1
   have hy:=oneOf_eq e3
   subst hy
   subst e4
   refine op_notin_str pins s σ H x y v u Q I rx ry ⟨_,_,i1.str,i2.str,?_⟩
   rw[PySem.StrLaws.found_one]
   exact q.here R0 (mkBl _)
  |_=>cases e1
 |_=>simp[M.inD,M.seqAt]at e1
theorem op_eqD(hu:X.A.units+64<cLine):OpR X (compareOp .Eq) (rD X.K fun st a b=>(M.eqD st a b).map fun k=>(.bl k,st)):=by
 intro pins s σ H x y v u Q I rx ry h
 refine h.el fun m st a b d st' R0 i1 i2 e q=>?_
 obtain⟨k,e1,e2⟩:=mapD e
 cases e2
 have e1:M.eqD st a b=some k:=e1
 unfold M.eqD at e1
 split at e1
 ·rename_i ds es g1 g2
  split at e1
  ·rename_i hf
   cases e1
   rw[Bool.and_eq_true]at hf
   obtain⟨p,xs,_,rfl,hq,ix⟩:=R0.seq g1 i1
   obtain⟨p',ys,_,rfl,hq',iy⟩:=R0.seq g2 i2
   cases rx
   cases ry
   obtain⟨its,r1,pl,_⟩:=I.list hq
   obtain⟨its2,r2,pl2,_⟩:=I.list hq'
   have l1:=ix.length
   have l2:=iy.length
   have l3:=r1.length
   have l4:=r2.length
   by_cases hsz:its.toArray.size=its2.toArray.size
   ·refine SeqAt.RcAt.lists (e:=pairE ds es) pl.isList pl2.isList hsz (by omega) (fun j h1 h2=>?_) _ _ _ _ ⟨.bl _,H,I,rfl,?_⟩
    ·rw[List.size_toArray]at h1 h2
     have j1:j<ds.length:=by omega
     have j2:j<es.length:=by omega
     have g1:ds[j]?=some ds[j]:=by simp
     have g2:es[j]?=some es[j]:=by simp
     obtain⟨x1,k1,q1⟩:=ix.get g1
     obtain⟨x2,k2,q2⟩:=iy.get g2
     obtain⟨u1,w1,z1⟩:=r1.get k1
     obtain⟨u2,w2,z2⟩:=r2.get k2
     have this:=(eqAt_D I 9 X.A.in1 ds[j] es[j] x1 x2 u1 u2 (by have hz:X.A.in1.units=X.A.units+1:=rfl; omega) (flats_get hf.1 g1) (flats_get hf.2 g2) q1 q2 z1 z2).1
     have e1:its.toArray[j]=u1:=by
      have:its[j]?=some its[j]:=by simp
      rw[w1]at this
      simpa using (Option.some.inj this).symm
     have e2:its2.toArray[j]=u2:=by
      have:its2[j]?=some its2[j]:=by simp
      rw[w2]at this
      simpa using (Option.some.inj this).symm
     rw[e1,e2]
     have e3:pairE ds es j=M.eqT ds[j] es[j]:=by
      unfold pairE
      rw[g1,g2]
     rw[e3]
     exact this
    ·rw[List.size_toArray,List.size_toArray]at hsz
     have e5:(List.range its.toArray.size).all (pairE ds es)=M.eqTs ds es:=by
      rw[eqTs_same (by omega),List.size_toArray,← l3,← l1]
     rw[e5]
     exact q.here R0 (mkBl _)
   ·rw[List.size_toArray,List.size_toArray]at hsz
    have e5:M.eqTs ds es=false:=by
     rw[eqTs_pair]
     have:(ds.length==es.length)=false:=by simp; omega
     rw[this,Bool.and_false]
    rw[e5]at q
    refine SeqAt.RcAt.lists_lengths pl.isList pl2.isList (by simpa using hsz) (by omega) _ _ _ _ ⟨.bl _,H,I,rfl,q.here R0 (mkBl _)⟩
  ·cases e1
 ·split at e1
  ·rename_i hf
   cases e1
   rw[Bool.and_eq_true]at hf
   exact(eqAt_D I 9 X.A a b x y v u (by omega) hf.1 hf.2 i1 i2 rx ry).2 _ _ _ _ ⟨.bl _,H,I,rfl,q.here R0 (mkBl _)⟩
  ·cases e1
theorem neAt_D{pins:List (Addr×Obj)}{σ:L2.St}{H:Hp}{s:Shared}{m:List Addr}(I:Inv X pins σ H s)(A:Around)(d e:D)(x y:V)(u v:Value)(hu:A.units+10<cLine)(f:M.flat 9 d=true)(fe:M.flat 9 e=true)(hx:IsD X.K m H d x)(hy:IsD X.K m H e y)(rx:RelV x u)(ry:RelV y v):
  SeqAt.RcNeAt A s u v (!M.eqT d e):=by
 have hu0:A.units<cLine:=by omega
 cases d with
 |loc _=>simp[M.flat]at f
 |lst _=>simp[M.flat]at f
 |non=>
  cases hx.non; cases rx
  cases e with
  |loc _=>simp[M.flat]at fe
  |lst _=>simp[M.flat]at fe
  |tup es=>obtain⟨b,ys,its2,rfl,hq2,iy,r2,p2⟩:=isD_tuple I hy; cases ry; exact SeqAt.RcNeAt.none_tuple p2 hu0
  |non=>cases hy.non; cases ry; exact SeqAt.RcNeAt.none_none
  |bl b=>cases hy.bl; cases ry; exact SeqAt.RcNeAt.none_bool b
  |int b=>cases hy.int; obtain⟨t,rfl⟩:=ry; exact SeqAt.RcNeAt.none_int b t
  |str b=>cases hy.str; obtain⟨t,rfl⟩:=ry; exact SeqAt.RcNeAt.none_str b t
 |bl a=>
  cases hx.bl; cases rx
  cases e with
  |loc _=>simp[M.flat]at fe
  |lst _=>simp[M.flat]at fe
  |tup es=>obtain⟨b,ys,its2,rfl,hq2,iy,r2,p2⟩:=isD_tuple I hy; cases ry; exact SeqAt.RcNeAt.bool_tuple a p2 hu0
  |non=>cases hy.non; cases ry; exact SeqAt.RcNeAt.bool_none a
  |bl b=>cases hy.bl; cases ry; exact SeqAt.RcNeAt.bool_bool a b
  |int b=>cases hy.int; obtain⟨t,rfl⟩:=ry; exact SeqAt.RcNeAt.bool_int a b t
  |str b=>cases hy.str; obtain⟨t,rfl⟩:=ry; exact SeqAt.RcNeAt.bool_str a b t
 |int a=>
  cases hx.int; obtain⟨t',rfl⟩:=rx
  cases e with
  |loc _=>simp[M.flat]at fe
  |lst _=>simp[M.flat]at fe
  |tup es=>obtain⟨b,ys,its2,rfl,hq2,iy,r2,p2⟩:=isD_tuple I hy; cases ry; exact SeqAt.RcNeAt.int_tuple a t' p2 hu0
  |non=>cases hy.non; cases ry; exact SeqAt.RcNeAt.int_none a t'
  |bl b=>cases hy.bl; cases ry; exact SeqAt.RcNeAt.int_bool a t' b
  |int b=>cases hy.int; obtain⟨t,rfl⟩:=ry; exact SeqAt.RcNeAt.int_int a t' b t
  |str b=>cases hy.str; obtain⟨t,rfl⟩:=ry; exact SeqAt.RcNeAt.int_str a t' b t
 |str a=>
  cases hx.str; obtain⟨t',rfl⟩:=rx
  cases e with
  |loc _=>simp[M.flat]at fe
  |lst _=>simp[M.flat]at fe
  |tup es=>obtain⟨b,ys,its2,rfl,hq2,iy,r2,p2⟩:=isD_tuple I hy; cases ry; exact SeqAt.RcNeAt.str_tuple a t' p2 hu0
  |non=>cases hy.non; cases ry; exact SeqAt.RcNeAt.str_none a t'
  |bl b=>cases hy.bl; cases ry; exact SeqAt.RcNeAt.str_bool a t' b
  |int b=>cases hy.int; obtain⟨t,rfl⟩:=ry; exact SeqAt.RcNeAt.str_int a t' b t
  |str b=>cases hy.str; obtain⟨t,rfl⟩:=ry; exact SeqAt.RcNeAt.str_str a t' b t
 |tup ds=>
  obtain⟨a,xs,its,rfl,hq,ix,r1,p1⟩:=isD_tuple I hx
  cases rx
  cases e with
  |loc _=>simp[M.flat]at fe
  |lst _=>simp[M.flat]at fe
  |non=>cases hy.non; cases ry; exact SeqAt.RcNeAt.tuple_none p1 hu0
  |bl b=>cases hy.bl; cases ry; exact SeqAt.RcNeAt.tuple_bool b p1 hu0
  |int b=>cases hy.int; obtain⟨t,rfl⟩:=ry; exact SeqAt.RcNeAt.tuple_int b t p1 hu0
  |str b=>cases hy.str; obtain⟨t,rfl⟩:=ry; exact SeqAt.RcNeAt.tuple_str b t p1 hu0
  |tup es=>
   obtain⟨b,ys,its2,rfl,hq2,iy,r2,p2⟩:=isD_tuple I hy
   cases ry
   have l1:=ix.length
   have l2:=iy.length
   have l3:=r1.length
   have l4:=r2.length
   simp only[M.flat]at f fe
   have he:∀ j (h1:j<its.toArray.size) (h2:j<its2.toArray.size),SeqAt.EqAt A.in1 s its.toArray[j] its2.toArray[j] (pairE ds es j):=fun j h1 h2=>items_eq I A.in1 8 (by have hz:A.in1.units=A.units+1:=rfl; omega) f fe ix iy r1 r2 j h1 h2
   have:=SeqAt.RcNeAt.tuples p1 p2 hu0 he
   simp only[M.eqT]
   rw[eqTs_pair,l1,l2,l3,l4]
   simpa using this
theorem op_neD(hu:X.A.units+64<cLine):OpR X (compareOp .NotEq) (rD X.K fun st a b=>(M.neD st a b).map fun k=>(.bl k,st)):=by
 intro pins s σ H x y v u Q I rx ry h
 obtain⟨m,st,a,b,d,st',R0,i1,i2,e,q⟩:=h
 obtain⟨k0,e0,e2⟩:=mapD e
 cases e2
 obtain⟨k,e1,e3⟩:=mapD e0
 subst e3
 have e1:M.eqD st a b=some k:=e1
 unfold M.eqD at e1
 split at e1
 ·rename_i ds es g1 g2
  split at e1
  ·rename_i hf
   cases e1
   rw[Bool.and_eq_true]at hf
   obtain⟨p,xs,_,rfl,hq,ix⟩:=R0.seq g1 i1
   obtain⟨p',ys,_,rfl,hq',iy⟩:=R0.seq g2 i2
   cases rx
   cases ry
   obtain⟨its,r1,pl,_⟩:=I.list hq
   obtain⟨its2,r2,pl2,_⟩:=I.list hq'
   have l1:=ix.length
   have l2:=iy.length
   have l3:=r1.length
   have l4:=r2.length
   by_cases hsz:its.toArray.size=its2.toArray.size
   ·refine SeqAt.RcNeAt.lists (e:=pairE ds es) pl.isList pl2.isList hsz (by omega) (fun j h1 h2=>items_eq I X.A.in1 9 (by have hz:X.A.in1.units=X.A.units+1:=rfl; omega) hf.1 hf.2 ix iy r1 r2 j h1 h2) _ _ _ _ ⟨.bl _,H,I,rfl,?_⟩
    rw[List.size_toArray,List.size_toArray]at hsz
    have e5:(List.range its.toArray.size).all (pairE ds es)=M.eqTs ds es:=by
     rw[eqTs_same (by omega),List.size_toArray,← l3,← l1]
    rw[e5]
    exact q.here R0 (mkBl _)
   ·rw[List.size_toArray,List.size_toArray]at hsz
    have e5:M.eqTs ds es=false:=by
     rw[eqTs_pair]
     have:(ds.length==es.length)=false:=by simp; omega
     rw[this,Bool.and_false]
    rw[e5]at q
    refine SeqAt.RcNeAt.lists_lengths pl.isList pl2.isList (by simpa using hsz) (by omega) _ _ _ _ ⟨.bl _,H,I,rfl,q.here R0 (mkBl _)⟩
  ·cases e1
 ·split at e1
  ·rename_i hf
   cases e1
   rw[Bool.and_eq_true]at hf
   exact neAt_D I X.A a b x y v u (by omega) hf.1 hf.2 i1 i2 rx ry _ _ _ _ ⟨.bl _,H,I,rfl,q.here R0 (mkBl _)⟩
  ·cases e1
theorem isNon_of{K:PySem.W.Frag}{m:List Addr}{H:Hp}{d:D}{x:V}(h:IsD K m H d x):decide (x=.non)=M.isNon d:=by
 cases d with
 |non=>rw[h.non]; rfl
 |bl b=>rw[h.bl]; rfl
 |int b=>rw[h.int]; rfl
 |str b=>rw[h.str]; rfl
 |tup ds=>obtain⟨a,xs,rfl,_⟩:=h.tup; rfl
 |loc l=>obtain⟨a,_,rfl⟩:=h.loc; rfl
 |lst l=>obtain⟨a,xs,rfl,_⟩:=h.lst; rfl
theorem op_cmpD(hu:X.A.units+64<cLine)(op:CmpOp):OpR X (compareOp op) (rD X.K fun st a b=>(M.cmpD st op a b).map fun k=>(.bl k,st)):=by
 intro pins s σ H x y v u Q I rx ry h
 obtain⟨m,st,a,b,d,st',R0,i1,i2,e,q⟩:=h
 obtain⟨k,e1,e2⟩:=mapD e
 cases e2
 have e1:M.cmpD st op a b=some k:=e1
 unfold M.cmpD at e1
 split at e1
 ·cases e1
  exact op_lt pins s σ H x y v u Q I rx ry ⟨_,_,i1.int,i2.int,q.here R0 (mkBl _)⟩
 ·cases e1
  exact op_le pins s σ H x y v u Q I rx ry ⟨_,_,i1.int,i2.int,q.here R0 (mkBl _)⟩
 ·cases e1
  exact op_gt pins s σ H x y v u Q I rx ry ⟨_,_,i1.int,i2.int,q.here R0 (mkBl _)⟩
 ·cases e1
  exact op_ge pins s σ H x y v u Q I rx ry ⟨_,_,i1.int,i2.int,q.here R0 (mkBl _)⟩
 ·exact op_eqD hu pins s σ H x y v u Q I rx ry ⟨m,st,a,b,_,_,R0,i1,i2,by dsimp only; rw[e1]; rfl,q⟩
 ·exact op_neD hu pins s σ H x y v u Q I rx ry ⟨m,st,a,b,_,_,R0,i1,i2,by dsimp only; rw[e1]; rfl,q⟩
 ·cases e1
  refine op_isN pins s σ H x y v u Q I rx ry ⟨i2.non,?_⟩
  rw[isNon_of i1]
  exact q.here R0 (mkBl _)
 ·cases e1
  refine op_notN pins s σ H x y v u Q I rx ry ⟨i2.non,?_⟩
  rw[isNon_of i1]
  exact q.here R0 (mkBl _)
 ·exact op_inD hu pins s σ H x y v u Q I rx ry ⟨m,st,a,b,_,_,R0,i1,i2,by dsimp only; rw[e1]; rfl,q⟩
 ·exact op_notInD hu pins s σ H x y v u Q I rx ry ⟨m,st,a,b,_,_,R0,i1,i2,by dsimp only; rw[e1]; rfl,q⟩
 ·cases e1
theorem truV_of{K:PySem.W.Frag}{m:List Addr}{st:Store}{H:Hp}{d:D}{x:V}{k:Bool}(R0:Rel K m st H)(h:IsD K m H d x)(e:M.truth st d=some k):TruV K x H k:=by
 cases d with
 |non=>rw[h.non]; simp only[M.truth]at e; exact(Option.some.inj e).symm
 |bl b=>rw[h.bl]; simp only[M.truth]at e; exact(Option.some.inj e).symm
 |int b=>rw[h.int]; simp only[M.truth]at e; exact(Option.some.inj e).symm
 |str b=>
  rw[h.str]
  simp only[M.truth]at e
  split at e
  ·cases e
  ·have l3:=lim_eq
   exact⟨by omega,(Option.some.inj e).symm⟩
 |tup ds=>
  obtain⟨a,xs,rfl,hq,ix⟩:=h.tup
  simp only[M.truth]at e
  refine .inr (.inl ⟨xs,hq,?_⟩)
  have:=ix.length
  cases e
  cases ds<;>cases xs<;>simp_all
 |loc l=>
  simp only[M.truth]at e
  obtain⟨ds,e1,e2⟩:=mapD e
  obtain⟨a,xs,_,rfl,hq,ix⟩:=R0.seq e1 h
  refine .inl ⟨xs,hq,?_⟩
  have:=ix.length
  subst e2
  cases ds<;>cases xs<;>simp_all
 |lst l=>
  simp only[M.truth]at e
  obtain⟨ds,e1,e2⟩:=mapD e
  obtain⟨a,xs,_,rfl,hq,ix⟩:=R0.seq e1 h
  refine .inl ⟨xs,hq,?_⟩
  have:=ix.length
  subst e2
  cases ds<;>cases xs<;>simp_all
theorem atI_of{K:PySem.W.Frag}{m:List Addr}{H:Hp}{ds:List D}{xs:List V}{i:Int}{d:D}(ix:IsDs K m H ds xs)(e:M.atI ds i=some d):∃ x,L2.atI xs i=some x∧IsD K m H d x:=by
 unfold M.atI at e
 obtain⟨j,e1,e2⟩:=bindO e
 obtain⟨x,e3,q⟩:=ix.get e2
 refine⟨x,?_,q⟩
 unfold L2.atI
 have e4:L2.ixN xs.length i=some j:=by rw[← ix.length]; exact e1
 rw[e4]
 exact e3
theorem ix_D:IxR X (rD X.K fun st a b=>(M.idxD st a b).map fun d=>(d,st)):=by
 intro value slice pins s σ H x y v u Q I rx ry h hs
 obtain⟨m,st,a,b,d,st',R0,i1,i2,e,q⟩:=h
 obtain⟨k,e1,e2⟩:=mapD e
 cases e2
 have e1:M.idxD st a b=some d:=e1
 unfold M.idxD at e1
 split at e1
 ·obtain⟨p,xs,rfl,hq,ix⟩:=i1.tup
  obtain⟨w,e3,iw⟩:=atI_of ix e1
  exact ix_tup value slice pins s σ H _ _ v u Q I rx ry ⟨p,xs,_,w,rfl,i2.int,hq,e3,q.here R0 iw⟩ hs
 ·split at e1
  ·cases e1
  ·obtain⟨c,e3,e4⟩:=mapD e1
   subst e4
   have l3:=lim_eq
   exact ix_str value slice pins s σ H _ _ v u Q I rx ry ⟨_,_,c,i1.str,i2.int,by omega,e3,q.here R0 (mkStr _)⟩ hs
 ·obtain⟨ds,e2,e1⟩:=bindO e1
  obtain⟨p,xs,_,rfl,hq,ix⟩:=R0.seq e2 i1
  obtain⟨w,e3,iw⟩:=atI_of ix e1
  exact ix_list value slice pins s σ H _ _ v u Q I rx ry ⟨p,xs,_,w,rfl,i2.int,hq,e3,q.here R0 iw⟩ hs
 ·cases e1
theorem mt_appendD:MtM X "list.append" (fun x xs H Q=>∃ m st a ds d st',Rel X.K m st H∧IsD X.K m H a x∧IsDs X.K m H ds xs∧M.mAppend st a ds=some (d,st')∧Post X.K m H d st' Q):=by
 intro pins s σ H x xs v us Q I rx rs h
 obtain⟨m,st,a,ds,d,st',R0,i1,i2,e,q⟩:=h
 unfold M.mAppend at e
 split at e
 ·obtain⟨ds0,e1,e⟩:=bindO e
  split at e
  ·rename_i hl
   cases e
   obtain⟨p,ys,hm,rfl,hp,ix,hs⟩:=R0.wlist e1 i1
   obtain⟨y,rfl,iy⟩:=i2.one
   have l1:=ix.length
   have l2:=lim_eq
   refine mt_append pins s σ H _ _ v us Q I rx rs ⟨p,ys,y,rfl,rfl,hp,by omega,?_⟩
   exact q _ m _ (Sub.refl m) (Tr.put hp) (R0.put hs hm hp (ix.append (mkCons iy mkNil))) mkNon
  ·cases e
 ·cases e
def rSlD(K:PySem.W.Frag):V→Option Int→Option Int→Hp→VK→Prop:=fun x lo hi H Q=>∃ m st a d st',Rel K m st H∧IsD K m H a x∧M.sliD st a lo hi=some (d,st')∧Post K m H d st' Q
theorem _root_.MS.IsDs.take{K:PySem.W.Frag}{m:List Addr}{H:Hp}:∀ {ds:List D}{xs:List V}(n:Nat),IsDs K m H ds xs→IsDs K m H (ds.take n) (xs.take n)
 |_,_,0,_=>by simp only[List.take_zero]; exact mkNil
 |[],_,n+1,h=>by rw[h.nil]; simp only[List.take_nil]; exact mkNil
 |d::ds,_,n+1,h=>by
  obtain⟨x,r,rfl,q,t⟩:=h.cons
  simp only[List.take_succ_cons]
  exact mkCons q (IsDs.take n t)
theorem _root_.MS.IsDs.drop{K:PySem.W.Frag}{m:List Addr}{H:Hp}:∀ {ds:List D}{xs:List V}(n:Nat),IsDs K m H ds xs→IsDs K m H (ds.drop n) (xs.drop n)
 |_,_,0,h=>by simp only[List.drop_zero]; exact h
 |[],_,n+1,h=>by rw[h.nil]; simp only[List.drop_nil]; exact mkNil
 |d::ds,_,n+1,h=>by
  obtain⟨x,r,rfl,q,t⟩:=h.cons
  simp only[List.drop_succ_cons]
  exact IsDs.drop n t
theorem cutIx_eq(n d:Nat)(o:Option Int):M.cutIx n d o=HT.sIx n d o:=by
 cases o<;>rfl
theorem cut_of{K:PySem.W.Frag}{m:List Addr}{H:Hp}{ds:List D}{xs:List V}(h:IsDs K m H ds xs)(lo hi:Option Int):IsDs K m H (M.cut ds lo hi) (cutV xs lo hi):=by
 unfold M.cut cutV
 rw[cutIx_eq,cutIx_eq,h.length]
 exact(h.drop _).take _
theorem sl_D:SlR X (rSlD X.K):=by
 intro pins s σ H x v vl vu lo hi sl Q I rx hs pl pu h
 obtain⟨m,st,a,d,st',R0,i1,e,q⟩:=h
 unfold M.sliD at e
 split at e
 ·cases e
  obtain⟨p,xs,rfl,hx,ix⟩:=i1.tup
  have ic:=cut_of ix lo hi
  by_cases hw:HT.sIx xs.length 0 lo=0∧HT.sIx xs.length xs.length hi=xs.length
  ·cases rx
   obtain⟨its,r,ht,hz⟩:=I.tuple hx
   refine⟨"tuple",_,PyProof.Rows.slot_tuple_getitem.lookup,ht.typeIs,?_⟩
   have hlen:its.toArray.size=xs.length:=by rw[List.size_toArray]; exact r.length.symm
   refine getItem_tuple_whole ht hs pl pu (by rw[hlen]; exact hw) ?_
   refine⟨.ref p,H,I,rfl,q.here R0 (mkTup hx ?_)⟩
   have e1:cutV xs lo hi=xs:=by
    unfold cutV
    rw[hw.1,hw.2]
    simp
   rw[e1]at ic
   exact ic
  ·refine sl_tup pins s σ H _ v vl vu lo hi sl Q I rx hs pl pu ⟨p,xs,rfl,hx,hw,fun p' hp=>?_⟩
   have sm:=same_new (o:=.tup (cutV xs lo hi)) hp
   exact q _ m _ (Sub.refl m) (Tr.of_same sm) (R0.same sm) (mkTup (SqT.of upd_same) (isDs_mono (Sub.refl m) (Tr.of_same sm) _ _ ic))
 ·split at e
  ·cases e
  ·rename_i hz
   cases e
   have l2:=lim_eq
   exact sl_text pins s σ H _ v vl vu lo hi sl Q I rx hs pl pu ⟨_,i1.str,by omega,q.here R0 (mkStr _)⟩
 ·obtain⟨ds,e1,e2⟩:=mapD e
  cases e2
  obtain⟨p,xs,_,rfl,hq,ix⟩:=R0.seq e1 i1
  refine sl_list pins s σ H _ v vl vu lo hi sl Q I rx hs pl pu ⟨p,xs,rfl,hq,fun l hl=>?_⟩
  exact q _ (m++[l]) _ (Sub.app m [l]) (Tr.of_same (same_new hl)) (R0.new hl (cut_of ix lo hi)) R0.newLoc
theorem isDs_rev{K:PySem.W.Frag}{m:List Addr}{H:Hp}:∀ {ds:List D}{xs:List V},IsDs K m H ds xs→IsDs K m H ds.reverse xs.reverse
 |[],xs,h=>by rw[h.nil]; exact mkNil
 |d::ds,xs,h=>by
  obtain⟨x,r,rfl,h1,h2⟩:=h.cons
  rw[List.reverse_cons,List.reverse_cons]
  exact(isDs_rev h2).append (mkCons h1 mkNil)
theorem pe_rev{e:Expr}{te:TE}{c2:Expr}{p2 pos:Pos}(he:PE X e te)(hm:PE X c2 fun _ H Q=>Q (.int (-1)) H):PE X (.Subscript e (.Slice none none (some c2) p2) pos) (fun σ H Q=>te σ H fun x H1=>∃ a xs,x=.ref a∧SqL X.K H1 a xs∧∀ p,H1 p=none→Q (.ref p) (upd H1 p (.lst xs.reverse))):=by
 intro pins s σ H Q I h
 refine Subscript_ (thn (he pins s σ H _ I h) fun v s1 ⟨x,H1,I1,r1,q1⟩=>?_)
 obtain⟨a,xs,rfl,hx,q⟩:=q1
 cases r1
 refine wpAny_Slice ?_
 rw[evalPart_none]
 refine wpAny_pure (wpAny_pure ?_)
 rw[evalPart_some]
 refine thn (hm pins s1 σ H1 (fun x H2=>x=.int (-1)∧H2=H1) I1 ⟨rfl,rfl⟩) fun u s2 ⟨y,H2,I2,r2,e1,e2⟩=>?_
 subst e1 e2
 obtain⟨t,rfl⟩:=r2
 obtain⟨its,r,ht,hz⟩:=I2.list hx
 have I4:Inv X pins σ H2 { s2 with heap:=s2.heap.push { cls:=.type "slice",data:=.fields #[.none,.none,.int (-1) t] } }:=I2.kept (t':=s2.toks) fun b ob q=>Heap.get?_push_of_some _ q
 have hl:=r.length
 have ht':=ht.isList.push { cls:=.type "slice",data:=.fields #[.none,.none,.int (-1) t] }
 show wpAny (model X.prog X.w) X.A (subscriptTail e (.Slice none none (some c2) p2) (.ref a) (.ref s2.heap.objs.size)) (EP X pins σ Q) X.xe { s2 with heap:=s2.heap.push { cls:=.type "slice",data:=.fields #[.none,.none,.int (-1) t] } }
 refine tail_any (ops:=[.ref a,.ref s2.heap.objs.size]) ht'.typeIs slot_list_getitem.lookup ?_ (by with_unfolding_all rfl)
 refine wpAny_getItem_list_slice ht' (Heap.IsSliceOf.new ..) .none .none (.int (-1) t) (by simp) ?_ (by rw[List.size_toArray]<;>omega)
 rw[PySem.W.krv_pick]
 refine⟨.ref (s2.heap.push { cls:=.type "slice",data:=.fields #[.none,.none,.int (-1) t] }).objs.size,_,I4.laid (t':=s2.toks) (o:=.lst xs.reverse) (fun b ob q=>Heap.get?_push_of_some _ q) (Nat.le_refl _) ?_,rfl,q _ (I4.hok.fresh (Nat.le_refl _))⟩
 exact⟨by rw[List.length_reverse]; exact hz,_,0,r.reverse,Heap.get?_push_size _ rfl⟩
theorem call_lenD:CallR X (.builtin "len") (rC X.K M.bLen):=by
 intro pins s σ H xs us Q I r h
 refine h.el fun m st ds d st' R0 ix e q=>?_
 unfold M.bLen at e
 split at e
 ·cases e
  obtain⟨x,rfl,i⟩:=ix.one
  obtain⟨p,ys,rfl,hq,iy⟩:=i.tup
  refine call_len_seq pins s σ H _ us Q I r ⟨p,ys,rfl,.inr hq,?_⟩
  rw[← iy.length]
  exact q.here R0 (mkInt _)
 ·split at e
  ·cases e
  ·cases e
   obtain⟨x,rfl,i⟩:=ix.one
   have l3:=lim_eq
   cases i.str
   exact call_len_str pins s σ H _ us Q I r ⟨_,rfl,by omega,q.here R0 (mkInt _)⟩
 ·obtain⟨ds',e1,e2⟩:=mapD e
  cases e2
  obtain⟨x,rfl,i⟩:=ix.one
  obtain⟨p,ys,_,rfl,hq,iy⟩:=R0.seq e1 i
  refine call_len_seq pins s σ H _ us Q I r ⟨p,ys,rfl,.inl hq,?_⟩
  rw[← iy.length]
  exact q.here R0 (mkInt _)
 ·cases e
theorem call_tupleD:CallR X (.type "tuple") (rC X.K M.bTuple):=by
 intro pins s σ H xs us Q I r h
 refine h.el fun m st ds d st' R0 ix e q=>?_
 unfold M.bTuple at e
 split at e
 ·cases e
  obtain⟨x,rfl,i⟩:=ix.one
  obtain⟨p,ys,rfl,hq,iy⟩:=i.tup
  exact call_tuple_of pins s σ H _ us Q I r ⟨p,ys,rfl,.inr ⟨hq,q.here R0 (mkTup hq iy)⟩⟩
 ·obtain⟨ds',e1,e2⟩:=mapD e
  cases e2
  obtain⟨x,rfl,i⟩:=ix.one
  obtain⟨p,ys,_,rfl,hq,iy⟩:=R0.seq e1 i
  refine call_tuple_of pins s σ H _ us Q I r ⟨p,ys,rfl,.inl ⟨hq,fun l hl=>?_⟩⟩
  have sm:=same_new (o:=.tup ys) hl
  exact q _ m _ (Sub.refl m) (Tr.of_same sm) (R0.same sm) (mkTup (SqT.of upd_same) (isDs_mono (Sub.refl m) (Tr.of_same sm) _ _ iy))
 ·cases e
theorem bools_of{K:PySem.W.Frag}{m:List Addr}{H:Hp}:∀ {ds:List D}{xs:List V}{its:List Value}{bs:List Bool},M.asBools ds=some bs→IsDs K m H ds xs→Vals xs its→LSm.BoolsAre its bs
 |[],_,_,_,e,ix,r=>by
  rw[ix.nil]at r
  cases r
  cases e
  exact .nil
 |d::ds,_,_,_,e,ix,r=>by
  obtain⟨x,xr,rfl,q,t⟩:=ix.cons
  cases d with
  |bl b=>
   simp only[M.asBools]at e
   obtain⟨bs',e1,e2⟩:=mapD e
   subst e2
   cases q.bl
   cases r with
   |cons r1 r2=>
    cases r1
    exact .cons b (bools_of e1 t r2)
  |_=>simp[M.asBools]at e
theorem call_allD(hc:X.calm=true):CallR X (.builtin "all") (rC X.K M.bAll):=by
 intro pins s σ H xs us Q I r h
 refine h.el fun m st ds d st' R0 ix e q=>?_
 unfold M.bAll at e
 split at e
 ·obtain⟨ds',e1,e⟩:=bindO e
  obtain⟨bs,e2,e3⟩:=mapD e
  cases e3
  obtain⟨x,rfl,i⟩:=ix.one
  obtain⟨p,ys,_,rfl,hq,iy⟩:=R0.seq e1 i
  obtain⟨u,rfl,ru⟩:=vals1 r
  cases ru
  obtain⟨its,rv,pl,_⟩:=I.list hq
  have hb:=bools_of e2 iy rv
  have hl:=pl.isList
  have hlt:p<s.heap.objs.size:=by obtain⟨_,e,_⟩:=id hl; exact Heap.lt_size e
  refine call_all_walk (wpAny_pyIter_list hl ?_)
  refine⟨s.heap.objs.size,[s.heap.objs.size,p],[s.heap.objs.size],its.toArray.size,_,_,fun i=>(bs[i]?).getD true,rfl,Walks.list (A:=X.A.in1) (I.ok.hd hc) _ p (Nat.ne_of_lt hlt) its.toArray,
   ⟨⟨_,Heap.get?_push_size _ rfl,rfl,rfl⟩,hl.push _⟩,fun i v s' Q' E' hP hQ=>?_,fun h' tk hk=>?_⟩
  ·obtain⟨b,e,rfl⟩:=hb.get i v (by simpa using hP)
   simp only[e,Option.getD_some]at hQ
   exact wpAny_truthy_bool hQ
  ·have e:((List.range its.toArray.size).all fun i=>(bs[i]?).getD true)=bs.all id:=by
    rw[List.size_toArray,hb.length]; exact LSm.range_all bs
   rw[e]
   exact⟨.bl _,H,I.kept (LSm.kept_iter hk),rfl,q.here R0 (mkBl _)⟩
 ·cases e
theorem range_any(bs:List Bool):((List.range bs.length).any fun i=>(bs[i]?).getD false)=bs.any id:=by
 rw[Bool.eq_iff_iff,List.any_eq_true,List.any_eq_true]
 constructor
 ·rintro⟨i,hi,h⟩
  have hi:=List.mem_range.mp hi
  rw[List.getElem?_eq_getElem hi]at h
  exact⟨bs[i],List.getElem_mem hi,h⟩
 ·rintro⟨b,hb,h⟩
  obtain⟨i,hi,rfl⟩:=List.getElem_of_mem hb
  exact⟨i,List.mem_range.mpr hi,by rw[List.getElem?_eq_getElem hi]; exact h⟩
theorem call_anyD(hc:X.calm=true):CallR X (.builtin "any") (rC X.K M.bAny):=by
 intro pins s σ H xs us Q I r h
 refine h.el fun m st ds d st' R0 ix e q=>?_
 unfold M.bAny at e
 split at e
 ·obtain⟨ds',e1,e⟩:=bindO e
  obtain⟨bs,e2,e3⟩:=mapD e
  cases e3
  obtain⟨x,rfl,i⟩:=ix.one
  obtain⟨p,ys,_,rfl,hq,iy⟩:=R0.seq e1 i
  obtain⟨u,rfl,ru⟩:=vals1 r
  cases ru
  obtain⟨its,rv,pl,_⟩:=I.list hq
  have hb:=bools_of e2 iy rv
  have hl:=pl.isList
  have hlt:p<s.heap.objs.size:=by obtain⟨_,e,_⟩:=id hl; exact Heap.lt_size e
  refine call_any_walk (wpAny_pyIter_list hl ?_)
  refine⟨s.heap.objs.size,[s.heap.objs.size,p],[s.heap.objs.size],its.toArray.size,_,_,fun i=>(bs[i]?).getD false,rfl,Walks.list (A:=X.A.in1) (I.ok.hd hc) _ p (Nat.ne_of_lt hlt) its.toArray,
   ⟨⟨_,Heap.get?_push_size _ rfl,rfl,rfl⟩,hl.push _⟩,fun i v s' Q' E' hP hQ=>?_,fun h' tk hk=>?_⟩
  ·obtain⟨b,e,rfl⟩:=hb.get i v (by simpa using hP)
   simp only[e,Option.getD_some]at hQ
   exact wpAny_truthy_bool hQ
  ·have e:((List.range its.toArray.size).any fun i=>(bs[i]?).getD false)=bs.any id:=by
    rw[List.size_toArray,hb.length]; exact range_any bs
   rw[e]
   exact⟨.bl _,H,I.kept (LSm.kept_iter hk),rfl,q.here R0 (mkBl _)⟩
 ·cases e
theorem insInt_perm(x:Int):∀ l:List Int,(M.insInt x l).Perm (x::l)
 |[]=>.refl _
 |y::r=>by
  unfold M.insInt
  split
  ·exact .refl _
  ·exact((insInt_perm x r).cons y).trans (.swap x y r)
theorem isDs_ints{K:PySem.W.Frag}{m:List Addr}{H:Hp}:∀ (ns:List Int),IsDs K m H (ns.map D.int) (ns.map V.int)
 |[]=>mkNil
 |n::r=>mkCons (mkInt n) (isDs_ints r)
theorem kit_one(K:PySem.W.Frag)(n t:M.Ty)(ht:t≠.non):PySem.W.kitOne K (.type n.name) (.type t.name)=some (M.tyIs t n):=by
 cases n<;>cases t<;>first
  |exact absurd rfl ht
  |rfl
  |decide +kernel
theorem kit_any(K:PySem.W.Frag)(n:M.Ty):∀ ts:List M.Ty,(∀ t∈ts,t≠.non)→PySem.W.kitAny K (.type n.name) (ts.map fun t=>Value.type t.name)=some (ts.any fun t=>M.tyIs t n)
 |[],_=>rfl
 |t::ts,h=>by
  rw[List.map_cons,List.any_cons]
  unfold PySem.W.kitAny
  rw[kit_one K n t (h t List.mem_cons_self)]
  cases M.tyIs t n with
  |true=>rfl
  |false=>exact kit_any K n ts fun t' ht=>h t' (List.mem_cons_of_mem _ ht)
theorem kit_of{pins:List (Addr×Obj)}{σ:L2.St}{H:Hp}{s:Shared}{m:List Addr}{st:Store}{d:D}{x:V}{u:Value}{n:M.Ty}(I:Inv X pins σ H s)(R0:Rel X.K m st H)(h:IsD X.K m H d x)(r:RelV x u)(e:M.tyName st d=some n):
  ∃ Hf:Heap→Prop,PySem.W.KitX X.K u (.type n.name) Hf∧Hf s.heap∧u≠.builtin "__main__.__loader__#opaque":=by
 cases d with
 |non=>cases h.non; cases r; cases e; exact⟨_,PySem.W.kitx_none,True.intro,fun z=>nomatch z⟩
 |bl b=>cases h.bl; cases r; cases e; exact⟨_,PySem.W.kitx_bool,True.intro,fun z=>nomatch z⟩
 |int b=>cases h.int; obtain⟨t,rfl⟩:=r; cases e; exact⟨_,PySem.W.kitx_int,True.intro,fun z=>nomatch z⟩
 |str b=>cases h.str; obtain⟨t,rfl⟩:=r; cases e; exact⟨_,PySem.W.kitx_str,True.intro,fun z=>nomatch z⟩
 |tup ds=>
  obtain⟨a,xs,its,rfl,hq,ix,r1,p1⟩:=isD_tuple I h
  cases r
  cases e
  obtain⟨o,h1,h2,_⟩:=p1
  exact⟨_,PySem.W.kitx_tuple,⟨o,h1,h2⟩,fun z=>nomatch z⟩
 |loc l=>
  simp only[M.tyName]at e
  obtain⟨ds,e1,e2⟩:=mapD e
  subst e2
  obtain⟨a,xs,_,rfl,hq,ix⟩:=R0.seq e1 h
  cases r
  obtain⟨its,rv,pl,_⟩:=I.list hq
  obtain⟨o,h1,h2,_⟩:=pl.isList
  exact⟨_,PySem.W.kitx_list,⟨o,h1,h2⟩,fun z=>nomatch z⟩
 |lst l=>
  simp only[M.tyName]at e
  obtain⟨ds,e1,e2⟩:=mapD e
  subst e2
  obtain⟨a,xs,_,rfl,hq,ix⟩:=R0.seq e1 h
  cases r
  obtain⟨its,rv,pl,_⟩:=I.list hq
  obtain⟨o,h1,h2,_⟩:=pl.isList
  exact⟨_,PySem.W.kitx_list,⟨o,h1,h2⟩,fun z=>nomatch z⟩
def rIsi1(K:PySem.W.Frag)(t:M.Ty):List V→Hp→VK→Prop:=fun xs H Q=>∃ m st d n x,xs=[x,.ty t.name]∧Rel K m st H∧IsD K m H d x∧M.tyName st d=some n∧Q (.bl (M.tyIs t n)) H
theorem call_isi1(t:M.Ty)(ht:t≠.non):CallR X (.builtin "isinstance") (rIsi1 X.K t):=by
 intro pins s σ H xs us Q I r h
 obtain⟨m,st,d,n,x,rfl,R0,i,e,q⟩:=h
 obtain⟨u,w,rfl,ru,rw'⟩:=vals2 r
 cases rw'
 obtain⟨Hf,Z,p,hx⟩:=kit_of I R0 i ru e
 exact PySem.W.kia_one Z I.kIn p (kit_one X.K n t ht) hx fun tk=>⟨.bl _,H,I.tok tk,rfl,q⟩
def rIsiN(K:PySem.W.Frag)(ts:List M.Ty):List V→Hp→VK→Prop:=fun xs H Q=>∃ m st d n x p,xs=[x,.ref p]∧H p=some (.tup (ts.map fun t=>V.ty t.name))∧Rel K m st H∧IsD K m H d x∧M.tyName st d=some n∧Q (.bl (ts.any fun t=>M.tyIs t n)) H
theorem vals_tys:∀ {ts:List M.Ty}{us:List Value},Vals (ts.map fun t=>V.ty t.name) us→us=ts.map fun t=>Value.type t.name
 |[],_,.nil=>rfl
 |t::ts,_,.cons r q=>by
  cases r
  rw[vals_tys q]
  rfl
theorem call_isiN(ts:List M.Ty)(ht:∀ t∈ts,t≠.non):CallR X (.builtin "isinstance") (rIsiN X.K ts):=by
 intro pins s σ H xs us Q I r h
 obtain⟨m,st,d,n,x,p,rfl,hp,R0,i,e,q⟩:=h
 obtain⟨u,w,rfl,ru,rw'⟩:=vals2 r
 cases rw'
 obtain⟨Hf,Z,pz,hx⟩:=kit_of I R0 i ru e
 obtain⟨_,its,rv,⟨cls,dd,data,sl⟩,h1,h2,nn,h3⟩:=I.hok p _ hp
 have e1:=vals_tys rv
 subst e1
 simp only at h2 h3
 subst h2 h3
 exact PySem.W.kia_tup Z I.kIn pz h1 (kit_any X.K n ts ht) hx fun tk=>⟨.bl _,H,I.tok tk,rfl,q⟩
end
end MS
end
section
namespace MS
open PySem PySem.Spec PyProof.Rows L2
noncomputable def closL(cells:List (Str×Addr)):List (Str×NameKind)→List (Str×Addr)→List (Str×Addr)
 |[],acc=>acc
 |(n,k)::r,acc=>closL cells r (if k==.free then(match cells.lookup n with|some a=>(n,a)::acc|none=>acc) else acc)
theorem clos_loop{env:Env}:∀ (names:List (Str×NameKind)) (acc:List (Str×Addr)),(∀ x∈names,x.2=.free→∃ c,env.cells.lookup x.1=some c)→
  (forIn names acc fun x r=>match x,r with
   |(name,kind),cs=>if (kind==.free)=true then do let a ← cellOf env name; pure (ForInStep.yield ((name,a)::cs)) else pure (ForInStep.yield cs):Sem (List (Str×Addr)))=pure (closL env.cells names acc):=by
 intro names
 induction names with
 |nil=>intro acc _; rfl
 |cons x r ih=>
  intro acc h
  obtain⟨n,k⟩:=x
  rw[List.forIn_cons]
  have hr:=fun acc=>ih acc fun y hy=>h y (List.mem_cons_of_mem _ hy)
  by_cases hk:k=.free
  ·subst hk
   obtain⟨c,hc⟩:=h (n,.free) List.mem_cons_self rfl
   simp only[beq_self_eq_true,if_true,cellOf,hc]
   show(do let r_1 ← (do let a ← (pure c:Sem Addr); pure (ForInStep.yield ((n,a)::acc))); match r_1 with|.done b=>pure b|.yield b=>_)=_
   simp only[pure_bind]
   refine(hr ((n,c)::acc)).trans ?_
   have hc':env.cells.lookup n=some c:=hc
   simp[closL,hc']
  ·have hb:(k==NameKind.free)=false:=by simpa using hk
   simp only[hb,Bool.false_eq_true,if_false,pure_bind]
   refine(hr acc).trans ?_
   simp[closL,hb]
theorem closureFor_of{scope:Scope}{env:Env}(h:∀ x∈scope.names,x.2=.free→∃ c,env.cells.lookup x.1=some c):closureFor scope env=pure (closL env.cells scope.names []):=by
 unfold closureFor
 have:=clos_loop (env:=env) scope.names [] h
 simp only[this]
 rfl
theorem closL_in{cells:List (Str×Addr)}{x:Str}{c:Addr}(hc:cells.lookup x=some c):∀ (names:List (Str×NameKind)) (acc:List (Str×Addr)),((x,NameKind.free)∈names∨acc.lookup x=some c)→(closL cells names acc).lookup x=some c
 |[],acc,h=>by
  rcases h with h|h
  ·cases h
  ·exact h
 |(n,k)::r,acc,h=>by
  unfold closL
  refine closL_in hc r _ ?_
  by_cases hk:k=.free
  ·subst hk
   simp only[beq_self_eq_true,if_true]
   by_cases hn:n=x
   ·subst hn
    rw[hc]
    exact .inr (by simp)
   ·rcases h with h|h
    ·rcases List.mem_cons.mp h with e|e
     ·cases e; exact absurd rfl hn
     ·exact .inl e
    ·refine .inr ?_
     split
     ·have:(x==n)=false:=by simpa using Ne.symm hn
      rw[List.lookup_cons,this]; exact h
     ·exact h
  ·have hb:(k==NameKind.free)=false:=by simpa using hk
   rw[hb,if_neg Bool.false_ne_true]
   rcases h with h|h
   ·rcases List.mem_cons.mp h with e|e
    ·cases e; exact absurd rfl hk
    ·exact .inl e
   ·exact .inr h
theorem closL_out{cells:List (Str×Addr)}:∀ (names:List (Str×NameKind)) (acc:List (Str×Addr)),(∀ x c,acc.lookup x=some c→cells.lookup x=some c)→∀ x c,(closL cells names acc).lookup x=some c→cells.lookup x=some c
 |[],acc,h,x,c,e=>h x c e
 |(n,k)::r,acc,h,x,c,e=>by
  unfold closL at e
  refine closL_out r _ ?_ x c e
  intro y d q
  by_cases hk:(k==NameKind.free)=true
  ·rw[if_pos hk]at q
   split at q
   ·rename_i a ha
    by_cases hy:(y==n)=true
    ·rw[List.lookup_cons,hy]at q
     rw[eq_of_beq hy,ha]; exact q
    ·have:(y==n)=false:=by simpa using hy
     rw[List.lookup_cons,this]at q
     exact h y d q
   ·exact h y d q
  ·rw[if_neg hk]at q
   exact h y d q
theorem relabel_lookup(env:Env):∀ (names:List (Str×NameKind)) (x:Str),(names.map fun(n,k)=>if (k==NameKind.free&&env.scope.kind==.function&&env.kindOf n==some .cell) then(n,NameKind.cell) else(n,k)).lookup x =
  (names.lookup x).map fun k=>if (k==NameKind.free&&env.scope.kind==.function&&env.kindOf x==some .cell) then NameKind.cell else k
 |[],x=>rfl
 |(n,k)::r,x=>by
  have ih:=relabel_lookup env r x
  rw[List.map_cons]
  by_cases hx:(x==n)=true
  ·have e:=eq_of_beq hx
   subst e
   dsimp only
   split
   ·rename_i hc
    rw[List.lookup_cons,hx,List.lookup_cons,hx]
    dsimp only[oMs]
    rw[if_pos hc]
   ·rename_i hc
    rw[List.lookup_cons,hx,List.lookup_cons,hx]
    dsimp only[oMs]
    rw[if_neg hc]
  ·have hx':(x==n)=false:=by simpa using hx
   dsimp only
   split
   ·rw[List.lookup_cons,hx',List.lookup_cons,hx']; exact ih
   ·rw[List.lookup_cons,hx',List.lookup_cons,hx']; exact ih
section
variable {prog:Program}{w:World}{A:Around}{R:Result→Shared→Prop}{s:Shared}
abbrev NoX:Value→Shared→Prop:=fun _ _=>False
theorem compLoop_any{elt target iter:Expr}{ifs:List Expr}{scope:Scope}{pos:Pos}{it acc:Value}{env:Env}{Ex:Value→Shared→Prop}(hEx:∀ e s',Ex e s'→notedBy (model prog w) A env (fun e s'=>R (.error e) s') e s')(I:Nat→Shared→Prop)
  (turn:∀ n s,I n s→wpAny (model prog w) A (pyNext it) (fun r s₁=>match r with
   |none=>R (.ok .next) s₁
   |some v=>wpAny (model prog w) A (letOwnedTupleGo target it v) (fun _ s₀=>wpAny (model prog w) A (assign target env v) (fun _ s₂=>
     wpAny (model prog w) A (forIn ifs true fun c r=>if r=true then do let ok ← isTrue c env (eval c env); pure (ForInStep.yield ok) else pure (ForInStep.yield r)) (fun ok s₃=>
      if ok=true then wpAny (model prog w) A (eval elt env) (fun x s₄=>wpAny (model prog w) A (call (.builtin "list.append") [acc,x]) (fun _ s₅=>∃ m,m<n∧I m s₅) Ex s₄) Ex s₃
      else ∃ m,m<n∧I m s₃) Ex s₂) Ex s₀) Ex s₁) Ex s)
  (n:Nat) (h:I n s):codeAny (model prog w) A (.compLoop (.ListComp elt [⟨target,iter,ifs,0⟩] scope pos) 0 it acc env) R s:=by
 refine codeAny_loop rfl I (fun n s hI=>?_) n h
 show wpAny _ A ((compTurn (.ListComp elt [⟨target,iter,ifs,0⟩] scope pos) 0 it acc env).onRaise (fun x=>do noteFrame x env; theTreesLotGoes x)) _ _ s
 refine wpAny_noted (wpAny_mono ?_ (fun _ _ q=>q) hEx)
 rw[compTurn_list]
 refine wpAny_bind (wpAny_standAt (wpAny_bind (wpAny_mono (turn n s hI) (fun r s₁ h₁=>?_) fun _ _ z=>z)))
 cases r with
 |none=>exact wpAny_pure h₁
 |some v=>
  refine wpAny_bind (wpAny_mono h₁ (fun _ s₀ h₀=>?_) fun _ _ z=>z)
  refine wpAny_bind (wpAny_mono h₀ (fun _ s₂ h₂=>wpAny_bind (wpAny_mono h₂ (fun ok s₃ h₃=>?_) fun _ _ z=>z)) fun _ _ z=>z)
  cases ok with
  |false=>exact wpAny_pure ⟨rfl,h₃⟩
  |true=>
   exact wpAny_bind (wpAny_bind (wpAny_mono h₃ (fun x s₄ h₄=>wpAny_bind (wpAny_mono h₄ (fun _ s₅ h₅=>wpAny_pure (wpAny_pure ⟨rfl,h₅⟩)) fun _ _ z=>z)) fun _ _ z=>z))
end
theorem HOk.track{P:Program}{w:World}{H:Hp}{h:Heap}{a:Addr}{o:HO}(x:HOk P w H h)(hn:H a=none)(new:ObjOk P w (upd H a o) h a o):HOk P w (upd H a o) h:=fun b u e=>by
 by_cases hb:b=a
 ·subst hb; rw[upd_same]at e; cases e; exact new
 ·rw[upd_ne hb]at e
  exact(x b u e).stay (fun c v _ q=>q) (fun c q=>by rw[upd_ne (ne_of_none q hn)]; exact q) fun c xs q=>by rw[upd_ne (ne_of_none q hn)]; exact q
theorem Inv.track{X:Cx}{pins:List (Addr×Obj)}{σ:L2.St}{H:Hp}{s:Shared}{a:Addr}{o:HO}(I:Inv X pins σ H s)(hf:FpOk X pins H a)(new:ObjOk X.prog X.w (upd H a o) s.heap a o):Inv X pins σ (upd H a o) s:=by
 obtain⟨f0,f1,f2,f3,f4,f5⟩:=hf
 refine I.step (h':=s.heap) (g':=s.gens) (t':=s.toks) (d':=s.drawn) (ch:=[a]) (fun b hb=>?_) (fun b o _ _ _ e _=>e) (fun b o _ _ _ e _=>⟨o.slots,e⟩) (fun b o hb e n=>?_) (fun b o _ e=>⟨o,e⟩)
  (fun b xs e=>by rw[upd_ne (ne_of_none e f0)]; exact e) (fun b o u e=>by rw[upd_ne (ne_of_none e f0)]; exact e) (fun b ps e=>⟨#[],by rw[upd_ne (ne_of_none e f0),e]; simp⟩) (fun m h=>h) (HOk.track I.hok f0 new) I.bare
 ·have e:b=a:=by simpa using hb
  subst e
  exact⟨f3,f1,f4,f5⟩
 ·rw[upd_ne (by simpa using hb)]; exact n
noncomputable def cxComp(X:Cx)(N:List Str)(scope:Scope)(C:Addr)(fp:List Addr)(s:Shared)(H:Hp):Cx:=
 { X with N:=N,s₀:=s,H₀:=H,env:=compEnvC scope (closL X.env.cells scope.names []) C X.env,outer:=X.stack,ex:=fp,fn:=fun _=>false,pn:=[],xe:=fun _ _=>False }
noncomputable def innerS(src:List (Option Nat))(σ:L2.St):L2.St:=src.map fun o=>o.bind fun i=>(σ[i]?).bind id
structure CompScope (X:Cx) (N:List Str) (src:List (Option Nat)) (scope:Scope):Prop where
 kind:scope.kind=.function
 cell:∀ y∈scope.names,y.2≠.cell
 free:∀ y∈scope.names,y.2=.free→X.env.kindOf y.1=some .cell∨X.env.kindOf y.1=some .free
 loc:∀ y∈scope.names,y.2=.local→scope.names.lookup y.1=some .local
 len:src.length=N.length
 src:∀ (j i:Nat),src[j]?=some (some i)→∃ x,N[j]?=some x∧X.N[i]?=some x∧scope.names.lookup x=some .free
section
variable {X:Cx}{pins:List (Addr×Obj)}{σ:L2.St}{H:Hp}{s:Shared}
theorem mem_lookup{names:List (Str×NameKind)}{x:Str}{k:NameKind}(h:names.lookup x=some k):(x,k)∈names:=PySem.mem_of_lookup h
theorem comp_clos{N:List Str}{src:List (Option Nat)}{scope:Scope}(S:CompScope X N src scope)(I:Inv X pins σ H s):closureFor scope X.env=pure (closL X.env.cells scope.names []):=
 closureFor_of fun x hx hk=>I.ok.has x.1 (S.free x hx hk)
theorem comp_ok{N:List Str}{src:List (Option Nat)}{scope:Scope}{C:Addr}{fp:List Addr}(S:CompScope X N src scope)(I:Inv X pins σ H s)(hC:s.heap.objs.size≤C)(hfp:∀ b∈fp,FpOk X pins H b)(hlt:∀ b∈fp,b<s.heap.objs.size):(cxComp X N scope C fp s H).Ok where
 mod:=I.ok.mod
 kind:=S.kind
 glob:=I.ok.glob
 blt:=I.ok.blt
 above:=hC
 inj:=fun x y c h1 h2=>I.ok.inj x y c (closL_out _ [] (fun _ _ z=>nomatch z) x c h1) (closL_out _ [] (fun _ _ z=>nomatch z) y c h2)
 has:=fun x h=>by
  have e:(cxComp X N scope C fp s H).env.kindOf x=(scope.names.lookup x).map fun k=>if (k==NameKind.free&&X.env.scope.kind==.function&&X.env.kindOf x==some .cell) then NameKind.cell else k:=relabel_lookup X.env scope.names x
  rw[e]at h
  cases q:scope.names.lookup x with
  |none=>rw[q]at h; rcases h with h|h<;>cases h
  |some k=>
   have hk:k=.free:=by
    rw[q]at h
    simp only[oMs,Option.some.injEq]at h
    by_cases hc:(k==NameKind.free&&X.env.scope.kind==.function&&X.env.kindOf x==some .cell)=true
    ·simp only[Bool.and_eq_true]at hc
     exact eq_of_beq hc.1.1
    ·rw[if_neg hc]at h
     rcases h with h|h
     ·subst h; exact absurd rfl (S.cell _ (mem_lookup q))
     ·exact h
   subst hk
   have hm:=mem_lookup q
   obtain⟨c,hc⟩:=I.ok.has x (S.free _ hm rfl)
   exact⟨c,closL_in hc _ _ (.inl hm)⟩
 cab:=fun x c h=>by cases h
 hd:=I.ok.hd
 frames:=I.ok.frames
 stk:=.inl rfl
 exf:=fun b hb=>⟨Nat.ne_of_lt (Nat.lt_of_lt_of_le (hlt b hb) hC),fun x c e=>(hfp b hb).2.2.2.2.1 x c (closL_out _ [] (fun _ _ z=>nomatch z) x c e)⟩
 bs:=I.bs
 bsz:=Nat.le_trans I.ok.bsz I.sz
 noex:=fun b o e hb=>by
  rcases (hfp b hb).2.2.2.1 with z|z
  ·exact I.ok.noex b o e z
  ·exact absurd (Nat.lt_of_lt_of_le (Heap.lt_size e) (Nat.le_trans I.ok.bsz z)) (Nat.lt_irrefl _)
 exfs:=fun b hb hf=>by
  have f:=hfp b hb
  rcases List.mem_cons.mp (I.stkSub b hf) with z|z
  ·exact f.2.1 z
  ·exact f.2.2.1 z
 funs:=I.stack
 frf:=I.stkFree
theorem comp_start{N:List Str}{src:List (Option Nat)}{scope:Scope}{C:Addr}{fp:List Addr}{h':Heap}{tk:Nat}{m':Str→Option Value}(S:CompScope X N src scope)(I:Inv X pins σ H s)(hC:s.heap.objs.size≤C)(hfp:∀ b∈fp,FpOk X pins H b)(hlt:∀ b∈fp,b<s.heap.objs.size)
  (kp:∀ b o,s.heap.get? b=some o→h'.get? b=some o) (ns:h'.Ns C m'):Inv (cxComp X N scope C fp s H) [] (innerS src σ) H { s with heap:=h',toks:=tk }:=by
 have O:=comp_ok S I hC hfp hlt
 refine⟨O,rfl,I.bare,Un.kept kp,⟨m',ns,fun j x v hN hσ hv=>?_⟩,fun x c e=>?_,I.hok.fresh hC,fun x c e=>?_,fun p hp=>absurd (show p∈([]:List (Addr×Obj)) from hp) (by simp),I.hok.kept kp,?_⟩
 ·unfold innerS at hσ
  rw[List.getElem?_map]at hσ
  cases q:src[j]? with
  |none=>rw[q]at hσ; cases hσ
  |some o=>
   rw[q]at hσ
   cases o with
   |none=>cases hσ
   |some i=>
    obtain⟨x',e1,e2,e3⟩:=S.src j i q
    have hN:N[j]?=some x:=hN
    rw[hN]at e1
    cases e1
    have hi:σ[i]?=some (some v):=by
     cases z:σ[i]? with
     |none=>simp[z]at hσ
     |some w=>
      cases w with
      |none=>simp[z]at hσ
      |some w=>simpa[z] using hσ
    obtain⟨m0,hn0,hl0⟩:=I.loc
    have hk:=S.free _ (mem_lookup e3) rfl
    have vis:Vis X.env.scope x:=by
     rcases hk with z|z
     ·exact .inr (.inl z)
     ·exact .inr (.inr z)
    obtain⟨u,ru,lk⟩:=hl0 i x v e2 hi vis
    refine⟨u,ru,?_⟩
    rcases lk with⟨z,_⟩|⟨_,c,hc,hcell⟩
    ·rcases hk with y|y
     ·rw[y]at z; cases z
     ·rw[y]at z; cases z
    ·refine .inr ⟨?_,c,closL_in hc _ _ (.inl (mem_lookup e3)),?_⟩
     ·have e:(cxComp X N scope C fp s H).env.kindOf x=(scope.names.lookup x).map fun k=>if (k==NameKind.free&&X.env.scope.kind==.function&&X.env.kindOf x==some .cell) then NameKind.cell else k:=relabel_lookup X.env scope.names x
      rw[e,e3]
      simp only[oMs,Option.some.injEq]
      by_cases hc:(NameKind.free==NameKind.free&&X.env.scope.kind==.function&&X.env.kindOf x==some .cell)=true
      ·rw[if_pos hc]; exact .inl rfl
      ·rw[if_neg hc]; exact .inr rfl
     ·obtain⟨o,ho,hd⟩:=hcell
      exact⟨o,kp c o ho,hd⟩
 ·have e':=closL_out _ [] (fun _ _ z=>nomatch z) x c e
  obtain⟨v,o,ho,hd⟩:=I.cell x c e'
  exact⟨v,o,kp c o ho,hd⟩
 ·exact I.freeC x c (closL_out _ [] (fun _ _ z=>nomatch z) x c e)
 ·unfold innerS
  rw[List.length_map]
  exact S.len
end
def TestR(X:Cx)(ifs:List Expr)(tt:TT):Prop:=∀ (pins:List (Addr×Obj)) (s:Shared) (σ:L2.St) (H:Hp) (Q:Bool→Hp→Prop),Inv X pins σ H s→tt σ H Q→
 wpAny (model X.prog X.w) X.A (forIn ifs true fun c r=>if r=true then do let ok ← isTrue c X.env (eval c X.env); pure (ForInStep.yield ok) else pure (ForInStep.yield r)) (TP X pins σ Q) X.xe s
theorem test_nil{X:Cx}:TestR X [] (fun _ H Q=>Q true H):=fun pins s σ H Q I h=>by
 show wpAny _ _ (pure true) _ _ _
 exact wpAny_pure ⟨H,I,h⟩
theorem comp_block{X:Cx}{pins:List (Addr×Obj)}{σ:L2.St}{H:Hp}{s:Shared}{elt tg iter:Expr}{ifs:List Expr}{scope:Scope}{pos:Pos}{it:Addr}{fp:List Addr}{tn:Nat→Heap→Prop}{J:It}{N:List Str}{src:List (Option Nat)}
  {g:TG}{tt:TT}{te:TE}{E:Value→Shared→Prop}{Fin:List V→Hp→Prop}{RR:Value→Addr→Result→Shared→Prop}{Ex:Addr→Addr→Value→Shared→Prop}(hc:X.calm=true) (I:Inv X pins σ H s) (T:Turn X.prog X.w X.K tg J fp it tn) (st0:tn 0 s.heap) (hfp:∀ b∈fp,FpOk X pins H b) (S:CompScope X N src scope)
  (hg:∀ C,PG (cxComp X N scope C fp s H) tg g) (ht:∀ C,TestR (cxComp X N scope C fp s H) ifs tt) (he:∀ D C,PE ((cxComp X N scope C fp s H).wish (Ex D C)) elt te)
  (hEx:∀ D C,s.heap.objs.size≤C→∀ e s',Ex D C e s'→notedBy (model X.prog X.w) X.A (compEnvC scope (closL X.env.cells scope.names []) C X.env) (fun e s'=>RR (.ref D) C (.error e) s') e s')
  (W:Nat→Nat→List V→L2.St→Hp→Prop) (w0:∃ k,W 0 k [] (innerS src σ) H)
  (step:∀ i k acc σ H,W i k acc σ H→(J.stop i H∧acc.length≤sizeLine∧Fin acc H)∨(J.go i H∧acc.length<sizeLine∧∀ x H',J.yld i H x H'→g x σ H' fun σ2 H2=>tt σ2 H2 fun b H3=>
   if b=true then te σ2 H3 fun v H4=>∃ k',k'<k∧W (i+1) k' (acc++[v]) σ2 H4 else ∃ k',k'<k∧W (i+1) k' acc σ2 H3))
  (hRR:∀ D C s' H' acc,Fin acc H'→H' D=none→Inv X pins σ (upd H' D (.lst acc)) s'→FpOk X pins (upd H' D (.lst acc)) C→(∃ m,s'.heap.Ns C m)→RR (.ref D) C (.ok .next) s') :
  wpAny (model X.prog X.w) X.A (newList []) (fun acc s₃=>wpAny (model X.prog X.w) X.A (newFunctionEnv scope X.env.globals (closL X.env.cells scope.names []) [] X.env.qual none .none (some X.env)) (fun cenv s₄=>
   codeAny (model X.prog X.w) X.A (.compStart (.ListComp elt [⟨tg,iter,ifs,0⟩] scope pos) 0 (.ref it) acc { cenv with scope:=relabel scope X.env }) (RR acc cenv.locals) s₄) E s₃) E s:=by
 have hlt:∀ b∈fp,b<s.heap.objs.size:=fun b hb=>by obtain⟨o,e,_⟩:=T.obj 0 _ st0 b hb; exact Heap.lt_size e
 refine wpAny_newObj_type (wpAny_newFunctionEnv S.cell (by intro y hy; simp at hy) (fun h₁ hns₁ hsb₁=>?_) S.kind)
 dsimp only at hns₁ hsb₁ ⊢
 generalize hH2:s.heap.push { cls:=.type "list",dict:=none,data:=.seq ([]:List Value).toArray }=H2 at hns₁ hsb₁ ⊢
 have hC:H2.objs.size=s.heap.objs.size+1:=by rw[← hH2,Heap.size_push]
 have hDC:s.heap.objs.size≠H2.objs.size:=by rw[hC]; exact Nat.ne_of_lt (Nat.lt_succ_self _)
 have hCle:s.heap.objs.size≤H2.objs.size:=by rw[hC]; exact Nat.le_succ _
 have old:∀ b o,s.heap.get? b=some o→h₁.get? b=some o:=fun b o e=>hsb₁.extBut b o (by rw[hC]; exact Nat.ne_of_lt (Nat.lt_succ_of_lt (Heap.lt_size e))) (Heap.get?_push_of_some _ (hH2▸Heap.get?_push_of_some _ e))
 have hacc:h₁.get? s.heap.objs.size=some { cls:=.type "list",data:=.seq ([]:List Value).toArray }:=hsb₁.extBut _ _ hDC (Heap.get?_push_of_some _ (hH2▸Heap.get?_push_size _ rfl))
 generalize hDd:s.heap.objs.size=Dd at hDC hCle hacc
 generalize hCc:H2.objs.size=Cc at hDC hCle hns₁ hsb₁ hC ⊢
 have hDs:s.heap.objs.size≤Dd:=Nat.le_of_eq hDd
 have hCs:s.heap.objs.size≤Cc:=by rw[hDd]; exact hCle
 have fD:H Dd=none:=I.hok.fresh hDs
 have I1:Inv (cxComp X N scope Cc fp s H) [] (innerS src σ) H { s with heap:=h₁,toks:=s.toks+([]:List (Str×Value)).length }:=comp_start S I hCs hfp hlt old hns₁
 have nfp:∀ b∈fp,b≠Dd:=fun b hb=>by rw[← hDd]; exact Nat.ne_of_lt (hlt b hb)
 have cellD:∀ x c,(cxComp X N scope Cc fp s H).env.cells.lookup x=some c→c≠Dd:=fun x c e z=>by
  have e':=closL_out _ [] (fun _ _ z=>nomatch z) x c e
  obtain⟨v,o,ho,_⟩:=I.cell x c e'
  rw[z,← hDd]at ho
  exact Nat.lt_irrefl _ (Heap.lt_size ho)
 have fsD:Dd ∉ (cxComp X N scope Cc fp s H).fs:=fun z=>by
  obtain⟨_,o,ho,_⟩:=I1.ok.funs.mem z
  have ho:s.heap.get? Dd=some o:=ho
  rw[← hDd]at ho
  exact Nat.lt_irrefl _ (Heap.lt_size ho)
 have stat:∀ {pl:List (Addr×Obj)}{H':Hp},(∀ p∈pl,p.1=Dd)→(∀ b∈fp,H' b=none)→∀ b∈fp,FpOk (cxComp X N scope Cc fp s H) pl H' b:=fun {pl H'} hpl hn b hb=>
  ⟨hn b hb,(I1.ok.exf b hb).1,I1.ok.exfs b hb,.inl hb,(I1.ok.exf b hb).2,fun p hp=>by
   have hp':p∈pl:=hp
   rw[hpl p hp']; exact(nfp b hb).symm⟩
 obtain⟨k0,w0⟩:=w0
 have loop:∀ s₃:Shared,s₃={ s with heap:=h₁,toks:=s.toks+([]:List (Str×Value)).length }→
   codeAny (model X.prog X.w) X.A (.compLoop (.ListComp elt [⟨tg,iter,ifs,0⟩] scope pos) 0 (.ref it) (.ref Dd) (compEnvC scope (closL X.env.cells scope.names []) Cc X.env)) (RR (.ref Dd) Cc) s₃:=by
  rintro s₃ rfl
  refine compLoop_any (hEx Dd Cc hCs) (fun k s'=>∃ i acc its nn σ' H',Inv (cxComp X N scope Cc fp s H) [] σ' H' s'∧tn i s'.heap∧(∀ b∈fp,H' b=none)∧W i k acc σ' H'∧Vals acc its∧s'.heap.get? Dd=some { cls:=.type "list",data:=.seq its.toArray nn }∧H' Dd=none) ?_ k0
   ⟨0,[],[],0,innerS src σ,H,I1,T.keep _ _ _ st0 fun b _ o e=>old b o e,fun b hb=>(hfp b hb).1,w0,.nil,hacc,fD⟩
  rintro k s3 ⟨i,acc,its,nn,σ3,H3,I3,t3,fr3,w3,rv,ho3,nD3⟩
  have I3':Inv (cxComp X N scope Cc fp s H) [(Dd,{ cls:=.type "list",data:=.seq its.toArray nn })] σ3 H3 s3:=I3.pins_of fun p hp=>by
   have e:p=(Dd,{ cls:=.type "list",data:=.seq its.toArray nn }):=by simpa using hp
   subst e
   exact⟨ho3,nD3,hDC,fsD,fun v z=>by
    have z':Data.seq its.toArray nn=Data.cell v:=z
    cases z'⟩
  rcases step i k acc σ3 H3 w3 with⟨stop,hz,fin⟩|⟨go,hz,next⟩
  ·refine thn (T.done (cxComp X N scope Cc fp s H) rfl rfl rfl hc i _ s3 σ3 H3 (Ex Dd Cc) I3' (stat (fun p hp=>by rw[List.mem_singleton.mp hp]) fr3) t3 stop) fun r s4 ⟨hr,I4⟩=>?_
   subst hr
   have p4:=I4.pin (Dd,{ cls:=.type "list",data:=.seq its.toArray nn }) (List.mem_append_right _ (by simp))
   have I5:Inv X pins σ H3 s4:=I.call' I4.os I4.base I4.hok I4.bare fun b hb=>⟨(hfp b hb).2.2.2.1,(hfp b hb).2.1,(hfp b hb).2.2.2.2.1,(hfp b hb).2.2.2.2.2⟩
   have fpD:FpOk X pins H3 Dd:=I.fpOk hDs nD3
   refine hRR Dd Cc s4 H3 acc fin nD3 (Inv.track I5 fpD ⟨hz,its,nn,rv,p4.1⟩) (I.fpOk hCs (by rw[upd_ne (Ne.symm hDC)]; exact I4.free)) ?_
   obtain⟨m4,n4,_⟩:=I4.loc
   exact⟨m4,n4⟩
  ·refine thn (T.item (cxComp X N scope Cc fp s H) rfl rfl rfl hc i _ s3 σ3 H3 (Ex Dd Cc) I3' (stat (fun p hp=>by rw[List.mem_singleton.mp hp]) fr3) t3 go) fun r s4 ⟨u,hr,h4⟩=>?_
   subst hr
   refine thn h4 fun _ s5 ⟨x,H5,I5,r5,y5,t5,fr5⟩=>?_
   have I5':=I5.pinned (stat (fun p hp=>by rw[List.mem_singleton.mp hp]) fr5) (T.obj _ _ t5)
   refine wpAny_mono (hg Cc _ s5 σ3 H5 x u _ I5' r5 (next x H5 y5)) (fun _ s6 ⟨σ6,H6,I6,q6⟩=>?_) fun _ _ z=>z.elim
   refine wpAny_mono (ht Cc _ s6 σ6 H6 _ I6 q6) (fun b s7 ⟨H7,I7,q7⟩=>?_) fun _ _ z=>z.elim
   have back:∀ {σ8:L2.St}{H8:Hp}{s8:Shared},Inv (cxComp X N scope Cc fp s H) ([(Dd,{ cls:=.type "list",data:=.seq its.toArray nn })]++pinsAt fp s5.heap) σ8 H8 s8→
     tn (i+1) s8.heap∧(∀ b∈fp,H8 b=none)∧s8.heap.get? Dd=some { cls:=.type "list",data:=.seq its.toArray nn }∧H8 Dd=none:=fun {σ8 H8 s8} I8=>by
    refine⟨T.keep _ _ _ t5 fun b hb o e=>(I8.pin (b,o) (List.mem_append_right _ (List.mem_append_right _ (mem_pinsAt hb e)))).1,fun b hb=>?_,?_,?_⟩
    ·obtain⟨o,e,d⟩:=T.obj _ _ t5 b hb
     exact(I8.pin (b,o) (List.mem_append_right _ (List.mem_append_right _ (mem_pinsAt hb e)))).2.1
    ·exact(I8.pin (Dd,_) (List.mem_append_right _ (List.mem_append_left _ (by simp)))).1
    ·exact(I8.pin (Dd,{ cls:=.type "list",data:=.seq its.toArray nn }) (List.mem_append_right _ (List.mem_append_left _ (by simp)))).2.1
   cases b with
   |false=>
    simp only[Bool.false_eq_true,if_false]at q7 ⊢
    obtain⟨k',hk,w7⟩:=q7
    obtain⟨b1,b2,b3,b4⟩:=back I7
    exact⟨k',hk,i+1,acc,its,nn,σ6,H7,I7.pins_of fun p hp=>absurd hp (by simp),b1,b2,w7,rv,b3,b4⟩
   |true=>
    simp only[if_true]at q7 ⊢
    refine thn (he Dd Cc _ s7 σ6 H7 _ (I7.wish _) q7) fun y s8 ⟨v8,H8,I8,r8,k',hk,w8⟩=>?_
    have I8:=I8.unwish
    obtain⟨b1,b2,b3,b4⟩:=back I8
    have l1:=rv.length
    refine call_meets F.slot_list_append ⟨_,b3,rfl⟩ F.entry_list_append (F.args_list_append_2 _ _) (PySem.list_append Dd its.toArray nn y (by rw[List.size_toArray]; omega)) ⟨b3,?_⟩
    have q:=PySem.IsL.update b3 (fun a=>a.push y)
    have hpush:its.toArray.push y=(its++[y]).toArray:=by simp
    rw[hpush]at q
    have I9:Inv (cxComp X N scope Cc fp s H) [] σ6 H8 s8:=I8.pins_of fun p hp=>absurd hp (by simp)
    have I10:Inv (cxComp X N scope Cc fp s H) [] σ6 H8 { s8 with heap:=s8.heap.update Dd (Obj.mapSeq (·.push y)) }:=
     I9.turned (it:=Dd) (t':=s8.toks) (fun b o hb e=>(Heap.get?_update_other s8.heap _ (Ne.symm hb)).trans e) b4 hDC (.inr hDs) cellD fun p hp=>absurd (show p∈([]:List (Addr×Obj)) from hp) (by simp)
    exact⟨k',hk,i+1,acc++[v8],its++[y],_,σ6,H8,I10,T.keep _ _ _ b1 fun b hb o e=>(Heap.get?_update_other s8.heap _ (Ne.symm (nfp b hb))).trans e,b2,w8,rv.append (.cons r8 .nil),q,b4⟩
 exact codeAny_compStart_list (loop _ rfl) (T.self _ 0 _ _ _ (T.keep _ _ _ st0 fun b _ o e=>old b o e) (loop _ rfl))
noncomputable def tComp(src:List (Option Nat))(wi:TI)(g:TG)(tt:TT)(te:TE):TE:=fun σ H Q=>wi σ H fun J H1=>∃ W:Nat→Nat→List V→L2.St→Hp→Prop,(∃ k,W 0 k [] (innerS src σ) H1)∧
 ∀ i k acc σ' H',W i k acc σ' H'→(J.stop i H'∧acc.length≤sizeLine∧∀ p,H' p=none→Q (.ref p) (upd H' p (.lst acc)))∨(J.go i H'∧acc.length<sizeLine∧∀ x H2,J.yld i H' x H2→g x σ' H2 fun σ2 H3=>tt σ2 H3 fun b H4=>
  if b=true then te σ2 H4 fun v H5=>∃ k',k'<k∧W (i+1) k' (acc++[v]) σ2 H5 else ∃ k',k'<k∧W (i+1) k' acc σ2 H4)
theorem pe_comp{X:Cx}{elt tg iter:Expr}{ifs:List Expr}{scope:Scope}{pos:Pos}{N:List Str}{src:List (Option Nat)}{wi:TI}{g:TG}{tt:TT}{te:TE}(hc:X.calm=true)(S:CompScope X N src scope)(hi:PI X tg iter wi)
  (hg:∀ C fp s H,PG (cxComp X N scope C fp s H) tg g) (ht:∀ C fp s H,TestR (cxComp X N scope C fp s H) ifs tt) (he:∀ C fp s H,PE (cxComp X N scope C fp s H) elt te)
  (hs:∀ x,foldedSetIterable iter X.env x=pure x):PE X (.ListComp elt [⟨tg,iter,ifs,0⟩] scope pos) (tComp src wi g tt te):=by
 intro pins s σ H Q I h
 rw[eval_ListComp]
 refine wpAny_comprehension_free (use:=none) rfl hs (comp_clos S I) S.kind S.loc (thn (hi pins s σ H _ I h) fun v s1 h1=>thn h1 fun itv s2 h2=>?_)
 obtain⟨it,fp,tn,J,H2,e,I2,T,st2,f2,W,w0,turn⟩:=h2
 subst e
 refine comp_block (Ex:=fun _ _=>NoX) hc I2 T st2 f2 S (fun C=>hg C fp s2 H2) (fun C=>ht C fp s2 H2) (fun _ C=>he C fp s2 H2) (fun _ _ _ _ _ z=>z.elim) W w0 turn ?_
 intro D C s' H' acc fin nD I' fC hm
 obtain⟨m',hn⟩:=hm
 refine⟨m',hn,fun h' sb=>⟨.ref D,upd H' D (.lst acc),?_,rfl,fin D nD⟩⟩
 obtain⟨c0,c1,c2,c3,c4,c5⟩:=fC
 exact I'.turned (t':=s'.toks) (fun b o hb e=>(sb.2 b hb).trans e) c0 c1 c3 c4 c5
end MS
end
section
namespace MS
open PySem PySem.Spec PyProof.Rows L2
theorem Inv.turnedL{X:Cx}{pins:List (Addr×Obj)}{σ:L2.St}{H:Hp}{s:Shared}{h':Heap}{t':Nat}{ch:List Addr}(I:Inv X pins σ H s)(k:∀ b o,b ∉ ch→s.heap.get? b=some o→h'.get? b=some o)(hf:∀ b∈ch,FpOk X pins H b):Inv X pins σ H { s with heap:=h',toks:=t' }:=by
 have nit:∀ b u,H b=some u→b ∉ ch:=fun b u e z=>by rw[(hf b z).1]at e; cases e
 refine I.step (g':=s.gens) (d':=s.drawn) (ch:=ch) (fun b hb=>?_) (fun b o _ _ hc e _=>k b o hc e) (fun b o _ _ hc e _=>⟨o.slots,k b o hc e⟩) (fun _ _ _ _ n=>n) (fun b o hc e=>⟨o,k b o hc e⟩) (fun _ _ e=>e) (fun _ _ _ e=>e) (fun b ps e=>⟨#[],by rw[e]; simp⟩) (fun m hm=>?_) (fun b u e=>?_) I.bare
 ·obtain⟨f0,f1,f2,f3,f4,f5⟩:=hf b hb
  exact⟨f3,f1,f4,f5⟩
 ·obtain⟨o,es,ep,ho,r⟩:=hm
  exact⟨o,es,ep,k _ o (fun z=>(hf _ z).2.1 rfl) ho,r⟩
 ·refine(I.hok b u e).stay (fun c v hc q=>k c v ?_ q) (fun _ q=>q) fun _ _ q=>q
  rcases hc with z|z
  ·rw[z]; exact nit b u e
  ·exact nit c _ z
inductive RK where
 |lst|tup
noncomputable def RK.It:RK→Heap→Addr→Addr→Nat→Prop
 |.lst,h,it,a,i=>h.IsListIter it a i
 |.tup,h,it,a,i=>h.IsTupleIter it a i
noncomputable def RK.Sq:RK→Heap→Addr→Array Value→Prop
 |.lst,h,a,xs=>h.IsList a xs
 |.tup,h,a,xs=>h.IsTuple a xs
theorem RK.It.on{k:RK}{h h':Heap}{it a:Addr}{i:Nat}(x:k.It h it a i)(e:∀ o,h.get? it=some o→h'.get? it=some o):k.It h' it a i:=by
 cases k with
 |lst=>exact Heap.IsListIter.at x e
 |tup=>obtain⟨o,ho,r⟩:=x; exact⟨o,e o ho,r⟩
theorem RK.Sq.on{k:RK}{h h':Heap}{a:Addr}{xs:Array Value}(x:k.Sq h a xs)(e:∀ o,h.get? a=some o→h'.get? a=some o):k.Sq h' a xs:=by
 cases k with
 |lst=>exact Heap.IsList.at x e
 |tup=>obtain⟨o,ho,r⟩:=x; exact⟨o,e o ho,r⟩
theorem RK.It.obj{k:RK}{h:Heap}{it a:Addr}{i:Nat}(x:k.It h it a i):∃ o,h.get? it=some o∧∀ v,o.data≠.cell v:=by
 cases k with
 |lst=>obtain⟨o,ho,_,d⟩:=x; exact⟨o,ho,fun v z=>by rw[d]at z; cases z⟩
 |tup=>obtain⟨o,ho,_,d⟩:=x; exact⟨o,ho,fun v z=>by rw[d]at z; cases z⟩
section
variable {prog:Program}{w:World}{A:Around}{E:Value→Shared→Prop}{s:Shared}
theorem draw_some{k:RK}{it a:Addr}{i:Nat}{xs:Array Value}{x:Value}{Q:Value→Shared→Prop}(hi:k.It s.heap it a i)(hs:k.Sq s.heap a xs)(hx:xs[i]?=some x)
  (hQ:∀ h',k.It h' it a (i+1)→(∀ b o,b≠it→s.heap.get? b=some o→h'.get? b=some o)→h'.objs.size=s.heap.objs.size→Q x { s with heap:=h' }):wpAny (model prog w) A (Builtin.SmallTypes.nextOf (.ref it)) Q E s:=by
 cases k with
 |lst=>exact wpAny_nextOf_list_item hi hs hx fun h' a1 a2=>hQ h' a1 a2.extBut a2.1
 |tup=>
  obtain⟨o,e1,e2,e3⟩:=id hi
  obtain⟨q,f1,_,m,f2⟩:=hs
  unfold Builtin.SmallTypes.nextOf
  refine wpAny_bind (wpAny_callSpecial?_slot (name:=Str.ofString "__next__") (Heap.IsTupleIter.typeIs hi) F.slot_tuple_iterator_next (wpAny_call_entry F.slot_tuple_iterator_next (Heap.IsTupleIter.typeIs hi) F.entry_tuple_iterator_next ?_ (F.args_tuple_iterator_next_1 _)))
  show wpAny _ _ (field (.ref it) 0 >>= _) _ _ _
  refine wpAny_bind (wpAny_field e1 e3 (x:=.ref a) rfl ?_)
  show wpAny _ _ (if (Value.ref a==Value.none)=true then _ else _) _ _ _
  rw[if_neg (show ¬ ((Value.ref a==Value.none)=true) from fun z=>nomatch z)]
  show wpAny _ _ (field (.ref it) 1 >>= _) _ _ _
  refine wpAny_bind (wpAny_field e1 e3 (x:=.int i 0) rfl ?_)
  show wpAny _ _ (seqItems? (.ref a) >>= _) _ _ _
  refine wpAny_bind (wpAny_seqItems f1 f2 ?_)
  simp only[Int.toNat_natCast,hx]
  refine wpAny_bind (wpAny_setField e1 e3 (by simp) (wpAny_pure ⟨x,rfl,wpAny_pure (hQ _ ?_ (Heap.SameBut.update ..).extBut (Heap.SameBut.update ..).1)⟩))
  exact⟨_,Heap.get?_update_self _ e1 (Obj.isFreed_of_fields (Obj.data_mapFields e3 _)),(Obj.cls_mapFields ..).trans e2,by rw[Obj.data_mapFields e3]; simp[rawInt]⟩
theorem draw_none{k:RK}{it a:Addr}{i:Nat}{xs:Array Value}{Q:Value→Shared→Prop}(hh:A.handled=none)(hi:k.It s.heap it a i)(hs:k.Sq s.heap a xs)(hx:xs[i]?=none)
  (hE:∀ h' e,(∀ b o,b≠it→s.heap.get? b=some o→h'.get? b=some o)→(∃ o,h'.get? e=some o∧o.cls=.type "StopIteration")→E (.ref e) { s with heap:=h' }):wpAny (model prog w) A (Builtin.SmallTypes.nextOf (.ref it)) Q E s:=by
 cases k with
 |lst=>exact wpAny_nextOf_list_end hh hi hs hx fun h' e a1 a2=>hE h' e a1 a2
 |tup=>
  obtain⟨o,e1,e2,e3⟩:=id hi
  obtain⟨q,f1,_,m,f2⟩:=hs
  unfold Builtin.SmallTypes.nextOf
  refine wpAny_bind (wpAny_callSpecial?_slot (name:=Str.ofString "__next__") (Heap.IsTupleIter.typeIs hi) F.slot_tuple_iterator_next (wpAny_call_entry F.slot_tuple_iterator_next (Heap.IsTupleIter.typeIs hi) F.entry_tuple_iterator_next ?_ (F.args_tuple_iterator_next_1 _)))
  show wpAny _ _ (field (.ref it) 0 >>= _) _ _ _
  refine wpAny_bind (wpAny_field e1 e3 (x:=.ref a) rfl ?_)
  show wpAny _ _ (if (Value.ref a==Value.none)=true then _ else _) _ _ _
  rw[if_neg (show ¬ ((Value.ref a==Value.none)=true) from fun z=>nomatch z)]
  show wpAny _ _ (field (.ref it) 1 >>= _) _ _ _
  refine wpAny_bind (wpAny_field e1 e3 (x:=.int i 0) rfl ?_)
  show wpAny _ _ (seqItems? (.ref a) >>= _) _ _ _
  refine wpAny_bind (wpAny_seqItems f1 f2 ?_)
  simp only[Int.toNat_natCast,hx]
  refine wpAny_bind (wpAny_rule (wpAny_bind (wpAny_setField e1 e3 (by simp) ?_))); show wpAny _ _ (newExc (.type "StopIteration") [] >>= _) _ _ _
  refine wpAny_bind ?_; simp only[newExc,newTuple]
  refine wpAny_bind (wpAny_newObj_type ?_ (by size_fits)); refine wpAny_bind (m:=firstArgMember _ _) (wpAny_of_eq (a:=Value.none) (by first|rfl|(simp only[firstArgMember]; rfl)) ?_)
  refine wpAny_newObj_type ?_ (by size_fits); simp only[raiseNew]
  refine wpAny_bind (wpAny_handled ?_)
  first|rw[show A.in1.handled=none from hh]|(rw[hh])
  refine wpAny_bind (wpAny_pure (wpAny_throw ?_))
  exact hE _ _ (((Heap.SameBut.update ..).extBut.push _).push _) ⟨_,Heap.get?_push_size _ rfl,by rfl⟩
end
section
variable {prog:Program}{w:World}{A:Around}{E:Value→Shared→Prop}{s:Shared}
theorem pair_put{T:Addr}{a b x:Value}{j:Nat}{Q:Unit→Shared→Prop}(hT:IsPair s.heap T a b)
  (h:∀ h',h'.get? T=some { cls:=.type "tuple",data:=.seq ((#[a,b]:Array Value).setIfInBounds j x) }→(∀ c o,c≠T→s.heap.get? c=some o→h'.get? c=some o)→h'.objs.size=s.heap.objs.size→Q () { s with heap:=h' }) :
  wpAny (model prog w) A (updateSeq T (·.setIfInBounds j x)) Q E s:=
 wpAny_updateSeq_pair hT fun h' a1 a2=>h h' a1 a2.extBut a2.1
theorem zip_get{n l1 l2:Nat}{k1 k2:RK}{i:Nat}{xs ys:Array Value}{x y a b:Value}{Q:Option Value→Shared→Prop}(n1:l1<n)(n2:l2<n)
  (hz:IsZip s.heap (n+4) (n+2) (n+3) .none) (hI:IsPair s.heap (n+2) (.ref n) (.ref (n+1))) (hO:IsPair s.heap (n+3) a b) (h1:k1.It s.heap n l1 i) (h2:k2.It s.heap (n+1) l2 i) (s1:k1.Sq s.heap l1 xs) (s2:k2.Sq s.heap l2 ys) (hx:xs[i]?=some x) (hy:ys[i]?=some y)
  (hQ:∀ h',IsZip h' (n+4) (n+2) (n+3) (rawInt s.heap.objs.size)→IsPair h' (n+2) (.ref n) (.ref (n+1))→IsPair h' (n+3) x y→k1.It h' n l1 (i+1)→k2.It h' (n+1) l2 (i+1)→IsPair h' s.heap.objs.size x y→
   (∀ c o,c≠n+4→c≠n+3→c≠n→c≠n+1→s.heap.get? c=some o→h'.get? c=some o)→Q (some (.ref s.heap.objs.size)) { s with heap:=h' }) :
  wpAny (model prog w) A (pyNext (.ref (n+4))) Q E s:=by
 have hT:s.TypeIs (.ref (n+4)) "zip":=⟨_,hz,rfl⟩
 unfold pyNext
 refine wpAny_bind (wpAny_attempt (wpAny_callSpecial?_slot (name:=Str.ofString "__next__") hT F.slot_zip_next (wpAny_call_entry F.slot_zip_next hT F.entry_zip_next ?_ (F.args_zip_next_1 _))))
 show wpAny _ _ (field (.ref (n+4)) 2 >>= _) _ _ _
 refine wpAny_bind (wpAny_field hz rfl (x:=.bool false) rfl ?_)
 show wpAny _ _ (field (.ref (n+4)) 3 >>= _) _ _ _
 refine wpAny_bind (wpAny_field hz rfl (x:=.ref (n+2)) rfl ?_)
 refine wpAny_bind (wpAny_seqItems hI rfl ?_)
 show wpAny _ _ (Builtin.SmallTypes.ownedTupleIsFree (.ref (n+4)) >>= _) _ _ _
 refine wpAny_bind ?_
 unfold Builtin.SmallTypes.ownedTupleIsFree
 refine wpAny_bind (wpAny_field hz rfl (x:=.none) rfl (wpAny_pure ?_))
 simp only[if_true]
 refine wpAny_bind (wpAny_rule ?_)
 refine wpAny_bind (wpAny_field hz rfl (x:=.ref (n+3)) rfl ?_)
 refine wpAny_bind (wpAny_setField_rec hz (by simp) fun g1 z1 u1=>?_)
 replace z1:IsZip g1 (n+4) (n+2) (n+3) .ellipsis:=z1
 have v1:=u1.extBut
 refine wpAny_bind ?_
 simp only[List.zipIdx_cons,List.zipIdx_nil,List.forIn_cons,List.forIn_nil]
 refine wpAny_bind (wpAny_bind (wpAny_onRaise ?_)); show wpAny _ _ (Builtin.SmallTypes.nextOf (.ref n) >>= _) _ _ _
 refine wpAny_bind (draw_some (s:={ s with heap:=g1 }) (h1.on fun o e=>v1 _ o (by show @Ne Nat _ _; omega) e) (s1.on fun o e=>v1 _ o (by show @Ne Nat _ _; omega) e) hx fun g2 i2 v2 c2=>wpAny_pure ?_)
 have O2:IsPair g2 (n+3) a b:=v2 _ _ (by show @Ne Nat _ _; omega) (v1 _ _ (by show @Ne Nat _ _; omega) hO)
 refine wpAny_bind (wpAny_seqItems O2 rfl ?_)
 refine wpAny_bind (pair_put O2 fun g3 O3 v3 c3=>?_)
 replace O3:IsPair g3 (n+3) x b:=O3
 refine wpAny_bind (wpAny_letGo (wpAny_pure ?_))
 refine wpAny_bind (wpAny_bind (wpAny_onRaise ?_)); show wpAny _ _ (Builtin.SmallTypes.nextOf (.ref (n+1)) >>= _) _ _ _
 refine wpAny_bind (draw_some (s:={ s with heap:=g3 }) (h2.on fun o e=>v3 _ o (by show @Ne Nat _ _; omega) (v2 _ o (by show @Ne Nat _ _; omega) (v1 _ o (by show @Ne Nat _ _; omega) e))) (s2.on fun o e=>v3 _ o (by show @Ne Nat _ _; omega) (v2 _ o (by show @Ne Nat _ _; omega) (v1 _ o (by show @Ne Nat _ _; omega) e))) hy fun g4 i4 v4 c4=>wpAny_pure ?_)
 have O4:IsPair g4 (n+3) x b:=v4 _ _ (by show @Ne Nat _ _; omega) O3
 refine wpAny_bind (wpAny_seqItems O4 rfl ?_)
 refine wpAny_bind (pair_put O4 fun g5 O5 v5 c5=>?_)
 replace O5:IsPair g5 (n+3) x y:=O5
 refine wpAny_bind (wpAny_letGo (wpAny_pure (wpAny_pure ?_)))
 refine wpAny_bind (wpAny_seqItems O5 rfl ?_)
 refine wpAny_bind (wpAny_newTuple ?_)
 have sz:g5.objs.size=s.heap.objs.size:=c5.trans (c4.trans (c3.trans (c2.trans u1.1)))
 have z5:IsZip g5 (n+4) (n+2) (n+3) .ellipsis:=v5 _ _ (by show @Ne Nat _ _; omega) (v4 _ _ (by show @Ne Nat _ _; omega) (v3 _ _ (by show @Ne Nat _ _; omega) (v2 _ _ (by show @Ne Nat _ _; omega) z1)))
 have up5:∀ c o,c≠n+4→c≠n+3→c≠n→c≠n+1→s.heap.get? c=some o→g5.get? c=some o:=fun c o c1 c2 c3 c4 e=>v5 _ _ c2 (v4 _ _ c4 (v3 _ _ c2 (v2 _ _ c3 (v1 _ _ c1 e))))
 have j1:k1.It g5 n l1 (i+1):=i2.on fun o e=>v5 _ o (by show @Ne Nat _ _; omega) (v4 _ o (by show @Ne Nat _ _; omega) (v3 _ o (by show @Ne Nat _ _; omega) e))
 have j2:k2.It g5 (n+1) l2 (i+1):=i4.on fun o e=>v5 _ o (by show @Ne Nat _ _; omega) e
 have lz:n+4<g5.objs.size:=Heap.lt_size z5
 show wpAny _ _ (Builtin.SmallTypes.ownedTupleHandOut (.ref (n+4)) (.ref g5.objs.size) >>= _) _ _ _
 refine wpAny_bind ?_
 unfold Builtin.SmallTypes.ownedTupleHandOut
 have z6:IsZip (g5.push { cls:=.type "tuple",data:=.seq #[x,y] }) (n+4) (n+2) (n+3) .ellipsis:=Heap.get?_push_of_some _ z5
 refine wpAny_bind (wpAny_setField_rec z6 (by simp) fun g7 z7 u7=>?_)
 replace z7:IsZip g7 (n+4) (n+2) (n+3) (rawInt g5.objs.size):=z7
 refine wpAny_setField_rec z7 (by simp) fun g8 z8 u8=>?_
 replace z8:IsZip g8 (n+4) (n+2) (n+3) (rawInt g5.objs.size):=z8
 have up:∀ c o,c≠n+4→g5.get? c=some o→g8.get? c=some o:=fun c o c1 e=>u8.extBut _ _ c1 (u7.extBut _ _ c1 (Heap.get?_push_of_some _ e))
 have t8:IsPair g8 g5.objs.size x y:=u8.extBut _ _ (Nat.ne_of_gt lz) (u7.extBut _ _ (Nat.ne_of_gt lz) (Heap.get?_push_size _ rfl))
 rw[sz]at z8 t8
 refine wpAny_pure ⟨_,rfl,wpAny_pure ?_⟩
 show Q (some (.ref g5.objs.size)) _
 rw[sz]
 exact hQ g8 z8 (up _ _ (by show @Ne Nat _ _; omega) (up5 _ _ (by show @Ne Nat _ _; omega) (by show @Ne Nat _ _; omega) (by show @Ne Nat _ _; omega) (by show @Ne Nat _ _; omega) hI)) (up _ _ (by show @Ne Nat _ _; omega) O5) (j1.on fun o e=>up _ o (by show @Ne Nat _ _; omega) e) (j2.on fun o e=>up _ o (by show @Ne Nat _ _; omega) e) t8 fun c o c1 c2 c3 c4 e=>up c o c1 (up5 c o c1 c2 c3 c4 e)
theorem zip_over{n l1 l2:Nat}{k1 k2:RK}{i:Nat}{xs ys:Array Value}{a b:Value}{Q:Option Value→Shared→Prop}(hh:A.handled=none)(n1:l1<n)(n2:l2<n)
  (hz:IsZip s.heap (n+4) (n+2) (n+3) .none) (hI:IsPair s.heap (n+2) (.ref n) (.ref (n+1))) (hO:IsPair s.heap (n+3) a b) (h1:k1.It s.heap n l1 i) (h2:k2.It s.heap (n+1) l2 i) (s1:k1.Sq s.heap l1 xs) (s2:k2.Sq s.heap l2 ys) (hend:xs[i]?=none∨ys[i]?=none)
  (hQ:∀ h',(∀ c o,c≠n+4→c≠n+3→c≠n→c≠n+1→s.heap.get? c=some o→h'.get? c=some o)→Q none { s with heap:=h' }) :
  wpAny (model prog w) A (pyNext (.ref (n+4))) Q E s:=by
 have hT:s.TypeIs (.ref (n+4)) "zip":=⟨_,hz,rfl⟩
 have fin:∀ (h':Heap) (e:Addr),(∀ c o,c≠n+4→c≠n+3→c≠n→c≠n+1→s.heap.get? c=some o→h'.get? c=some o)→(∃ o,h'.get? e=some o∧o.cls=.type "StopIteration")→
   wpAny (model prog w) A (do if (← isInstance (.ref e) (.type "StopIteration")) then pure none else(throw (Value.ref e):Sem (Option Value))) Q E { s with heap:=h' }:=fun h' e hk he=>by
  obtain⟨o,ho,hc⟩:=he
  refine wpAny_bind (wpAny_isInstance (T:="StopIteration") (b:=true) ⟨o,ho,hc⟩ isSubtype_stop ?_)
  exact wpAny_pure (hQ _ hk)
 unfold pyNext
 refine wpAny_bind (wpAny_attempt (wpAny_callSpecial?_slot (name:=Str.ofString "__next__") hT F.slot_zip_next (wpAny_call_entry F.slot_zip_next hT F.entry_zip_next ?_ (F.args_zip_next_1 _))))
 show wpAny _ _ (field (.ref (n+4)) 2 >>= _) _ _ _
 refine wpAny_bind (wpAny_field hz rfl (x:=.bool false) rfl ?_)
 show wpAny _ _ (field (.ref (n+4)) 3 >>= _) _ _ _
 refine wpAny_bind (wpAny_field hz rfl (x:=.ref (n+2)) rfl ?_)
 refine wpAny_bind (wpAny_seqItems hI rfl ?_)
 show wpAny _ _ (Builtin.SmallTypes.ownedTupleIsFree (.ref (n+4)) >>= _) _ _ _
 refine wpAny_bind ?_
 unfold Builtin.SmallTypes.ownedTupleIsFree
 refine wpAny_bind (wpAny_field hz rfl (x:=.none) rfl (wpAny_pure ?_))
 simp only[if_true]
 refine wpAny_bind (wpAny_rule ?_)
 refine wpAny_bind (wpAny_field hz rfl (x:=.ref (n+3)) rfl ?_)
 refine wpAny_bind (wpAny_setField_rec hz (by simp) fun g1 z1 u1=>?_)
 replace z1:IsZip g1 (n+4) (n+2) (n+3) .ellipsis:=z1
 have v1:=u1.extBut
 refine wpAny_bind ?_
 simp only[List.zipIdx_cons,List.zipIdx_nil,List.forIn_cons,List.forIn_nil]
 refine wpAny_bind (wpAny_bind (wpAny_onRaise ?_)); show wpAny _ _ (Builtin.SmallTypes.nextOf (.ref n) >>= _) _ _ _
 cases hx:xs[i]? with
 |none=>
  refine wpAny_bind (draw_none (s:={ s with heap:=g1 }) hh (h1.on fun o e=>v1 _ o (by show @Ne Nat _ _; omega) e) (s1.on fun o e=>v1 _ o (by show @Ne Nat _ _; omega) e) hx fun g2 e v2 he=>?_)
  obtain⟨oe,ho,hc⟩:=he
  have z2:IsZip g2 (n+4) (n+2) (n+3) .ellipsis:=v2 _ _ (by show @Ne Nat _ _; omega) z1
  have ez:e≠n+4:=fun q=>by subst q; rw[z2]at ho; cases ho; simp at hc
  exact wpAny_setField_rec z2 (by simp) fun g3 _ u3=>fin g3 e (fun c o c1 _ c3 _ q=>u3.extBut _ _ c1 (v2 _ _ c3 (v1 _ _ c1 q))) ⟨oe,u3.extBut _ _ ez ho,hc⟩
 |some x=>
  have hy:ys[i]?=none:=by
   rcases hend with h|h
   ·rw[hx]at h; cases h
   ·exact h
  refine wpAny_bind (draw_some (s:={ s with heap:=g1 }) (h1.on fun o e=>v1 _ o (by show @Ne Nat _ _; omega) e) (s1.on fun o e=>v1 _ o (by show @Ne Nat _ _; omega) e) hx fun g2 i2 v2 c2=>wpAny_pure ?_)
  have O2:IsPair g2 (n+3) a b:=v2 _ _ (by show @Ne Nat _ _; omega) (v1 _ _ (by show @Ne Nat _ _; omega) hO)
  refine wpAny_bind (wpAny_seqItems O2 rfl ?_)
  refine wpAny_bind (pair_put O2 fun g3 O3 v3 c3=>?_)
  refine wpAny_bind (wpAny_letGo (wpAny_pure ?_))
  refine wpAny_bind (wpAny_bind (wpAny_onRaise ?_)); show wpAny _ _ (Builtin.SmallTypes.nextOf (.ref (n+1)) >>= _) _ _ _
  refine wpAny_bind (draw_none (s:={ s with heap:=g3 }) hh (h2.on fun o e=>v3 _ o (by show @Ne Nat _ _; omega) (v2 _ o (by show @Ne Nat _ _; omega) (v1 _ o (by show @Ne Nat _ _; omega) e))) (s2.on fun o e=>v3 _ o (by show @Ne Nat _ _; omega) (v2 _ o (by show @Ne Nat _ _; omega) (v1 _ o (by show @Ne Nat _ _; omega) e))) hy fun g4 e v4 he=>?_)
  obtain⟨oe,ho,hc⟩:=he
  have z4:IsZip g4 (n+4) (n+2) (n+3) .ellipsis:=v4 _ _ (by show @Ne Nat _ _; omega) (v3 _ _ (by show @Ne Nat _ _; omega) (v2 _ _ (by show @Ne Nat _ _; omega) z1))
  have ez:e≠n+4:=fun q=>by subst q; rw[z4]at ho; cases ho; simp at hc
  exact wpAny_setField_rec z4 (by simp) fun g5 _ u5=>fin g5 e (fun c o c1 c2 c3 c4 q=>u5.extBut _ _ c1 (v4 _ _ c4 (v3 _ _ c2 (v2 _ _ c3 (v1 _ _ c1 q))))) ⟨oe,u5.extBut _ _ ez ho,hc⟩
end
noncomputable def RK.itO(k:RK)(a:Addr):Obj:=match k with
 |.lst=>{ cls:=.type "list_iterator",data:=.fields #[.ref a,.int 0 0] }
 |.tup=>{ cls:=.type "tuple_iterator",data:=.fields #[.ref a,.int 0 0] }
theorem row_iter{prog:Program}{w:World}{A:Around}{E:Value→Shared→Prop}{s:Shared}{k:RK}{a:Addr}{xs:Array Value}{Q:Value→Shared→Prop}(hs:k.Sq s.heap a xs)(hQ:Q (.ref s.heap.objs.size) { s with heap:=s.heap.push (k.itO a) }):wpAny (model prog w) A (pyIter (.ref a)) Q E s:=by
 cases k with
 |lst=>exact wpAny_pyIter_list hs hQ
 |tup=>exact wpAny_pyIter_tuple hs hQ
theorem row_new{h:Heap}{k:RK}{a:Addr}:k.It (h.push (k.itO a)) h.objs.size a 0:=by
 cases k with
 |lst=>exact⟨_,Heap.get?_push_size _ rfl,rfl,rfl⟩
 |tup=>exact⟨_,Heap.get?_push_size _ rfl,rfl,rfl⟩
noncomputable abbrev zh1(k1:RK)(h:Heap)(l1:Addr):Heap:=h.push (k1.itO l1)
noncomputable abbrev zh2(k1 k2:RK)(h:Heap)(l1 l2:Addr):Heap:=(zh1 k1 h l1).push (k2.itO l2)
noncomputable abbrev zh3(k1 k2:RK)(h:Heap)(l1 l2:Addr):Heap:=(zh2 k1 k2 h l1 l2).push { cls:=.type "tuple",data:=.seq #[.ref h.objs.size,.ref (zh1 k1 h l1).objs.size] }
noncomputable abbrev zh4(k1 k2:RK)(h:Heap)(l1 l2:Addr):Heap:=(zh3 k1 k2 h l1 l2).push { cls:=.type "tuple",data:=.seq #[.none,.none] }
noncomputable abbrev zh5(k1 k2:RK)(h:Heap)(l1 l2:Addr):Heap:=(zh4 k1 k2 h l1 l2).push { cls:=.type "zip",data:=.fields #[.none,.bool false,.bool false,.ref (zh2 k1 k2 h l1 l2).objs.size,.ref (zh3 k1 k2 h l1 l2).objs.size] }
theorem zip_made(k1 k2:RK)(l1 l2:Addr)(xs ys:Array Value):Meets (Builtin.«zip.__new__» ⟨[.type "zip",.ref l1,.ref l2],[]⟩) (fun _ R s=>k1.Sq s.heap l1 xs∧k2.Sq s.heap l2 ys∧R (.ok (.ret (.ref (zh4 k1 k2 s.heap l1 l2).objs.size))) { s with heap:=zh5 k1 k2 s.heap l1 l2 }):=
 .of_wp fun prog w A R s h=>by
  obtain⟨hp,g,d,tk,os⟩:=s
  obtain⟨q1,q2,h⟩:=h
  have hsub:=sub_zip
  have L1:k1.Sq (Shared.heap ⟨hp,g,d,tk,os⟩) l1 xs:=q1
  have L2:k2.Sq (Shared.heap ⟨hp.push (k1.itO l1),g,d,tk,os⟩) l2 ys:=q2.on fun o e=>Heap.get?_push_of_some _ e
  wp_walk using row_iter L1,row_iter L2
  exact⟨_,rfl,h⟩
def ZipAt(k1 k2:RK)(n l1 l2:Nat)(i:Nat)(h:Heap):Prop:=
 l1<n∧l2<n∧IsZip h (n+4) (n+2) (n+3) .none∧IsPair h (n+2) (.ref n) (.ref (n+1))∧(∃ a b,IsPair h (n+3) a b)∧k1.It h n l1 i∧k2.It h (n+1) l2 i
theorem call_zipK{prog:Program}{w:World}{A:Around}{E:Value→Shared→Prop}{s:Shared}{k1 k2:RK}{l1 l2:Nat}{xs ys:Array Value}{Q:Value→Shared→Prop}(q1:k1.Sq s.heap l1 xs)(q2:k2.Sq s.heap l2 ys)(b1:l1<s.heap.objs.size)(b2:l2<s.heap.objs.size)
  (h:∀ h',ZipAt k1 k2 s.heap.objs.size l1 l2 0 h'→(∀ c o,s.heap.get? c=some o→h'.get? c=some o)→Q (.ref (s.heap.objs.size+4)) { s with heap:=h' }):wpAny (model prog w) A (call (.type "zip") [.ref l1,.ref l2]) Q E s:=by
 refine callType_new F.called_zip (by decide) (F.typeCall_zip_2 _ _) (F.newCall_zip_2 _ _) (fun obj=>F.args_object_init_3 obj _ _) F.entry_zip_new (zip_made k1 k2 l1 l2 xs ys) ⟨q1,q2,?_⟩
 have z1:(zh1 k1 s.heap l1).objs.size=s.heap.objs.size+1:=Heap.size_push ..
 have z2:(zh2 k1 k2 s.heap l1 l2).objs.size=s.heap.objs.size+2:=by rw[Heap.size_push,z1]
 have z3:(zh3 k1 k2 s.heap l1 l2).objs.size=s.heap.objs.size+3:=by rw[Heap.size_push,z2]
 have z4:(zh4 k1 k2 s.heap l1 l2).objs.size=s.heap.objs.size+4:=by rw[Heap.size_push,z3]
 have g5:(zh5 k1 k2 s.heap l1 l2).get? (zh4 k1 k2 s.heap l1 l2).objs.size=some _:=Heap.get?_push_size _ rfl
 have g4:(zh5 k1 k2 s.heap l1 l2).get? (zh3 k1 k2 s.heap l1 l2).objs.size=some _:=Heap.get?_push_of_some _ (Heap.get?_push_size _ rfl)
 have g3:(zh5 k1 k2 s.heap l1 l2).get? (zh2 k1 k2 s.heap l1 l2).objs.size=some _:=Heap.get?_push_of_some _ (Heap.get?_push_of_some _ (Heap.get?_push_size _ rfl))
 have g2:k2.It (zh5 k1 k2 s.heap l1 l2) (zh1 k1 s.heap l1).objs.size l2 0:=row_new.on fun o e=>Heap.get?_push_of_some _ (Heap.get?_push_of_some _ (Heap.get?_push_of_some _ e))
 have g1:k1.It (zh5 k1 k2 s.heap l1 l2) s.heap.objs.size l1 0:=row_new.on fun o e=>Heap.get?_push_of_some _ (Heap.get?_push_of_some _ (Heap.get?_push_of_some _ (Heap.get?_push_of_some _ e)))
 show _∧_
 rw[z2,z3,z4]at g5
 rw[z1,z2]at g3
 rw[z3]at g4
 rw[z1]at g2
 rw[z4]
 exact⟨⟨_,g5,rfl⟩,h _ ⟨b1,b2,g5,g3,⟨_,_,g4⟩,g1,g2⟩ fun c o x=>Heap.get?_push_of_some _ (Heap.get?_push_of_some _ (Heap.get?_push_of_some _ (Heap.get?_push_of_some _ (Heap.get?_push_of_some _ x))))⟩
def RK.sq(k:RK)(K:PySem.W.Frag)(H:Hp)(a:Addr)(xs:List V):Prop:=match k with
 |.lst=>SqL K H a xs
 |.tup=>SqT K H a xs
noncomputable def Itz(K:PySem.W.Frag)(k1 k2:RK)(a b:Addr):It:=
 ⟨fun i H=>∃ xs ys x y,k1.sq K H a xs∧k2.sq K H b ys∧xs[i]?=some x∧ys[i]?=some y,
  fun i H v H'=>∃ p x y,v=.ref p∧H p=none∧H'=upd H p (.tup [x,y])∧(∀ xs,k1.sq K H a xs→xs[i]?=some x)∧∀ ys,k2.sq K H b ys→ys[i]?=some y,
  fun i H=>∃ xs ys,k1.sq K H a xs∧k2.sq K H b ys∧(xs.length≤i∨ys.length≤i)⟩
section
variable {X:Cx}{pins:List (Addr×Obj)}{σ:L2.St}{H:Hp}{s:Shared}
theorem row_of{k:RK}{a:Addr}{xs:List V}(I:Inv X pins σ H s)(q:k.sq X.K H a xs):∃ its,Vals xs its∧k.Sq s.heap a its.toArray:=by
 cases k with
 |lst=>obtain⟨its,rv,p,hz⟩:=I.list q; exact⟨its,rv,p.isList⟩
 |tup=>obtain⟨its,rv,p,hz⟩:=I.tuple q; exact⟨its,rv,show s.heap.IsTuple a its.toArray from p⟩
theorem row_inj{k:RK}{a:Addr}{xs ys:List V}(I:Inv X pins σ H s)(q:k.sq X.K H a xs)(q':k.sq X.K H a ys):xs=ys:=by
 cases k with
 |lst=>exact I.list_inj q q'
 |tup=>exact I.tuple_inj q q'
end
noncomputable def fpZ(n:Nat):List Addr:=[n+4,n+2,n+3,n,n+1]
theorem turn_zip{P:Program}{w:World}{K:PySem.W.Frag}{elts:List Expr}{c:Nat}{pos:Pos}(k1 k2:RK)(n a b:Nat):Turn P w K (.Tuple elts c pos) (Itz K k1 k2 a b) (fpZ n) (n+4) (ZipAt k1 k2 n a b) where
 mem:=by simp[fpZ]
 obj:=fun i h st e he=>by
  obtain⟨b1,b2,hz,hI,⟨x,y,hO⟩,h1,h2⟩:=st
  simp only[fpZ,List.mem_cons,List.not_mem_nil,or_false]at he
  rcases he with rfl|rfl|rfl|rfl|rfl
  ·exact⟨_,hz,fun v z=>nomatch z⟩
  ·exact⟨_,hI,fun v z=>nomatch z⟩
  ·exact⟨_,hO,fun v z=>nomatch z⟩
  ·exact h1.obj
  ·exact h2.obj
 keep:=fun i h h' st k=>by
  obtain⟨b1,b2,hz,hI,⟨x,y,hO⟩,h1,h2⟩:=st
  exact⟨b1,b2,k _ (by simp[fpZ]) _ hz,k _ (by simp[fpZ]) _ hI,⟨x,y,k _ (by simp[fpZ]) _ hO⟩,h1.on fun o e=>k _ (by simp[fpZ]) o e,h2.on fun o e=>k _ (by simp[fpZ]) o e⟩
 item:=by
  intro X hP hw hK hc i pins s σ H E I hf st hg
  subst hP hw hK
  obtain⟨xs,ys,x,y,qx,qy,ex,ey⟩:=hg
  obtain⟨b1,b2,hz,hI,⟨ua,ub,hO⟩,h1,h2⟩:=st
  obtain⟨vx,rx,sx⟩:=row_of I qx
  obtain⟨vy,ry,sy⟩:=row_of I qy
  obtain⟨u1,hu1,ru1⟩:=rx.get ex
  obtain⟨u2,hu2,ru2⟩:=ry.get ey
  refine zip_get b1 b2 hz hI hO h1 h2 sx sy (x:=u1) (y:=u2) (by simpa using hu1) (by simpa using hu2) fun h' a1 a2 a3 a4 a5 a6 kp=>⟨_,rfl,?_⟩
  refine wpAny_letOwnedTupleGo_zip (s:={ s with heap:=h' }) a1 fun h9 c1 c2=>?_
  have ex2:=c2.extBut
  have lt:∀ b∈fpZ n,b≠s.heap.objs.size:=fun b hb z=>by
   have q:b<s.heap.objs.size:=by
    simp only[fpZ,List.mem_cons,List.not_mem_nil,or_false]at hb
    rcases hb with rfl|rfl|rfl|rfl|rfl
    ·exact Heap.lt_size hz
    ·exact Heap.lt_size hI
    ·exact Heap.lt_size hO
    ·obtain⟨o,e,_⟩:=h1.obj; exact Heap.lt_size e
    ·obtain⟨o,e,_⟩:=h2.obj; exact Heap.lt_size e
   rw[z]at q
   exact Nat.lt_irrefl _ q
  have nz:s.heap.objs.size≠n+4:=fun z=>lt (n+4) (by simp[fpZ]) z.symm
  have I1:Inv X pins σ H { s with heap:=h9,toks:=s.toks }:=Inv.turnedL (ch:=fpZ n) I (fun b o hb e=>ex2 _ _ (fun z=>hb (by simp[fpZ,z])) (kp b o (fun z=>hb (by simp[fpZ,z])) (fun z=>hb (by simp[fpZ,z])) (fun z=>hb (by simp[fpZ,z])) (fun z=>hb (by simp[fpZ,z])) e)) hf
  have fr:H s.heap.objs.size=none:=I.hok.fresh (Nat.le_refl _)
  have I2:Inv X pins σ (upd H s.heap.objs.size (.tup [x,y])) { s with heap:=h9,toks:=s.toks }:=Inv.track I1 (I.fpOk (Nat.le_refl _) fr) ⟨by show 2≤sizeLine; decide,[u1,u2],.cons ru1 (.cons ru2 .nil),⟨_,ex2 _ _ nz a6,rfl,_,rfl⟩⟩
  refine⟨.ref s.heap.objs.size,upd H s.heap.objs.size (.tup [x,y]),I2,rfl,⟨_,x,y,rfl,fr,rfl,fun zs hz'=>?_,fun zs hz'=>?_⟩,⟨b1,b2,c1,ex2 _ _ (by show @Ne Nat _ _; omega) a2,⟨_,_,ex2 _ _ (by show @Ne Nat _ _; omega) a3⟩,a4.on fun o e=>ex2 _ o (by show @Ne Nat _ _; omega) e,a5.on fun o e=>ex2 _ o (by show @Ne Nat _ _; omega) e⟩,fun b hb=>?_⟩
  ·rw[row_inj I hz' qx]; exact ex
  ·rw[row_inj I hz' qy]; exact ey
  ·rw[upd_ne (lt b hb)]; exact(hf b hb).1
 done:=by
  intro X hP hw hK hc i pins s σ H E I hf st hg
  subst hP hw hK
  obtain⟨xs,ys,qx,qy,hend⟩:=hg
  obtain⟨b1,b2,hz,hI,⟨ua,ub,hO⟩,h1,h2⟩:=st
  obtain⟨vx,rx,sx⟩:=row_of I qx
  obtain⟨vy,ry,sy⟩:=row_of I qy
  have lx:=rx.length
  have ly:=ry.length
  refine zip_over (I.ok.hd hc) b1 b2 hz hI hO h1 h2 sx sy ?_ fun h' kp=>⟨rfl,Inv.turnedL (ch:=fpZ n) I (fun b o hb e=>kp b o (fun z=>hb (by simp[fpZ,z])) (fun z=>hb (by simp[fpZ,z])) (fun z=>hb (by simp[fpZ,z])) (fun z=>hb (by simp[fpZ,z])) e) hf⟩
  rcases hend with h|h
  ·exact .inl (by simp; omega)
  ·exact .inr (by simp; omega)
 self:=fun _ _ _ _ _ st h=>wpAny_pyIter_zip st.2.2.1 h
noncomputable def iZip(K:PySem.W.Frag)(ta:TA):TI:=fun σ H R=>ta σ H fun vs H1=>∃ (k1 k2:RK) (a b:Addr),vs=[.ref a,.ref b]∧(∃ xs,k1.sq K H1 a xs)∧(∃ ys,k2.sq K H1 b ys)∧R (Itz K k1 k2 a b) H1
theorem pi_zip{X:Cx}{a b:Expr}{ta:TA}{p pos:Pos}{elts:List Expr}{c:Nat}{tpos:Pos}(hg:Gl X "zip")(hm:X.mg "zip" = none)(ha:PA X [a,b] ta)(hs:starEach [a,b] X.env=[(false,eval a X.env),(false,eval b X.env)]:=by rfl)(hs2:starEach [b] X.env=[(false,eval b X.env)]:=by rfl):
  PI X (.Tuple elts c tpos) (.Call (.Name "zip" p) [a,b] [] pos) (iZip X.K ta):=by
 intro pins s σ H R I h
 refine Call_ (ld_blt I hg hm boot_zip (PyProof.Rows.callWith_type1 (thn (ha pos pins s σ H _ I h) fun us s1 ⟨vs,H1,I1,r1,q1⟩=>?_) (by rw[hs,hs2]) (by rw[hs2]; rfl)))
 obtain⟨k1,k2,a,b,e,⟨xs,qx⟩,⟨ys,qy⟩,q⟩:=q1
 subst e
 cases r1 with
 |cons r rr=>
  cases rr with
  |cons r' rr=>
   cases rr
   cases r
   cases r'
   obtain⟨vx,rx,sx⟩:=row_of I1 qx
   obtain⟨vy,ry,sy⟩:=row_of I1 qy
   have la:a<s1.heap.objs.size:=by
    cases k1<;>(obtain⟨o,e,_⟩:=sx; exact Heap.lt_size e)
   have lb:b<s1.heap.objs.size:=by
    cases k2<;>(obtain⟨o,e,_⟩:=sy; exact Heap.lt_size e)
   refine call_zipK sx sy la lb fun h' st kp=>?_
   refine wpAny_pyIter_zip (s:={ s1 with heap:=h' }) st.2.2.1 ?_
   refine⟨s1.heap.objs.size+4,fpZ s1.heap.objs.size,_,_,H1,rfl,I1.kept (t':=s1.toks) kp,turn_zip k1 k2 _ a b,st,fun d hd=>?_,q⟩
   have ld:s1.heap.objs.size≤d:=by
    simp only[fpZ,List.mem_cons,List.not_mem_nil,or_false]at hd
    rcases hd with rfl|rfl|rfl|rfl|rfl<;>(show @LE.le Nat _ _ _; omega)
   exact I1.fpOk ld (I1.hok.fresh ld)
end MS
end
section
namespace MS
open PySem PySem.Spec PyProof.Rows L2
section
variable {X:Cx}
theorem mt_findD:MtM X "str.find" (fun x xs H Q=>∃ m st a ds d st',Rel X.K m st H∧MS.IsD X.K m H a x∧IsDs X.K m H ds xs∧M.mFind st a ds=some (d,st')∧Post X.K m H d st' Q):=by
 intro pins s σ H x xs v us Q I rx rs h
 obtain⟨m,st,a,ds,d,st',R0,i1,i2,e,q⟩:=h
 unfold M.mFind at e
 split at e
 ·rename_i z y
  obtain⟨c,e1,e2⟩:=mapD e
  cases e2
  have hy:=oneOf_eq e1
  subst hy
  have hx:=i1.str
  subst hx
  obtain⟨y',rfl,iy⟩:=i2.one
  have hy':=iy.str
  subst hy'
  obtain⟨t,rfl⟩:=rx
  cases rs with
  |cons r rr=>
   cases rr
   obtain⟨u,rfl⟩:=r
   refine SC.find ⟨.int _,H,I.tok _,⟨_,rfl⟩,?_⟩
   rw[find_one]
   exact q.here R0 (mkInt _)
 ·cases e
theorem strs_of{K:PySem.W.Frag}{m:List Addr}{H:Hp}:∀ {ds:List M.D}{xs:List V}{us:List Value}{ts:List Str},M.asStrs ds=some ts→IsDs K m H ds xs→Vals xs us→∃ l:List (Str×Tok),us=strValues l∧l.map (·.1)=ts
 |[],xs,us,ts,e,ix,r=>by
  cases e
  rw[ix.nil]at r
  cases r
  exact⟨[],rfl,rfl⟩
 |.str z::ds,xs,us,ts,e,ix,r=>by
  have e:(M.asStrs ds).map (z::·)=some ts:=e
  obtain⟨ts',e1,e2⟩:=mapD e
  subst e2
  obtain⟨x,xr,rfl,i1,i2⟩:=ix.cons
  have hx:=i1.str
  subst hx
  cases r with
  |cons r1 r2=>
   obtain⟨t,rfl⟩:=r1
   obtain⟨l,rfl,rfl⟩:=strs_of e1 i2 r2
   exact⟨(z,t)::l,rfl,rfl⟩
 |.non::ds,xs,us,ts,e,ix,r=>by cases e
 |.bl b::ds,xs,us,ts,e,ix,r=>by cases e
 |.int b::ds,xs,us,ts,e,ix,r=>by cases e
 |.tup b::ds,xs,us,ts,e,ix,r=>by cases e
 |.loc b::ds,xs,us,ts,e,ix,r=>by cases e
 |.lst b::ds,xs,us,ts,e,ix,r=>by cases e
theorem mt_joinD:MtM X "str.join" (fun x xs H Q=>∃ m st a ds d st',Rel X.K m st H∧MS.IsD X.K m H a x∧IsDs X.K m H ds xs∧M.mJoin st a ds=some (d,st')∧Post X.K m H d st' Q):=by
 intro pins s σ H x xs v us Q I rx rs h
 obtain⟨m,st,a,ds,d,st',R0,i1,i2,e,q⟩:=h
 unfold M.mJoin at e
 split at e
 ·rename_i z l
  obtain⟨es,e1,e⟩:=bindO e
  obtain⟨ts,e2,e⟩:=bindO e
  split at e
  ·rename_i hl
   cases e
   have hx:=i1.str
   subst hx
   obtain⟨y,rfl,iy⟩:=i2.one
   obtain⟨p,ys,_,rfl,hq,ix⟩:=R0.seq e1 iy
   obtain⟨t,rfl⟩:=rx
   cases rs with
   |cons r rr=>
    cases rr
    cases r
    obtain⟨its,rv,pl,hz⟩:=I.list hq
    obtain⟨w,rfl,rfl⟩:=strs_of e2 ix rv
    have hok:JoinOk z (w.map (·.1))=true:=by
     unfold JoinOk
     rw[PySem.StrLaws.joinTotal,Bool.not_eq_true']
     unfold Builtin.Str.tooLong
     rw[decide_eq_false_iff_not]
     have l2:=lim_eq
     omega
    refine SC.join pl.isList rfl hok fun t' k=>⟨.str _,H,I.tok k,⟨t',rfl⟩,?_⟩
    have ej:Txt.join z (w.map (·.1))=Str.join z (w.map (·.1)):=PySem.StrLaws.glued_eq_join _ _
    rw[ej]
    exact q.here R0 (mkStr _)
  ·cases e
 ·cases e
theorem call_intD:CallR X (.type "int") (rC X.K M.bInt):=by
 intro pins s σ H xs us Q I r h
 refine h.el fun m st ds d st' R0 ix e q=>?_
 unfold M.bInt at e
 split at e
 ·rename_i z
  split at e
  ·rename_i hz
   cases e
   obtain⟨x,rfl,i⟩:=ix.one
   have hx:=i.str
   subst hx
   cases r with
   |cons r rr=>
    cases rr
    obtain⟨t,rfl⟩:=r
    simp only[Bool.and_eq_true,decide_eq_true_eq]at hz
    obtain⟨⟨h1,h2⟩,h3⟩:=hz
    have hd:NumText.AllDigits z.cps.toList:=fun c hc=>by
     have:=List.all_eq_true.mp h2 c hc
     unfold M.isFig at this
     simpa using this
    have hne:z.cps.toList≠[]:=fun e=>by rw[e]at h1; cases h1
    exact PySem.W.KIN.call_text (PySem.intText_digits hd hne (by omega)) h3 ⟨.int _,H,I.tok _,⟨_,rfl⟩,q.here R0 (mkInt _)⟩
  ·cases e
 ·rename_i i
  cases e
  obtain⟨x,rfl,j⟩:=ix.one
  exact call_int1 pins s σ H _ us Q I r (.inl ⟨i,by rw[j.int],q.here R0 (mkInt _)⟩)
 ·rename_i k
  cases e
  obtain⟨x,rfl,j⟩:=ix.one
  exact call_int1 pins s σ H _ us Q I r (.inr ⟨k,by rw[j.bl],q.here R0 (mkInt _)⟩)
 ·cases e
theorem call_strD:CallR X (.type "str") (rC X.K M.bStr):=by
 intro pins s σ H xs us Q I r h
 refine h.el fun m st ds d st' R0 ix e q=>?_
 unfold M.bStr at e
 split at e
 ·rename_i i
  split at e
  ·rename_i hi
   cases e
   obtain⟨x,rfl,j⟩:=ix.one
   exact call_str_int pins s σ H _ us Q I r ⟨i,by rw[j.int],hi,q.here R0 (mkStr _)⟩
  ·cases e
 ·rename_i z
  cases e
  obtain⟨x,rfl,j⟩:=ix.one
  have hx:=j.str
  subst hx
  cases r with
  |cons r1 r2=>
   cases r2
   obtain⟨t,rfl⟩:=r1
   exact P.str_of_str ⟨.str z,H,I,⟨t,rfl⟩,q.here R0 (mkStr _)⟩
 ·cases e
end
end MS
end
section
namespace MS
open PySem PySem.Spec PyProof.Rows L2
inductive EntOk (prm:Params):List DictEntry→List Str→List Value→Prop
 |nil:EntOk prm [] [] []
 |cons {k:Str}{t:Tok}{u:Value}{es:List DictEntry}{ks:List Str}{us:List Value}(h:EntOk prm es ks us):EntOk prm (⟨PyData.keyHash prm k,.str k t,u⟩::es) (k::ks) (u::us)
structure FDict (prm:Params) (K:PySem.W.Frag) (a:Addr) (ks:List Str) (ds:List M.D):Prop where
 ex:∃ (us:List Value) (vs:List V) (es:Array DictEntry) (ep:Nat),K.lookup a=some { cls:=.type "dict",data:=.dict es ep }∧EntOk prm es.toList ks us∧Vals vs us∧∀ m H,IsDs K m H ds vs
 nd:ks.Nodup
 ne:(a==sysModules)=false
section
variable {X:Cx}{b:Expr}{tb:TE}{pos p0:Pos}{x:Str}
open M (D Cell Store Sl)
end
end MS
end
section
namespace MS
open PySem PySem.Spec PyProof.Rows L2
noncomputable def joinL(c:Nat):List (List Nat)→List Nat
 |[]=>[]
 |[p]=>p
 |p::q::r=>p++c::joinL c (q::r)
theorem join_toL(c:Nat):∀ ts:List Str,(Str.join ⟨#[c]⟩ ts).cps.toList=joinL c (ts.map (·.cps.toList))
 |[]=>rfl
 |[t]=>rfl
 |t::u::r=>by
  have ih:=join_toL c (u::r)
  show(t++⟨#[c]⟩++Str.join ⟨#[c]⟩ (u::r)).cps.toList=_
  show((t.cps++#[c])++(Str.join ⟨#[c]⟩ (u::r)).cps).toList=t.cps.toList++c::joinL c ((u::r).map (·.cps.toList))
  rw[Array.toList_append,Array.toList_append,ih]
  simp
theorem first_cut{c:Nat}:∀ {p q a b:List Nat},c ∉ p→c ∉ q→p++c::a=q++c::b→p=q∧a=b
 |[],[],a,b,_,_,e=>by simpa using e
 |[],y::q,a,b,_,hq,e=>by
  have:c=y:=by simpa using congrArg List.head? e
  exact absurd (by rw[this]; exact List.mem_cons_self) hq
 |x::p,[],a,b,hp,_,e=>by
  have:x=c:=by simpa using congrArg List.head? e
  exact absurd (by rw[this]; exact List.mem_cons_self) hp
 |x::p,y::q,a,b,hp,hq,e=>by
  rw[List.cons_append,List.cons_append]at e
  injection e with e1 e2
  obtain⟨h1,h2⟩:=first_cut (fun z=>hp (List.mem_cons_of_mem _ z)) (fun z=>hq (List.mem_cons_of_mem _ z)) e2
  exact⟨by rw[e1,h1],h2⟩
theorem uniq{c:Nat}:∀ {ps qs:List (List Nat)},ps≠[]→qs≠[]→(∀ p∈ps,c ∉ p)→(∀ q∈qs,c ∉ q)→joinL c ps=joinL c qs→ps=qs
 |[],qs,h,_,_,_,_=>absurd rfl h
 |ps,[],_,h,_,_,_=>absurd rfl h
 |[p],[q],_,_,_,_,e=>by rw[show p=q from e]
 |[p],q::q2::qr,_,_,hp,_,e=>by
  have e:p=q++c::joinL c (q2::qr):=e
  exact absurd (by rw[e]; simp) (hp p List.mem_cons_self)
 |p::p2::pr,[q],_,_,_,hq,e=>by
  have e:p++c::joinL c (p2::pr)=q:=e
  exact absurd (by rw[← e]; simp) (hq q List.mem_cons_self)
 |p::p2::pr,q::q2::qr,_,_,hp,hq,e=>by
  have e:p++c::joinL c (p2::pr)=q++c::joinL c (q2::qr):=e
  obtain⟨h1,h2⟩:=first_cut (hp p List.mem_cons_self) (hq q List.mem_cons_self) e
  rw[h1,uniq (List.cons_ne_nil _ _) (List.cons_ne_nil _ _) (fun z hz=>hp z (List.mem_cons_of_mem _ hz)) (fun z hz=>hq z (List.mem_cons_of_mem _ hz)) h2]
theorem splitC_spec(c:Nat):∀ cs:List Nat,M.splitC c cs≠[]∧(∀ p∈M.splitC c cs,c ∉ p)∧joinL c (M.splitC c cs)=cs∧(M.splitC c cs).length≤cs.length+1
 |[]=>⟨by simp[M.splitC],by simp[M.splitC],rfl,by simp[M.splitC]⟩
 |x::r=>by
  obtain⟨h1,h2,h3,h4⟩:=splitC_spec c r
  unfold M.splitC
  by_cases hx:x=c
  ·rw[if_pos hx]
   refine⟨by simp,?_,?_,by simp only[List.length_cons]; omega⟩
   ·intro p hp
    rcases List.mem_cons.mp hp with q|q
    ·rw[q]; simp
    ·exact h2 p q
   ·cases hs:M.splitC c r with
    |nil=>exact absurd hs h1
    |cons p ps=>
     rw[hs]at h3
     show []++c::joinL c (p::ps)=_
     rw[h3,hx]
     rfl
  ·rw[if_neg hx]
   cases hs:M.splitC c r with
   |nil=>exact absurd hs h1
   |cons p ps=>
    rw[hs]at h2 h3 h4
    refine⟨by simp,?_,?_,by simp only[List.length_cons]at h4 ⊢; omega⟩
    ·intro q hq
     rcases List.mem_cons.mp hq with z|z
     ·rw[z]
      intro hm
      rcases List.mem_cons.mp hm with y|y
      ·exact hx y.symm
      ·exact h2 p List.mem_cons_self y
     ·exact h2 q (List.mem_cons_of_mem _ z)
    ·cases ps with
     |nil=>show x::p=x::r; rw[show p=r from h3]
     |cons p2 pr=>
      have h3:p++c::joinL c (p2::pr)=r:=h3
      show(x::p)++c::joinL c (p2::pr)=x::r
      rw[List.cons_append,h3]
theorem split_ne(z y:Str):Txt.split z y≠[]:=by
 unfold Txt.split
 split
 ·simp
 ·split
  ·simp
  ·intro h
   unfold Builtin.Str.partsBetween at h
   simp at h
theorem split_eq(z:Str)(c:Nat):Txt.split z ⟨#[c]⟩=(M.splitC c z.cps.toList).map fun p=>(⟨p.toArray⟩:Str):=by
 obtain⟨h1,h2,h3,_⟩:=splitC_spec c z.cps.toList
 have e1:=congrArg (fun t:Str=>t.cps.toList) (PySem.StrLaws.join_split z ⟨#[c]⟩)
 rw[join_toL]at e1
 have e2:(Txt.split z ⟨#[c]⟩).map (·.cps.toList)=M.splitC c z.cps.toList:=by
  refine uniq (by simpa using split_ne z ⟨#[c]⟩) h1 (fun p hp=>?_) h2 (e1.trans h3.symm)
  obtain⟨t,ht,rfl⟩:=List.mem_map.mp hp
  exact PySem.StrLaws.split_free z c t ht
 rw[← e2,List.map_map]
 have:((fun p:List Nat=>(⟨p.toArray⟩:Str))∘fun t:Str=>t.cps.toList)=id:=funext fun t=>by
  obtain⟨a⟩:=t
  simp
 rw[this,List.map_id]
section
variable {prog:Program}{w:World}{A:Around}{E:Value→Shared→Prop}{s:Shared}{x:Str}{t:Tok}{Q:Value→Shared→Prop}
theorem split_new{y:Str}{u:Tok}(hy:(y.length==0)=false)(hz:x.length≤sizeLine)(hz2:(Builtin.Str.partsBetween x (Builtin.Str.occurrences x y 0 x.length (x.length+1)) y.length).length≤sizeLine)
  (hq:∀ (l:List (Str×Tok)) (k:Nat),l.map (·.1)=Txt.split x y→Q (.ref s.heap.objs.size) { s with heap:=s.heap.push { cls:=.type "list",data:=.seq (strValues l).toArray },toks:=k }) :
  wpAny (model prog w) A (call (.builtin "str.split") [.str x t,.str y u]) Q E s:=by
 cases h1:(decide (x.length<y.length)||decide (Builtin.Str.strKind x<Builtin.Str.strKind y)) with
 |true=>exact call_meets PySem.F.slot_str_split (typeIs_str _ _ _) PySem.F.entry_str_split (PySem.F.args_str_split_2 _ _) (meets_str_split_cannot_occur x y t u h1) (hq [(x,t)] s.toks (if_pos h1).symm)
 |false=>
  have n1:¬ (decide (x.length<y.length)||decide (Builtin.Str.strKind x<Builtin.Str.strKind y))=true:=by rw[h1]; nofun
  cases h2:(Builtin.Str.occurrences x y 0 x.length (x.length+1)).isEmpty with
  |true=>exact call_meets PySem.F.slot_str_split (typeIs_str _ _ _) PySem.F.entry_str_split (PySem.F.args_str_split_2 _ _) (meets_str_split_not_found x y t u h1 hy h2) (hq [(x,t)] s.toks ((if_neg n1).trans (if_pos h2)).symm)
  |false=>
   have n2:¬ (Builtin.Str.occurrences x y 0 x.length (x.length+1)).isEmpty=true:=by rw[h2]; nofun
   refine call_meets PySem.F.slot_str_split (typeIs_str _ _ _) PySem.F.entry_str_split (PySem.F.args_str_split_2 _ _) (meets_str_split_sep x y t u h1 hy h2 hz hz2) ?_
   show wants Q E _ { s with toks:=_,heap:=s.heap.push { cls:=.type "list",data:=.seq (strsFrom s.toks (Builtin.Str.partsBetween x (Builtin.Str.occurrences x y 0 x.length (x.length+1)) y.length)).toArray } }
   rw[strsFrom_eq]
   exact hq (numbered s.toks _) _ ((numbered_texts _ _).trans ((if_neg n1).trans (if_neg n2)).symm)
end
theorem vals_strs:∀ l:List (Str×Tok),Vals (l.map fun p=>V.str p.1) (strValues l)
 |[]=>.nil
 |p::r=>.cons ⟨p.2,rfl⟩ (vals_strs r)
theorem isDs_strs{K:PySem.W.Frag}{m:List Addr}{H:Hp}:∀ ts:List Str,IsDs K m H (ts.map M.D.str) (ts.map V.str)
 |[]=>mkNil
 |t::r=>mkCons (mkStr t) (isDs_strs r)
section
variable {X:Cx}
theorem mt_splitD:MtM X "str.split" (fun x xs H Q=>∃ m st a ds d st',Rel X.K m st H∧MS.IsD X.K m H a x∧IsDs X.K m H ds xs∧M.mSplit st a ds=some (d,st')∧Post X.K m H d st' Q):=by
 intro pins s σ H x xs v us Q I rx rs h
 obtain⟨m,st,a,ds,d,st',R0,i1,i2,e,q⟩:=h
 unfold M.mSplit at e
 split at e
 ·rename_i z y
  obtain⟨c,e1,e⟩:=bindO e
  split at e
  ·rename_i hl
   cases e
   have hy:=oneOf_eq e1
   subst hy
   have hx:=i1.str
   subst hx
   obtain⟨y',rfl,iy⟩:=i2.one
   have hy':=iy.str
   subst hy'
   obtain⟨t,rfl⟩:=rx
   cases rs with
   |cons r rr=>
    cases rr
    obtain⟨u,rfl⟩:=r
    have hsp:=split_eq z c
    obtain⟨_,_,_,h4⟩:=splitC_spec c z.cps.toList
    have hll:z.cps.toList.length=z.length:=by simp[Str.length]
    have l2:=lim_eq
    have hlim:M.lim=16777216:=rfl
    have hparts:(Builtin.Str.partsBetween z (Builtin.Str.occurrences z ⟨#[c]⟩ 0 z.length (z.length+1)) (⟨#[c]⟩:Str).length).length≤sizeLine:=by
     have:=PySem.StrLaws.occ_length_le z ⟨#[c]⟩ 0 z.length (z.length+1)
     unfold Builtin.Str.partsBetween
     simp
     omega
    refine split_new rfl (by omega) hparts fun l k hk=>?_
    have hp:=I.hok.fresh (Nat.le_refl s.heap.objs.size)
    have hts:l.map (·.1)=(M.splitC c z.cps.toList).map fun p=>(⟨p.toArray⟩:Str):=hk.trans hsp
    have hlen:l.length=(M.splitC c z.cps.toList).length:=by simpa using congrArg List.length hts
    refine⟨.ref s.heap.objs.size,_,I.laid (a:=s.heap.objs.size) (o:=.lst (l.map fun p=>V.str p.1)) (fun _ _ w=>Heap.get?_push_of_some _ w) (Nat.le_refl _) ⟨?_,strValues l,0,vals_strs l,Heap.get?_push_size _ rfl⟩,rfl,?_⟩
    ·rw[List.length_map]; omega
    ·have ed:(M.splitC c z.cps.toList).map (fun p=>M.D.str ⟨p.toArray⟩)=(l.map (·.1)).map M.D.str:=by rw[hts,List.map_map]; rfl
     have ev:(l.map fun p=>V.str p.1)=(l.map (·.1)).map V.str:=by rw[List.map_map]; rfl
     have key:IsDs X.K m H ((M.splitC c z.cps.toList).map fun p=>M.D.str ⟨p.toArray⟩) (l.map fun p=>V.str p.1):=by
      rw[ed,ev]; exact isDs_strs _
     exact q _ (m++[s.heap.objs.size]) _ (Sub.app _ _) (Tr.of_same (same_new hp)) (R0.new hp key) R0.newLoc
  ·cases e
 ·cases e
inductive PEs (X:Cx):List Expr→List TE→Prop
 |nil:PEs X [] []
 |cons {p:Expr}{ps:List Expr}{t:TE}{ts:List TE}(h:PE X p t) (r:PEs X ps ts):PEs X (p::ps) (t::ts)
open M (D Cell Store Sl)
end
end MS
end
section
namespace MS
open PySem PySem.Spec PyProof.Rows L2
open M (D Cell Store Sl)
section
variable {K:PySem.W.Frag}{m m1:List Addr}{H H1:Hp}
mutual
theorem isD_nl:∀ (d:D) (v:V),M.noLoc d=true→MS.IsD K m1 H1 d v→MS.IsD K m H1 d v
 |.non,_,_,h=>by rw[h.non]; exact mkNon
 |.bl _,_,_,h=>by rw[h.bl]; exact mkBl _
 |.int _,_,_,h=>by rw[h.int]; exact mkInt _
 |.str _,_,_,h=>by rw[h.str]; exact mkStr _
 |.tup ds,_,n,h=>by
  obtain⟨a,xs,rfl,q,r⟩:=h.tup
  unfold M.noLoc at n
  exact mkTup q (isDs_nl ds xs n r)
 |.lst ds,_,n,h=>by
  obtain⟨a,xs,rfl,q,r⟩:=h.lst
  unfold M.noLoc at n
  exact mkLst q (isDs_nl ds xs n r)
 |.loc l,_,n,h=>by unfold M.noLoc at n; cases n
theorem isDs_nl:∀ (ds:List D) (xs:List V),M.noLocs ds=true→IsDs K m1 H1 ds xs→IsDs K m H1 ds xs
 |[],_,_,h=>by rw[h.nil]; exact mkNil
 |d::ds,_,n,h=>by
  obtain⟨x,r,rfl,q,t⟩:=h.cons
  unfold M.noLocs at n
  rw[Bool.and_eq_true]at n
  exact mkCons (isD_nl d x n.1 q) (isDs_nl ds r n.2 t)
end
mutual
theorem isD_back(s:Sub m m1):∀ (d:D) (v v1:V),MS.IsD K m H d v→MS.IsD K m1 H1 d v1→MS.IsD K m H1 d v1
 |.non,_,_,_,h=>by rw[h.non]; exact mkNon
 |.bl _,_,_,_,h=>by rw[h.bl]; exact mkBl _
 |.int _,_,_,_,h=>by rw[h.int]; exact mkInt _
 |.str _,_,_,_,h=>by rw[h.str]; exact mkStr _
 |.tup ds,_,_,h0,h=>by
  obtain⟨a,xs,rfl,q,r⟩:=h.tup
  obtain⟨a0,xs0,_,_,r0⟩:=h0.tup
  exact mkTup q (isDs_back s ds xs0 xs r0 r)
 |.lst ds,_,_,h0,h=>by
  obtain⟨a,xs,rfl,q,r⟩:=h.lst
  obtain⟨a0,xs0,_,_,r0⟩:=h0.lst
  exact mkLst q (isDs_back s ds xs0 xs r0 r)
 |.loc l,_,_,h0,h=>by
  obtain⟨a0,e0,_⟩:=h0.loc
  obtain⟨a,e,rfl⟩:=h.loc
  have:=s l a0 e0
  rw[e]at this
  cases this
  exact mkLoc e0
theorem isDs_back(s:Sub m m1):∀ (ds:List D) (xs xs1:List V),IsDs K m H ds xs→IsDs K m1 H1 ds xs1→IsDs K m H1 ds xs1
 |[],_,_,_,h=>by rw[h.nil]; exact mkNil
 |d::ds,_,_,h0,h=>by
  obtain⟨x,r,rfl,q,t⟩:=h.cons
  obtain⟨x0,r0,rfl,q0,t0⟩:=h0.cons
  exact mkCons (isD_back s d x0 x q0 q) (isDs_back s ds r0 r t0 t)
end
theorem isKV_back(s:Sub m m1):∀ (kvs:List (D×D)) (xs xs1:List (Key×V)),IsKV K m H kvs xs→IsKV K m1 H1 kvs xs1→IsKV K m H1 kvs xs1
 |[],_,_,_,h=>h
 |p::r,_,_,⟨k0,v0,xr0,e0,hk0,hv0,hr0⟩,⟨k,v,xr,e,hk,hv,hr⟩=>⟨k,v,xr,e,hk,isD_back s _ _ _ hv0 hv,isKV_back s r _ _ hr0 hr⟩
theorem isC_back(s:Sub m m1){c:Cell}{a:Addr}(h0:IsC K m H c a)(h:IsC K m1 H1 c a):IsC K m H1 c a:=by
 cases c with
 |lst w ds=>
  cases w with
  |true=>
   obtain⟨xs,e,q⟩:=h
   obtain⟨xs0,_,q0⟩:=h0
   exact⟨xs,e,isDs_back s _ _ _ q0 q⟩
  |false=>
   obtain⟨xs,e,q⟩:=h
   obtain⟨xs0,_,q0⟩:=h0
   exact⟨xs,e,isDs_back s _ _ _ q0 q⟩
 |dic kvs=>
  obtain⟨xs,e,q⟩:=h
  obtain⟨xs0,_,q0⟩:=h0
  exact⟨xs,e,isKV_back s _ _ _ q0 q⟩
theorem pre_at{st st0:Store}(h:st0.take st.length=st){l:Nat}{c:Cell}(e:st[l]?=some c):st0[l]?=some c:=by
 have hl:=(List.getElem?_eq_some_iff.mp e).1
 rw[← h,List.getElem?_take,if_pos hl]at e
 exact e
theorem Rel.cutBack{st st0:Store}(R0:Rel K m st H)(R1:Rel K m1 st0 H1)(s:Sub m m1)(h:st0.take st.length=st){H2:Hp}(t:Tr H1 H2)(hw:∀ (l:Nat) (c:Cell) (a:Addr),st[l]?=some c→m[l]?=some a→Wr c=true→H2 a=H1 a):Rel K m st H2:=
 ⟨R0.len,R0.nd,fun l c a e ea=>isC_mono (Sub.refl m) t (isC_back s (R0.cell l c a e ea) (R1.cell l c a (pre_at h e) (s l a ea))) fun w=>hw l c a e ea w⟩
end
section
variable {X:Cx}
theorem inv_freeze{pins:List (Addr×Obj)}{s:Shared}{σ:L2.St}{H:Hp}{a:Addr}{xs:List V}(I:Inv X pins σ H s)(h:H a=some (.lst xs)):∃ o,Inv X pins σ (upd H a (.frz o (.lst xs))) s:=by
 obtain⟨z,its,n,r,e⟩:=id (I.hok a _ h)
 refine⟨{ cls:=.type "list",data:=.seq its.toArray n },I.un (t':=s.toks) (h':=s.heap) ⟨fun b o q _ _ _=>q,fun b o q _ _ _=>⟨o.slots,q⟩,fun b o q hn _=>?_,fun b o q _=>⟨o,q⟩,fun b ys q=>?_,fun b o u q=>?_,fun b ps q=>⟨#[],?_⟩⟩ ?_⟩
 ·rw[upd_ne (fun z=>by subst z; rw[h]at hn; cases hn)]
  exact hn
 ·rw[upd_ne (ne_of q h (by intro z; cases z))]; exact q
 ·rw[upd_ne (ne_of q h (by intro z; cases z))]; exact q
 ·rw[upd_ne (ne_of q h (by intro z; cases z)),q]; simp
 ·intro b u q
  by_cases hb:b=a
  ·subst hb
   rw[upd_same]at q
   cases q
   exact⟨e,z,its,n,r,e⟩
  ·rw[upd_ne hb]at q
   refine(I.hok b u q).stay (fun c v _ w=>w) (fun c w=>?_) fun c ys w=>?_
   ·rw[upd_ne (ne_of w h (by intro z; cases z))]; exact w
   ·rw[upd_ne (ne_of w h (by intro z; cases z))]; exact w
theorem pe_gc{p:Expr}{f:Sl→Store→Option (D×Store)}(he:PE X p (tD X.K f)):PE X p (tD X.K fun τ st=>(f τ st).map fun q=>M.gcD st q):=by
 intro pins s σ H Q I h
 refine h.el fun m st τ d st' R0 S0 e q=>?_
 obtain⟨⟨d0,st0⟩,e1,e2⟩:=mapD e
 refine thn (he pins s σ H (fun v H1=>∃ m1,Sub m m1∧Tr H H1∧Rel X.K m1 st0 H1∧MS.IsD X.K m1 H1 d0 v) I ⟨m,st,τ,d0,st0,R0,S0,e1,fun v m1 H1 b1 t1 R1 i1=>⟨m1,b1,t1,R1,i1⟩⟩) fun v s1 ⟨x,H1,I1,r1,m1,b1,t1,R1,i1⟩=>?_
 have plain:(d0,st0)=(d,st')→EP X pins σ Q v s1:=fun z=>by
  cases z
  exact⟨x,H1,I1,r1,q x m1 H1 b1 t1 R1 i1⟩
 unfold M.gcD at e2
 split at e2
 ·rename_i hp
  split at e2
  ·rename_i hn
   cases e2
   refine⟨x,H1,I1,r1,q x m H1 (Sub.refl m) t1 (R0.cutBack R1 b1 hp (Tr.refl H1) fun _ _ _ _ _ _=>rfl) (isD_nl _ _ hn i1)⟩
  ·split at e2
   ·rename_i l hd
    simp only at hd
    split at e2
    ·rename_i hl
     split at e2
     ·rename_i ds hc
      split at e2
      ·rename_i hn
       cases e2
       subst hd
       obtain⟨a,ha,rfl⟩:=i1.loc
       obtain⟨xs,hx,ix⟩:=R1.cell l _ a hc ha
       obtain⟨o,I2⟩:=inv_freeze I1 hx
       have t2:Tr H1 (upd H1 a (.frz o (.lst xs))):=⟨fun b zs e=>by rw[upd_ne (ne_of e hx (by intro z; cases z))]; exact e,fun b o u e=>by rw[upd_ne (ne_of e hx (by intro z; cases z))]; exact e⟩
       refine⟨.ref a,_,I2,r1,q _ m _ (Sub.refl m) (t1.trans t2) (R0.cutBack R1 b1 hp t2 fun l' c a' e ea w=>?_) ?_⟩
       ·refine upd_ne fun z=>?_
        subst z
        have hlt:=(List.getElem?_eq_some_iff.mp e).1
        have:=R1.nd l' l a' c _ (b1 l' a' ea) ha (pre_at hp e) hc w rfl
        omega
       ·exact mkLst (.inl ⟨o,upd_same⟩) (isDs_nl _ _ hn (isDs_mono (Sub.refl m1) t2 _ _ ix))
      ·exact plain e2
     ·exact plain e2
    ·exact plain e2
   ·exact plain e2
 ·exact plain e2
end
end MS
end
section
namespace MS
open PySem PySem.Spec PyProof.Rows L2
open M (D Cell Store Sl)
section
variable {X:Cx}
theorem mt_indexD(hu:X.A.units+64<cLine):MtM X "list.index" (fun x xs H Q=>∃ m st a ds d st',Rel X.K m st H∧MS.IsD X.K m H a x∧IsDs X.K m H ds xs∧M.mIndex st a ds=some (d,st')∧Post X.K m H d st' Q):=by
 intro pins s σ H x xs v us Q I rx rs h
 obtain⟨m,st,a,ds,d,st',R0,i1,i2,e,q⟩:=h
 unfold M.mIndex at e
 split at e
 ·rename_i x0
  obtain⟨ds0,e1,e⟩:=bindO e
  split at e
  ·rename_i hf
   rw[Bool.and_eq_true]at hf
   obtain⟨j,e2,e3⟩:=mapD e
   cases e3
   obtain⟨y,rfl,iy⟩:=i2.one
   obtain⟨u,rfl,ru⟩:=rs.one
   obtain⟨b,zs,_,rfl,hq,iz⟩:=R0.seq e1 i1
   cases rx
   obtain⟨its,r,⟨⟨cls,dd,data,sl⟩,n,h1,h2,h4,h3⟩,hz⟩:=I.list hq
   simp only at h2 h3
   subst h2 h3
   have l3:=iz.length
   have l4:=r.length
   obtain⟨hj,hpj,hnj⟩:=List.findIdx?_eq_some_iff_getElem.mp e2
   have hz2:(sizeLine:Nat)<2 ^ 40:=by decide
   have hu1:X.A.in1.units+9<cLine:=by have hz:X.A.in1.units=X.A.units+1:=rfl; omega
   obtain⟨ef,ha⟩:=ans_of I X.A.in1 hu1 hf.1 iy ru
   obtain⟨k1,k2⟩:=ha ds0 zs its hf.2 iz r
   have at_:∀ k (hk:k<its.length),ef its[k]=M.eqT ds0[k] x0:=fun k hk=>by
    have g1:ds0[k]?=some ds0[k]:=by simp
    obtain⟨x1,w1,q1⟩:=iz.get g1
    obtain⟨u1,w2,q2⟩:=r.get w1
    have e5:its[k]=u1:=by
     have:its[k]?=some its[k]:=by simp
     rw[w2]at this
     exact(Option.some.inj this).symm
    rw[e5]
    obtain⟨_,k3⟩:=ha [ds0[k]] [x1] [u1] (by simp[M.flats,flats_get hf.2 g1]) (mkCons q1 mkNil) (.cons q2 .nil)
    simpa using k3
   refine call_meets F.slot_list_index ⟨_,h1,rfl⟩ F.entry_list_index (F.args_list_index_2 _ _) (SeqAt.list_indexAt b its.toArray n dd sl u ef j (by rw[List.size_toArray]; omega) (by omega) ?_ ?_) ⟨h1,fun y hy=>k1 y (by simpa using hy),?_⟩
   ·rw[List.getElem_toArray,at_ j (by omega)]
    exact hpj
   ·intro k hk hkj
    rw[List.getElem_toArray,at_ k (by simpa using hk)]
    simpa using hnj k hkj
   ·exact⟨.int j,H,I.tok _,⟨_,rfl⟩,q.here R0 (mkInt _)⟩
  ·cases e
 ·cases e
noncomputable def Itg(lo c:Int)(n:Nat):It:=⟨fun i _=>i<n,fun i H x H'=>H'=H∧x=.int (lo+i*c),fun i _=>n≤i⟩
theorem turn_rangeC{P:Program}{w:World}{K:PySem.W.Frag}{tg:Expr}(it:Addr)(lo c:Int)(n:Nat):Turn P w K tg (Itg lo c n) [it] it (fun i h=>IsRangeIter h it (lo+(i:Nat)*c) ((n:Int) - (i:Nat)) c) where
 mem:=by simp
 obj:=fun i h st b hb=>by
  have e:b=it:=by simpa using hb
  subst e
  exact⟨_,st,fun v z=>by
   have z':Data.fields _=Data.cell v:=z
   cases z'⟩
 keep:=fun i h h' st k=>k it (by simp) _ st
 item:=by
  intro X hP hw hK hc i pins s σ H E I hf st hg
  subst hP hw hK
  obtain⟨f0,f1,f2,f3,f4,f5⟩:=hf it (by simp)
  have W:=Walks.range (prog:=X.prog) (w:=X.w) (I.ok.hd hc) it lo c n
  refine W.item i s _ _ hg st fun v h' tk hv st' kk=>?_
  obtain⟨t,rfl⟩:=hv
  have I1:Inv X pins σ H { s with heap:=h',toks:=tk }:=I.turned (fun b o hb e=>kk b o (by simpa using hb) e) f0 f1 f3 f4 f5
  exact⟨_,rfl,go_of (s:={ s with heap:=h',toks:=tk }) (n:="range_iterator") st' rfl rfl (by decide) ⟨.int (lo+i*c),H,I1,⟨t,rfl⟩,⟨rfl,rfl⟩,st',fun b hb=>(hf b hb).1⟩⟩
 done:=by
  intro X hP hw hK hc i pins s σ H E I hf st hg
  subst hP hw hK
  obtain⟨f0,f1,f2,f3,f4,f5⟩:=hf it (by simp)
  exact wpAny_pyNext_range_end (I.ok.hd hc) st (by have:n≤i:=hg; omega) fun h' eb=>⟨rfl,I.turned (t':=s.toks) (fun b o hb e=>eb b o hb e) f0 f1 f3 f4 f5⟩
 self:=fun _ _ _ _ _ st h=>wpAny_pyIter_rangeiter st h
theorem size_pos{lo hi c:Int}(hc:0<c):Builtin.Range.rangeSize lo hi c=if lo<hi then(hi - lo - 1) / c+1 else 0:=by
 unfold Builtin.Range.rangeSize
 rw[if_pos hc]
theorem small_c{lo hi c:Int}(h1:-(2 ^ 62)≤lo)(h2:lo<2 ^ 62)(h3:-(2 ^ 62)≤hi)(h4:hi<2 ^ 62)(hc:0<c)(hc2:c<1000):Builtin.Range.small lo hi c=true:=by
 unfold Builtin.Range.small
 rw[size_pos hc]
 have e1:lo<hi→0≤(hi - lo - 1) / c:=fun h=>Int.ediv_nonneg (by omega) (by omega)
 have e2:lo<hi→(hi - lo - 1) / c≤hi - lo - 1:=fun h=>Int.ediv_le_self _ (by omega)
 simp only[Builtin.Range.rangeFitsLong,Bool.and_eq_true,Bool.or_eq_true,decide_eq_true_eq,beq_iff_eq,hc,if_true]
 split<;>omega
theorem range_itC{tg:Expr}{pins:List (Addr×Obj)}{σ:L2.St}{H:Hp}{s:Shared}{R:It→Hp→Prop}{E:Value→Shared→Prop}{lo hi c:Int}{t u v:Tok}{tk:Nat}(I:Inv X pins σ H s)(h1:-(2 ^ 62)≤lo)(h2:lo<2 ^ 62)(h3:-(2 ^ 62)≤hi)(h4:hi<2 ^ 62)(hc:0<c)(hc2:c<1000)
  (q:R (Itg lo c (if lo<hi then(hi - lo - 1) / c+1 else 0).toNat) H):wpAny (model X.prog X.w) X.A (pyIter (.ref s.heap.objs.size)) (PIE X pins σ tg R) E { s with heap:=s.heap.push { cls:=.type "range",data:=.fields #[.int lo t,.int hi u,.int c v] },toks:=tk }:=by
 refine wpAny_pyIter_range (IsRange.new ..) (small_c h1 h2 h3 h4 hc hc2) ?_
 have I1:Inv X pins σ H { s with heap:=s.heap.push { cls:=.type "range",data:=.fields #[.int lo t,.int hi u,.int c v] },toks:=tk }:=I.kept fun b o e=>Heap.get?_push_of_some _ e
 refine⟨(s.heap.push { cls:=.type "range",data:=.fields #[.int lo t,.int hi u,.int c v] }).objs.size,[(s.heap.push { cls:=.type "range",data:=.fields #[.int lo t,.int hi u,.int c v] }).objs.size],_,_,H,rfl,
  I1.kept (t':=tk) fun b o e=>Heap.get?_push_of_some _ e,turn_rangeC _ lo c (if lo<hi then(hi - lo - 1) / c+1 else 0).toNat,?_,fun b hb=>?_,q⟩
 ·have e1:lo+((0:Nat):Int)*c=lo:=by simp
  have e2:(((if lo<hi then(hi - lo - 1) / c+1 else 0).toNat:Nat):Int) - ((0:Nat):Int)=Builtin.Range.rangeSize lo hi c:=by
   rw[size_pos hc]
   have:lo<hi→0≤(hi - lo - 1) / c:=fun h=>Int.ediv_nonneg (by omega) (by omega)
   split<;>omega
  show IsRangeIter _ _ (lo+((0:Nat):Int)*c) ((((if lo<hi then(hi - lo - 1) / c+1 else 0).toNat:Nat):Int) - ((0:Nat):Int)) c
  rw[e1,e2]
  exact Heap.get?_push_size _ rfl
 ·have e:b=(s.heap.push { cls:=.type "range",data:=.fields #[.int lo t,.int hi u,.int c v] }).objs.size:=by simpa using hb
  subst e
  exact I1.fpOk (Nat.le_refl _) (I1.hok.fresh (Nat.le_refl _))
noncomputable def iRng3(ta:TA):TI:=fun σ H R=>ta σ H fun vs H1=>∃ i j k:Int,vs=[.int i,.int j,.int k]∧(-(2 ^ 62)≤i∧i<2 ^ 62∧-(2 ^ 62)≤j∧j<2 ^ 62∧0<k∧k<1000)∧R (Itg i k (if i<j then(j - i - 1) / k+1 else 0).toNat) H1
theorem pi_range3{tg a b c:Expr}{ta:TA}{p pos:Pos}(hg:Gl X "range")(hm:X.mg "range" = none)(ha:PA X [a,b,c] ta)(hs:starEach [a,b,c] X.env=[(false,eval a X.env),(false,eval b X.env),(false,eval c X.env)])(hs2:starEach [b,c] X.env=[(false,eval b X.env),(false,eval c X.env)]):
  PI X tg (.Call (.Name "range" p) [a,b,c] [] pos) (iRng3 ta):=by
 intro pins s σ H R I h
 refine Call_ (ld_blt I hg hm boot_range (PyProof.Rows.callWith_type1 (thn (ha pos pins s σ H _ I h) fun us s1 ⟨vs,H1,I1,r1,q1⟩=>?_) (by rw[hs,hs2]) (by rw[hs2]; rfl)))
 obtain⟨i,j,k,e,⟨q1,q2,q3,q4,q5,q6⟩,q⟩:=q1
 subst e
 cases r1 with
 |cons r rr=>
  cases rr with
  |cons r' rr=>
   cases rr with
   |cons r'' rr=>
    cases rr
    obtain⟨t,rfl⟩:=r
    obtain⟨t',rfl⟩:=r'
    obtain⟨t'',rfl⟩:=r''
    exact call_range_3 (by omega) (range_itC I1 q1 q2 q3 q4 q5 q6 q) (.inl (PyProof.noPylong_of_log2 (by
     have h5:k.natAbs.log2<10:=(Nat.log2_lt (by omega)).mpr (by omega)
     omega)))
end
end MS
end
section
namespace MS
open PySem PySem.Spec PyProof.Rows L2
open M (D Cell Store Sl E S T Src Fn Out R)
theorem ps_setComp{X:Cx}{elt tg iter:Expr}{ifs:List Expr}{scope:Scope}{pos pos' cpos:Pos}{N:List Str}{src:List (Option Nat)}{wi:TI}{g:TG}{tt:TT}{te:TE}{i:Nat}{x:Str}(hc:X.calm=true)(S:CompScope X N src scope)(hi:PI X tg iter wi)
  (hg:∀ C fp s H,PG (cxComp X N scope C fp s H) tg g) (ht:∀ C fp s H,TestR (cxComp X N scope C fp s H) ifs tt) (he:∀ C fp s H,PE (cxComp X N scope C fp s H) elt te)
  (hs:∀ x,foldedSetIterable iter X.env x=pure x) (hN:X.N.Nodup) (hx:X.N[i]?=some x) (hl:Loc X.env.scope x) (hf:X.fn x=true∨X.env.scope.names.lookup x=some .local)
  (hsw:swapsWith (.ListComp elt [⟨tg,iter,ifs,0⟩] scope cpos) (some (.Name x pos')) pos.line X.env=pure true) :
  PS X (.Assign [.Name x pos'] (.ListComp elt [⟨tg,iter,ifs,0⟩] scope cpos) pos) (tAsg (tComp src wi g tt te) (gName i)):=by
 intro pins s σ H D I h
 rw[exec_Assign_Name_used _ _ _ _ hsw]
 refine wpAny_bind (wpAny_standAt (wpAny_bind ?_))
 show wpAny _ X.A (do let _ ← comprehension (.ListComp elt [⟨tg,iter,ifs,0⟩] scope cpos) scope X.env _ (newList []) false (eval iter X.env) (some (assign (.Name x pos') X.env))) _ _ s
 refine wpAny_bind (wpAny_mono (wpAny_comprehension_free (use:=some (assign (.Name x pos') X.env)) (Q:=fun _ s'=>SP X pins D .next s') rfl hs (comp_clos S I) S.kind S.loc (thn (hi pins s σ H _ I h) fun v s1 h1=>thn h1 fun itv s2 h2=>?_)) (fun _ s' hq=>wpAny_pure (wpAny_pure hq)) fun _ _ e=>e)
 obtain⟨it,fp,tn,J,H2,e,I2,T,st2,f2,W,w0,turn⟩:=h2
 subst e
 refine comp_block (Ex:=fun _ _=>NoX) hc I2 T st2 f2 S (fun C=>hg C fp s2 H2) (fun C=>ht C fp s2 H2) (fun _ C=>he C fp s2 H2) (fun _ _ _ _ _ z=>z.elim) W w0 turn ?_
 intro Dd C s' H' acc fin nD I' fC hm
 obtain⟨m',hn⟩:=hm
 obtain⟨c0,c1,c2,c3,c4,c5⟩:=fC
 show wpAny _ X.A (assign (.Name x pos') X.env (.ref Dd)) _ _ _
 refine wpAny_assign_Name (store_ok2 I' hN hx hl (show RelV (.ref Dd) (.ref Dd) from rfl) (fun s'' I'' hsb=>?_) hf)
 obtain⟨a,sb,ha⟩:=hsb
 have hCa:C≠a:=by
  rcases ha with z|z
  ·rw[z]; exact c1
  ·exact fun q=>c4 x a z q.symm
 refine⟨m',hn.sameBut sb hCa,fun h' sb'=>?_⟩
 exact⟨_,_,I''.turned (t':=s''.toks) (fun b o hb e=>(sb'.2 b hb).trans e) c0 c1 c3 c4 c5,fin Dd nD⟩
noncomputable def iSeq(K:PySem.W.Frag)(tl:TE):TI:=fun σ H R=>tl σ H fun x H1=>(∃ a,x=.ref a∧(((∃ xs,SqL K H1 a xs)∧R (Itl K a) H1)∨((∃ xs,SqT K H1 a xs)∧R (Itt K a) H1)))∨∃ z,x=.str z∧z.cps.all (· < 128)=true∧R (Its z) H1
theorem pi_seq{X:Cx}{tg l:Expr}{tl:TE}(hl:PE X l tl):PI X tg l (iSeq X.K tl):=by
 intro pins s σ H R I h
 refine thn (hl pins s σ H _ I h) fun v s1 ⟨x,H1,I1,r1,q1⟩=>?_
 rcases q1 with⟨a,e,q⟩|⟨z,e,ha,q⟩
 ·subst e
  cases r1
  rcases q with⟨⟨xs,hq⟩,q⟩|⟨⟨xs,hq⟩,q⟩
  ·obtain⟨its,rv,p,hz⟩:=I1.list hq
   refine wpAny_pyIter_list p.isList ?_
   refine⟨s1.heap.objs.size,[s1.heap.objs.size],_,_,H1,rfl,I1.kept (t':=s1.toks) fun b o e=>Heap.get?_push_of_some _ e,turn_list a _,⟨_,Heap.get?_push_size _ rfl,rfl,rfl⟩,fun b hb=>?_,q⟩
   have e:b=s1.heap.objs.size:=by simpa using hb
   subst e
   exact I1.fpOk (Nat.le_refl _) (I1.hok.fresh (Nat.le_refl _))
  ·obtain⟨its,rv,p,hz⟩:=I1.tuple hq
   refine wpAny_pyIter_tuple (show s1.heap.IsTuple a its.toArray from p) ?_
   refine⟨s1.heap.objs.size,[s1.heap.objs.size],_,_,H1,rfl,I1.kept (t':=s1.toks) fun b o e=>Heap.get?_push_of_some _ e,turn_tuple a _,⟨_,Heap.get?_push_size _ rfl,rfl,rfl⟩,fun b hb=>?_,q⟩
   have e:b=s1.heap.objs.size:=by simpa using hb
   subst e
   exact I1.fpOk (Nat.le_refl _) (I1.hok.fresh (Nat.le_refl _))
 ·subst e
  obtain⟨t,rfl⟩:=r1
  refine wpAny_pyIter_ascii ha ?_
  refine⟨s1.heap.objs.size,[s1.heap.objs.size],_,_,H1,rfl,I1.kept (t':=s1.toks) fun b o e=>Heap.get?_push_of_some _ e,turn_text z t _,⟨_,Heap.get?_push_size _ rfl,rfl,rfl⟩,fun b hb=>?_,q⟩
  have e:b=s1.heap.objs.size:=by simpa using hb
  subst e
  exact I1.fpOk (Nat.le_refl _) (I1.hok.fresh (Nat.le_refl _))
structure Glo where
 cs:List (Str×D)
 ds:List (Str×List Str×List D)
structure Ctx where
 N:List Str
 sc:Scope
 fns:List Str
 glo:Glo
noncomputable def bName:M.B→String
 |.len=>"len"
 |.min=>"min"
 |.max=>"max"
 |.tuple=>"tuple"
 |.list=>"list"
 |.all=>"all"
 |.sorted=>"sorted"
 |.int=>"int"
 |.str=>"str"
 |.any=>"any"
noncomputable def bOk:M.B→Bool
 |.len=>true
 |.min=>false
 |.max=>false
 |.tuple=>true
 |.list=>false
 |.all=>true
 |.sorted=>false
 |.int=>true
 |.str=>true
 |.any=>true
noncomputable def relab(scope sc:Scope):Scope:={ scope with names:=scope.names.map fun(n,k)=>if (k==NameKind.free&&sc.kind==.function&&sc.names.lookup n==some .cell) then(n,NameKind.cell) else(n,k) }
noncomputable def tlOk(N:List Str)(sc:Scope)(t:T):Bool:=t.slots.all fun i=>match N[i]? with
 |some x=>sc.names.lookup x==some .local
 |none=>false
theorem tlOk_of{N:List Str}{sc:Scope}{t:T}(h:tlOk N sc t=true):∀ i∈t.slots,∀ x,N[i]?=some x→sc.names.lookup x=some .local:=by
 intro i hi x hx
 unfold tlOk at h
 have:=List.all_eq_true.mp h i hi
 rw[hx]at this
 simpa using this
def Star(p:Expr):Prop:=∀ es env,starEach (p::es) env=(false,eval p env)::starEach es env
inductive CkTys (c:Ctx):List M.Ty→List Expr→Prop
 |nil:CkTys c [] []
 |cons {t ts ps pos} (ht:t≠.non) (hg:c.sc.names.lookup (Str.ofString t.name)=some .globalImplicit) (h:CkTys c ts ps):CkTys c (t::ts) (.Name (Str.ofString t.name) pos::ps)
inductive CkTs (c:Ctx):List Nat→List Expr→Prop
 |nil:CkTs c [] []
 |cons {i x pos is es} (hN:c.N[i]?=some x) (hl:c.sc.names.lookup x=some .local∨c.sc.names.lookup x=some .cell) (h:CkTs c is es):CkTs c (i::is) (.Name x pos::es)
inductive CkT (c:Ctx):T→Expr→Prop
 |tup {is es k pos} (h:CkTs c is es):CkT c (.tup is) (.Tuple es k pos)
 |var {i x pos} (hN:c.N[i]?=some x) (hl:c.sc.names.lookup x=some .local∨c.sc.names.lookup x=some .cell):CkT c (.var i) (.Name x pos)
noncomputable def gcOk:Expr→Bool
 |.Call _ _ _ _=>true
 |.ListComp _ _ _ _=>true
 |.List _ _=>true
 |.BinOp _ _ _ _=>true
 |.Subscript _ _ _=>true
 |_=>false
inductive CkL (R:E→Expr→Prop):List E→List Expr→Prop
 |nil:CkL R [] []
 |cons {e es p ps} (h:R e p) (t:CkL R es ps):CkL R (e::es) (p::ps)
inductive CkP (R:E→Expr→Prop):List E→List (Option Expr)→List Expr→Prop
 |nil:CkP R [] [] []
 |cons {k v es pk pv ks vs} (hk:R k pk) (hv:R v pv) (t:CkP R es ks vs):CkP R (k::v::es) (some pk::ks) (pv::vs)
inductive CkO (R:E→Expr→Prop):Option E→Option Expr→Prop
 |none:CkO R none none
 |some {e p} (h:R e p):CkO R (some e) (some p)
inductive CkI (R:E→Expr→Prop):Ctx→Expr→E→Expr→Prop
 |rng1 {c tg a pa p0 pos} (hg:c.sc.names.lookup ("range" : Str)=some .globalImplicit) (ha:R a pa):CkI R c tg (.rng1 a) (.Call (.Name "range" p0) [pa] [] pos)
 |rng3 {c tg a b d pa pb pd p0 pos} (hg:c.sc.names.lookup ("range" : Str)=some .globalImplicit) (ha:R a pa) (hb:R b pb) (hd:R d pd):CkI R c tg (.rng3 a b d) (.Call (.Name "range" p0) [pa,pb,pd] [] pos)
 |zip {c es k tp a b pa pb p0 pos} (hg:c.sc.names.lookup ("zip" : Str)=some .globalImplicit) (ha:R a pa) (hb:R b pb):CkI R c (.Tuple es k tp) (.zip a b) (.Call (.Name "zip" p0) [pa,pb] [] pos)
 |seq {c tg e p} (h:R e p):CkI R c tg e p
inductive CkF (R:Ctx→E→Expr→Prop):Ctx→E→Expr→Prop
 |var {c i x pos} (hN:c.N[i]?=some x) (hv:Vis c.sc x) (hd:(x==("__debug__" : Str))=false) (hcd:(x==("__classdict__" : Str))=false):CkF R c (.var i) (.Name x pos)
 |int {c i j pos}:CkF R c (.lit (.int i)) (.Constant (.int i) j pos)
 |bl {c i j pos}:CkF R c (.lit (.bl i)) (.Constant (.bool i) j pos)
 |non {c j pos}:CkF R c (.lit .non) (.Constant .none j pos)
 |str {c i j pos}:CkF R c (.lit (.str i)) (.Constant (.str i) j pos)
 |glo {c x d pos} (hg:c.sc.names.lookup x=some .globalImplicit) (hm:(x,d)∈c.glo.cs) (hd:(x==("__debug__" : Str))=false):CkF R c (.glo x d) (.Name x pos)
 |bin {c op a b pa pb pos} (ha:R c a pa) (hb:R c b pb):CkF R c (.bin op a b) (.BinOp pa op pb pos)
 |rev {c a pa p2 p3 p4 j pos} (ha:R c a pa):CkF R c (.rev a) (.Subscript pa (.Slice none none (some (.UnaryOp .USub (.Constant (.int 1) j p3) p4)) p2) pos)
 |neg {c a pa pos} (ha:R c a pa):CkF R c (.neg a) (.UnaryOp .USub pa pos)
 |not {c a pa pos} (ha:R c a pa):CkF R c (.not a) (.UnaryOp .Not pa pos)
 |cmp {c op a b pa pb pos} (ha:R c a pa) (hb:R c b pb) (hm:behindInMarks op pb=false):CkF R c (.cmp op a b) (.Compare pa [op] [pb] pos)
 |and2 {c a b pa pb pos} (ha:R c a pa) (hb:R c b pb):CkF R c (.and a b) (.BoolOp .And [pa,pb] pos)
 |andN {c a b pa pb pd r pos} (ha:R c a pa) (hb:R c b (.BoolOp .And (pb::pd::r) pos)):CkF R c (.and a b) (.BoolOp .And (pa::pb::pd::r) pos)
 |or2 {c a b pa pb pos} (ha:R c a pa) (hb:R c b pb):CkF R c (.or a b) (.BoolOp .Or [pa,pb] pos)
 |orN {c a b pa pb pd r pos} (ha:R c a pa) (hb:R c b (.BoolOp .Or (pb::pd::r) pos)):CkF R c (.or a b) (.BoolOp .Or (pa::pb::pd::r) pos)
 |ite {c q a b pq pa pb pos} (hq:R c q pq) (ha:R c a pa) (hb:R c b pb):CkF R c (.ite q a b) (.IfExp pq pa pb pos)
 |tup {c es ps k pos} (h:CkL (R c) es ps):CkF R c (.tup es) (.Tuple ps k pos)
 |lst {c es ps pos} (h:CkL (R c) es ps):CkF R c (.lst es) (.List ps pos)
 |idx {c a b pa pb pos} (ha:R c a pa) (hb:R c b pb) (hs:PlainIx pb):CkF R c (.idx a b) (.Subscript pa pb pos)
 |call {c f x es p ps p0 pos} (hg:c.sc.names.lookup x=some .globalImplicit) (hf:c.fns[f]?=some x) (hd:(x==("__debug__" : Str))=false) (h:CkL (R c) es (p::ps)):CkF R c (.call f es) (.Call (.Name x p0) (p::ps) [] pos)
 |bcall {c b es p ps p0 pos} (hg:c.sc.names.lookup (Str.ofString (bName b))=some .globalImplicit) (hb:bOk b=true) (h:CkL (R c) es (p::ps)):CkF R c (.bcall b es) (.Call (.Name (Str.ofString (bName b)) p0) (p::ps) [] pos)
 |isi1 {c t a pa p0 p1 pos} (hg:c.sc.names.lookup ("isinstance" : Str)=some .globalImplicit) (ht:t≠.non) (hgt:c.sc.names.lookup (Str.ofString t.name)=some .globalImplicit) (ha:R c a pa):CkF R c (.isi a [t] false) (.Call (.Name "isinstance" p0) [pa,.Name (Str.ofString t.name) p1] [] pos)
 |isiN {c ts a pa p0 ps k p1 pos} (hl:ts.length≤1000) (hg:c.sc.names.lookup ("isinstance" : Str)=some .globalImplicit) (ht:CkTys c ts ps) (ha:R c a pa):CkF R c (.isi a ts true) (.Call (.Name "isinstance" p0) [pa,.Tuple ps k p1] [] pos)
 |append {c a e x xp pe apos cpos} (ha:R c a (.Name x xp)) (he:R c e pe) (hl:(apos.endLine==cpos.line)=true):CkF R c (.meth a .append [e]) (.Call (.Attribute (.Name x xp) "append" apos) [pe] [] cpos)
 |index {c a e pa pe apos cpos} (ha:R c a pa) (he:R c e pe) (hb:∀ env,attributeBase pa "index" env (eval pa env)=eval pa env) (hl:(apos.endLine==cpos.line)=true):CkF R c (.meth a .index [e]) (.Call (.Attribute pa "index" apos) [pe] [] cpos)
 |find {c a e pa pe apos cpos} (ha:R c a pa) (he:R c e pe) (hb:∀ env,attributeBase pa "find" env (eval pa env)=eval pa env) (hl:(apos.endLine==cpos.line)=true):CkF R c (.meth a .find [e]) (.Call (.Attribute pa "find" apos) [pe] [] cpos)
 |join {c a e pa pe apos cpos} (ha:R c a pa) (he:R c e pe) (hb:∀ env,attributeBase pa "join" env (eval pa env)=eval pa env) (hl:(apos.endLine==cpos.line)=true):CkF R c (.meth a .join [e]) (.Call (.Attribute pa "join" apos) [pe] [] cpos)
 |split {c a e pa pe apos cpos} (ha:R c a pa) (he:R c e pe) (hb:∀ env,attributeBase pa "split" env (eval pa env)=eval pa env) (hl:(apos.endLine==cpos.line)=true):CkF R c (.meth a .split [e]) (.Call (.Attribute pa "split" apos) [pe] [] cpos)
 |gc {c a p} (hp:gcOk p=true) (hg:∀ b,a≠.gc b) (ha:R c a p):CkF R c (.gc a) p
 |comp {c t it elt sr tg iter pelt scope pos N} (hk:scope.kind=.function) (hcell:∀ y∈scope.names,y.2≠.cell) (hfree:∀ y∈scope.names,y.2=.free→c.sc.names.lookup y.1=some .cell∨c.sc.names.lookup y.1=some .free) (hloc:∀ y∈scope.names,y.2=.local→scope.names.lookup y.1=some .local) (hlen:sr.length=N.length) (hsrc:∀ (j i:Nat),sr[j]?=some (some i)→∃ x,N[j]?=some x∧c.N[i]?=some x∧scope.names.lookup x=some .free) (hnd:N.Nodup) (hs:∀ env x,foldedSetIterable iter env x=pure x) (hi:CkI (R c) c tg it iter) (ht:CkT ⟨N,relab scope c.sc,c.fns,c.glo⟩ t tg) (htl:tlOk N (relab scope c.sc) t=true) (he:R ⟨N,relab scope c.sc,c.fns,c.glo⟩ elt pelt):CkF R c (.comp t it none elt sr) (.ListComp pelt [⟨tg,iter,[],0⟩] scope pos)
 |sli {c a lo hi pa pl ph p2 pos} (ha:R c a pa) (hl:CkO (R c) lo pl) (hh:CkO (R c) hi ph):CkF R c (.sli a lo hi) (.Subscript pa (.Slice pl ph none p2) pos)
section
variable {R R':E→Expr→Prop}(k:∀ {e p},R e p→R' e p)
include k
theorem CkL.mono:∀ {es:List E}{ps:List Expr},CkL R es ps→CkL R' es ps
 |_,_,.nil=>.nil
 |_,_,.cons h t=>.cons (k h) (mono t)
theorem CkP.mono:∀ {es:List E}{ks:List (Option Expr)}{ps:List Expr},CkP R es ks ps→CkP R' es ks ps
 |_,_,_,.nil=>.nil
 |_,_,_,.cons h h' t=>.cons (k h) (k h') (mono t)
theorem CkO.mono{o:Option E}{p:Option Expr}(h:CkO R o p):CkO R' o p:=by
 cases h with
 |none=>exact .none
 |some h=>exact .some (k h)
theorem CkI.mono{c:Ctx}{tg:Expr}{e:E}{p:Expr}(h:CkI R c tg e p):CkI R' c tg e p:=by
 cases h with
 |rng1 hg ha=>exact .rng1 hg (k ha)
 |rng3 hg ha hb hd=>exact .rng3 hg (k ha) (k hb) (k hd)
 |zip hg ha hb=>exact .zip hg (k ha) (k hb)
 |seq h=>exact .seq (k h)
end
theorem CkF.mono{R R':Ctx→E→Expr→Prop}(k:∀ {c e p},R c e p→R' c e p){c:Ctx}{e:E}{p:Expr}(h:CkF R c e p):CkF R' c e p:=by
 cases h with
 |var hN hv hd hcd=>exact .var hN hv hd hcd
 |int=>exact .int
 |bl=>exact .bl
 |non=>exact .non
 |str=>exact .str
 |glo hg hm hd=>exact .glo hg hm hd
 |bin ha hb=>exact .bin (k ha) (k hb)
 |rev ha=>exact .rev (k ha)
 |neg ha=>exact .neg (k ha)
 |not ha=>exact .not (k ha)
 |cmp ha hb hm=>exact .cmp (k ha) (k hb) hm
 |and2 ha hb=>exact .and2 (k ha) (k hb)
 |andN ha hb=>exact .andN (k ha) (k hb)
 |or2 ha hb=>exact .or2 (k ha) (k hb)
 |orN ha hb=>exact .orN (k ha) (k hb)
 |ite hq ha hb=>exact .ite (k hq) (k ha) (k hb)
 |tup h=>exact .tup (CkL.mono k h)
 |lst h=>exact .lst (CkL.mono k h)
 |idx ha hb hs=>exact .idx (k ha) (k hb) hs
 |call hg hf hd h=>exact .call hg hf hd (CkL.mono k h)
 |bcall hg hb h=>exact .bcall hg hb (CkL.mono k h)
 |isi1 hg ht hgt ha=>exact .isi1 hg ht hgt (k ha)
 |isiN hl hg ht ha=>exact .isiN hl hg ht (k ha)
 |append ha he hl=>exact .append (k ha) (k he) hl
 |index ha he hb hl=>exact .index (k ha) (k he) hb hl
 |find ha he hb hl=>exact .find (k ha) (k he) hb hl
 |join ha he hb hl=>exact .join (k ha) (k he) hb hl
 |split ha he hb hl=>exact .split (k ha) (k he) hb hl
 |gc hp hg ha=>exact .gc hp hg (k ha)
 |comp hk hcell hfree hloc hlen hsrc hnd hs hi ht htl he=>exact .comp hk hcell hfree hloc hlen hsrc hnd hs (CkI.mono k hi) ht htl (k he)
 |sli ha hl hh=>exact .sli (k ha) (CkO.mono k hl) (CkO.mono k hh)
def CkE(c:Ctx)(e:E)(p:Expr):Prop:=∀ R:Ctx→E→Expr→Prop,(∀ c e p,CkF R c e p→R c e p)→R c e p
theorem CkE.mk{c:Ctx}{e:E}{p:Expr}(h:CkF CkE c e p):CkE c e p:=fun R k=>k c e p (h.mono fun q=>q R k)
theorem CkE.out{c:Ctx}{e:E}{p:Expr}(h:CkE c e p):CkF CkE c e p:=h (CkF CkE) fun _ _ _ q=>q.mono CkE.mk
noncomputable abbrev CkEs(c:Ctx):=CkL (CkE c)
theorem CkE.v{c i x pos}(hN:c.N[i]?=some x:=by rfl)(hv:Vis c.sc x:=by exact .inl rfl)(hd:(x==("__debug__" : Str))=false:=by rfl)(hcd:(x==("__classdict__" : Str))=false:=by rfl):CkE c (.var i) (.Name x pos):=.mk (.var hN hv hd hcd)
theorem CkE.var{c i x pos}(hN:c.N[i]?=some x)(hv:Vis c.sc x)(hd:(x==("__debug__" : Str))=false)(hcd:(x==("__classdict__" : Str))=false):CkE c (.var i) (.Name x pos):=.mk (.var hN hv hd hcd)
theorem CkE.int{c i j pos}:CkE c (.lit (.int i)) (.Constant (.int i) j pos):=.mk (.int)
theorem CkE.bl{c i j pos}:CkE c (.lit (.bl i)) (.Constant (.bool i) j pos):=.mk (.bl)
theorem CkE.non{c j pos}:CkE c (.lit .non) (.Constant .none j pos):=.mk (.non)
theorem CkE.str{c i j pos}:CkE c (.lit (.str i)) (.Constant (.str i) j pos):=.mk (.str)
theorem CkE.glo{c x d pos}(hg:c.sc.names.lookup x=some .globalImplicit)(hm:(x,d)∈c.glo.cs)(hd:(x==("__debug__" : Str))=false):CkE c (.glo x d) (.Name x pos):=.mk (.glo hg hm hd)
theorem CkE.bin{c op a b pa pb pos}(ha:CkE c a pa)(hb:CkE c b pb):CkE c (.bin op a b) (.BinOp pa op pb pos):=.mk (.bin ha hb)
theorem CkE.rev{c a pa p2 p3 p4 j pos}(ha:CkE c a pa):CkE c (.rev a) (.Subscript pa (.Slice none none (some (.UnaryOp .USub (.Constant (.int 1) j p3) p4)) p2) pos):=.mk (.rev ha)
theorem CkE.neg{c a pa pos}(ha:CkE c a pa):CkE c (.neg a) (.UnaryOp .USub pa pos):=.mk (.neg ha)
theorem CkE.not{c a pa pos}(ha:CkE c a pa):CkE c (.not a) (.UnaryOp .Not pa pos):=.mk (.not ha)
theorem CkE.cmp{c op a b pa pb pos}(ha:CkE c a pa)(hb:CkE c b pb)(hm:behindInMarks op pb=false:=by rfl):CkE c (.cmp op a b) (.Compare pa [op] [pb] pos):=.mk (.cmp ha hb hm)
theorem CkE.and2{c a b pa pb pos}(ha:CkE c a pa)(hb:CkE c b pb):CkE c (.and a b) (.BoolOp .And [pa,pb] pos):=.mk (.and2 ha hb)
theorem CkE.andN{c a b pa pb pd r pos}(ha:CkE c a pa)(hb:CkE c b (.BoolOp .And (pb::pd::r) pos)):CkE c (.and a b) (.BoolOp .And (pa::pb::pd::r) pos):=.mk (.andN ha hb)
theorem CkE.or2{c a b pa pb pos}(ha:CkE c a pa)(hb:CkE c b pb):CkE c (.or a b) (.BoolOp .Or [pa,pb] pos):=.mk (.or2 ha hb)
theorem CkE.orN{c a b pa pb pd r pos}(ha:CkE c a pa)(hb:CkE c b (.BoolOp .Or (pb::pd::r) pos)):CkE c (.or a b) (.BoolOp .Or (pa::pb::pd::r) pos):=.mk (.orN ha hb)
theorem CkE.ite{c q a b pq pa pb pos}(hq:CkE c q pq)(ha:CkE c a pa)(hb:CkE c b pb):CkE c (.ite q a b) (.IfExp pq pa pb pos):=.mk (.ite hq ha hb)
theorem CkE.tup{c es ps k pos}(h:CkL (CkE c) es ps):CkE c (.tup es) (.Tuple ps k pos):=.mk (.tup h)
theorem CkE.lst{c es ps pos}(h:CkL (CkE c) es ps):CkE c (.lst es) (.List ps pos):=.mk (.lst h)
theorem CkE.idx{c a b pa pb pos}(ha:CkE c a pa)(hb:CkE c b pb)(hs:PlainIx pb:=by exact fun _ _=>rfl):CkE c (.idx a b) (.Subscript pa pb pos):=.mk (.idx ha hb hs)
theorem CkE.call{c f x es p ps p0 pos}(h:CkL (CkE c) es (p::ps))(hg:c.sc.names.lookup x=some .globalImplicit:=by rfl)(hf:c.fns[f]?=some x:=by rfl)(hd:(x==("__debug__" : Str))=false:=by rfl):CkE c (.call f es) (.Call (.Name x p0) (p::ps) [] pos):=.mk (.call hg hf hd h)
theorem CkE.bcall{c b es p ps p0 pos}(h:CkL (CkE c) es (p::ps))(hg:c.sc.names.lookup (Str.ofString (bName b))=some .globalImplicit:=by rfl)(hb:bOk b=true:=by rfl):CkE c (.bcall b es) (.Call (.Name (Str.ofString (bName b)) p0) (p::ps) [] pos):=.mk (.bcall hg hb h)
theorem CkE.isi1{c t a pa p0 p1 pos}(ha:CkE c a pa)(hg:c.sc.names.lookup ("isinstance" : Str)=some .globalImplicit:=by rfl)(ht:t≠.non:=by decide)(hgt:c.sc.names.lookup (Str.ofString t.name)=some .globalImplicit:=by rfl):CkE c (.isi a [t] false) (.Call (.Name "isinstance" p0) [pa,.Name (Str.ofString t.name) p1] [] pos):=.mk (.isi1 hg ht hgt ha)
theorem CkE.isiN{c ts a pa p0 ps k p1 pos}(hl:ts.length≤1000)(hg:c.sc.names.lookup ("isinstance" : Str)=some .globalImplicit)(ht:CkTys c ts ps)(ha:CkE c a pa):CkE c (.isi a ts true) (.Call (.Name "isinstance" p0) [pa,.Tuple ps k p1] [] pos):=.mk (.isiN hl hg ht ha)
theorem CkE.append{c a e x xp pe apos cpos}(ha:CkE c a (.Name x xp))(he:CkE c e pe)(hl:(apos.endLine==cpos.line)=true):CkE c (.meth a .append [e]) (.Call (.Attribute (.Name x xp) "append" apos) [pe] [] cpos):=.mk (.append ha he hl)
theorem CkE.index{c a e pa pe apos cpos}(ha:CkE c a pa)(he:CkE c e pe)(hb:∀ env,attributeBase pa "index" env (eval pa env)=eval pa env)(hl:(apos.endLine==cpos.line)=true):CkE c (.meth a .index [e]) (.Call (.Attribute pa "index" apos) [pe] [] cpos):=.mk (.index ha he hb hl)
theorem CkE.find{c a e pa pe apos cpos}(ha:CkE c a pa)(he:CkE c e pe)(hb:∀ env,attributeBase pa "find" env (eval pa env)=eval pa env)(hl:(apos.endLine==cpos.line)=true):CkE c (.meth a .find [e]) (.Call (.Attribute pa "find" apos) [pe] [] cpos):=.mk (.find ha he hb hl)
theorem CkE.join{c a e pa pe apos cpos}(ha:CkE c a pa)(he:CkE c e pe)(hb:∀ env,attributeBase pa "join" env (eval pa env)=eval pa env)(hl:(apos.endLine==cpos.line)=true):CkE c (.meth a .join [e]) (.Call (.Attribute pa "join" apos) [pe] [] cpos):=.mk (.join ha he hb hl)
theorem CkE.split{c a e pa pe apos cpos}(ha:CkE c a pa)(he:CkE c e pe)(hb:∀ env,attributeBase pa "split" env (eval pa env)=eval pa env)(hl:(apos.endLine==cpos.line)=true):CkE c (.meth a .split [e]) (.Call (.Attribute pa "split" apos) [pe] [] cpos):=.mk (.split ha he hb hl)
theorem CkE.gc{c a p}(ha:CkE c a p)(hp:gcOk p=true:=by rfl)(hg:∀ b,a≠.gc b:=by exact fun _ z=>nomatch z):CkE c (.gc a) p:=.mk (.gc hp hg ha)
theorem CkE.comp{c t it elt sr tg iter pelt scope pos N}(hi:CkI (CkE c) c tg it iter)(ht:CkT ⟨N,relab scope c.sc,c.fns,c.glo⟩ t tg)(he:CkE ⟨N,relab scope c.sc,c.fns,c.glo⟩ elt pelt)(hk:scope.kind=.function:=by rfl)(hcell:∀ y∈scope.names,y.2≠.cell:=by decide +kernel)(hfree:∀ y∈scope.names,y.2=.free→c.sc.names.lookup y.1=some .cell∨c.sc.names.lookup y.1=some .free:=by decide +kernel)(hloc:∀ y∈scope.names,y.2=.local→scope.names.lookup y.1=some .local:=by decide +kernel)(hlen:sr.length=N.length:=by rfl)(hsrc:∀ (j i:Nat),sr[j]?=some (some i)→∃ x,N[j]?=some x∧c.N[i]?=some x∧scope.names.lookup x=some .free:=by exact src_of (by decide +kernel))(hnd:N.Nodup:=by decide +kernel)(hs:∀ env x,foldedSetIterable iter env x=pure x:=by exact fun _ _=>rfl)(htl:tlOk N (relab scope c.sc) t=true:=by decide +kernel):CkE c (.comp t it none elt sr) (.ListComp pelt [⟨tg,iter,[],0⟩] scope pos):=.mk (.comp hk hcell hfree hloc hlen hsrc hnd hs hi ht htl he)
theorem CkE.sli{c a lo hi pa pl ph p2 pos}(ha:CkE c a pa)(hl:CkO (CkE c) lo pl)(hh:CkO (CkE c) hi ph):CkE c (.sli a lo hi) (.Subscript pa (.Slice pl ph none p2) pos):=.mk (.sli ha hl hh)
mutual
inductive CkS:Ctx→S→Stmt→Prop
 |set {c i e x p pos pos'} (hN:c.N[i]?=some x) (hl:c.sc.names.lookup x=some .local∨c.sc.names.lookup x=some .cell) (h:CkE c e p) (hs:∀ env,swapsWith p (some (.Name x pos')) pos.line env=pure false):CkS c (.set (.var i) e) (.Assign [.Name x pos'] p pos)
 |setC {c i e x p pos pos'} (hN:c.N[i]?=some x) (hl:c.sc.names.lookup x=some .local∨c.sc.names.lookup x=some .cell) (h:CkE c e p) (hc:∃ elt gs sc q,p=.ListComp elt gs sc q) (hs:∀ env:Env,env.scope=c.sc→(swapsWith p (some (.Name x pos')) pos.line env=pure false∨swapsWith p (some (.Name x pos')) pos.line env=pure true)):CkS c (.set (.var i) e) (.Assign [.Name x pos'] p pos)
 |rais {c msg j p1 np cpos pos} (hg:c.sc.names.lookup ("BadText" : Str)=some .globalImplicit):CkS c .rais (.Raise (some (.Call (.Name "BadText" np) [.Constant (.str msg) j p1] [] cpos)) none pos)
 |setT {c is e es k p pos tpos} (ht:CkTs c is es) (h:CkE c e p) (hs:∀ env,swapsWithSole [.Tuple es k tpos] p pos.line env=pure false) (hw:∀ env,swappedStores [.Tuple es k tpos] p env=pure none) (h1:∀ env,(assignEach [.Tuple es k tpos] env).map (·.2)=[assign (.Tuple es k tpos) env]) :
   CkS c (.set (.tup is) e) (.Assign [.Tuple es k tpos] p pos)
 |expr {c e p pos} (h:CkE c e p) (hs:∀ env,swapsWith p none pos.line env=pure false):CkS c (.expr e) (.Expr p pos)
 |ret {c e p pos} (h:CkE c e p):CkS c (.ret e) (.Return (some p) pos)
 |ite {c q a b pq pa pb pos} (hq:CkE c q pq) (ha:CkSs c a pa) (hb:CkSs c b pb):CkS c (.ite q a b) (.If pq pa pb pos)
 |forr {c t it body tg iter pb pos} (ht:CkT c t tg) (hi:CkI (CkE c) c tg it iter) (hs:∀ env x,foldedSetIterable iter env x=pure x) (hb:CkSs c body pb):CkS c (.forr t it body) (.For tg iter pb [] pos)
inductive CkSs:Ctx→List S→List Stmt→Prop
 |nil {c}:CkSs c [] []
 |cons {c s ss p ps} (h:CkS c s p) (t:CkSs c ss ps):CkSs c (s::ss) (p::ps)
 |doc {c ss x j pos pos' ps} (t:CkSs c ss ps):CkSs c ss (.Expr (.Constant (.str x) j pos) pos'::ps)
end
theorem CkS.st{c i e x p pos pos'}(h:CkE c e p)(hN:c.N[i]?=some x:=by rfl)(hl:c.sc.names.lookup x=some .local∨c.sc.names.lookup x=some .cell:=by exact .inl rfl)(hs:∀ env,swapsWith p (some (.Name x pos')) pos.line env=pure false:=by exact fun _=>rfl):CkS c (.set (.var i) e) (.Assign [.Name x pos'] p pos):=.set hN hl h hs
theorem CkE.star{c:Ctx}{e:E}{p:Expr}(h:CkE c e p):Star p:=by
 cases h.out with
 |gc hp hg ha=>
  cases p with
  |Call=>exact fun _ _=>rfl
  |ListComp=>exact fun _ _=>rfl
  |List=>exact fun _ _=>rfl
  |BinOp=>exact fun _ _=>rfl
  |Subscript=>exact fun _ _=>rfl
  |_=>cases hp
 |_=>exact fun _ _=>rfl
noncomputable def spN(K:PySem.W.Frag)(fns:List Fn)(n f:Nat):Sp:=fun vs H Q _=>∃ m st ds d st',Rel K m st H∧IsDs K m H ds vs∧M.callD fns n f ds st=some (d,st')∧Post K m H d st' Q
def FTab(P:Program)(w:World)(K:PySem.W.Frag)(mg:Str→Option Value)(base:Heap)(fns:List Fn)(names:List Str)(n:Nat):Prop:=∀ (f:Nat) (x:Str),names[f]?=some x→∃ (fa:Addr) (fd:FuncData) (ps:List Str),
 mg x=some (.ref fa)∧FnOk P w K mg base CX0 n fa fd ps (spN K fns n f)∧PySem.W.keepIn K (.ref fa)=true∧Binds K fd ps []
structure Mo (K:PySem.W.Frag) (mg:Str→Option Value) (glo:Glo) (prm:Params):Prop where
 gds:∀ x ks ds,(x,ks,ds)∈glo.ds→∃ a,mg x=some (.ref a)∧FDict prm K a ks ds
 glo:∀ x d,(x,d)∈glo.cs→∃ u v,mg x=some u∧RelV v u∧∀ m H,IsD K m H d v
 len:mg "len" = none
 min:mg "min" = none
 max:mg "max" = none
 tuple:mg "tuple" = none
 list:mg "list" = none
 all:mg "all" = none
 sorted:mg "sorted" = none
 isinstance:mg "isinstance" = none
 range:mg "range" = none
 int:mg "int" = none
 bool:mg "bool" = none
 str:mg "str" = none
 zip:mg "zip" = none
 any:mg "any" = none
 enumerate:mg "enumerate" = none
 reversed:mg "reversed" = none
 sum:mg "sum" = none
 set:mg "set" = none
 dict:mg "dict" = none
structure Good (fns:List Fn) (dl:Nat) (c:Ctx) (X:Cx):Prop where
 room:Room dl X.A
 calm:X.calm=true
 N:X.N=c.N
 sc:X.env.scope=c.sc
 nd:c.N.Nodup
 kind:c.sc.kind=.function
 tab:FTab X.prog X.w X.K X.mg X.base fns c.fns dl
 mo:Mo X.K X.mg c.glo X.w.params
 xe:X.xe=fun _ _=>False
end MS
end
section
namespace MS
open PySem PySem.Spec PyProof.Rows L2
open M (D Cell Store Sl E S T Src Fn Out R)
theorem noStars{c:Ctx}:∀ {es:List E}{ps:List Expr},CkEs c es ps→∀ (pos:Pos) (env:Env),(backTo pos (starEach ps env)).any (·.1)=false
 |_,_,.nil,_,_=>rfl
 |_,_,.cons h t,pos,env=>by
  rw[h.star]
  show(false||(backTo pos (starEach _ env)).any (·.1))=false
  rw[noStars t pos env]
  rfl
theorem Good.gl{fns:List Fn}{dl:Nat}{c:Ctx}{X:Cx}(G:Good fns dl c X){x:Str}(h:c.sc.names.lookup x=some .globalImplicit):Gl X x:=by
 show X.env.scope.names.lookup x=_
 rw[G.sc]; exact h
theorem relabel_eq{scope sc:Scope}{env:Env}(h:env.scope=sc):relabel scope env=relab scope sc:=by
 unfold relabel relab Env.kindOf
 rw[h]
theorem Good.inner{fns:List Fn}{dl:Nat}{c:Ctx}{X:Cx}(G:Good fns dl c X){N:List Str}{scope:Scope}{C:Addr}{fp:List Addr}{s:Shared}{H:Hp}(hk:scope.kind=.function)(hnd:N.Nodup):Good fns dl ⟨N,relab scope c.sc,c.fns,c.glo⟩ (cxComp X N scope C fp s H):=
 ⟨G.room,G.calm,rfl,relabel_eq G.sc,hnd,hk,G.tab,G.mo,rfl⟩
noncomputable def IsRow(K:PySem.W.Frag)(m:List Addr)(H:Hp)(k:RK)(a:Addr):D→Prop
 |.tup ds=>k=.tup∧∃ xs,SqT K H a xs∧IsDs K m H ds xs
 |.loc l=>k=.lst∧m[l]?=some a
 |.lst ds=>k=.lst∧∃ xs,SqF K H a xs∧IsDs K m H ds xs
 |_=>False
theorem IsRow.mono{K:PySem.W.Frag}{m m':List Addr}{H H':Hp}{k:RK}{a:Addr}{d:D}(h:IsRow K m H k a d)(b:Sub m m')(t:Tr H H'):IsRow K m' H' k a d:=by
 cases d with
 |tup ds=>obtain⟨e,xs,q,r⟩:=h; exact⟨e,xs,t.sqT q,isDs_mono b t ds xs r⟩
 |loc l=>exact⟨h.1,b l a h.2⟩
 |lst ds=>obtain⟨e,xs,q,r⟩:=h; exact⟨e,xs,t.sqF q,isDs_mono b t ds xs r⟩
 |_=>exact h.elim
theorem IsRow.sq{K:PySem.W.Frag}{m:List Addr}{st:Store}{H:Hp}{k:RK}{a:Addr}{d:D}{ds:List D}(h:IsRow K m H k a d)(R0:Rel K m st H)(e:M.rowAt st d=some ds):∃ xs,k.sq K H a xs∧IsDs K m H ds xs:=by
 cases d with
 |tup es=>
  cases e
  obtain⟨rfl,xs,q,r⟩:=h
  exact⟨xs,q,r⟩
 |loc l=>
  obtain⟨rfl,ha⟩:=h
  obtain⟨a',xs,ha',z,q,r⟩:=R0.list e (mkLoc ha)
  cases z
  exact⟨xs,q,r⟩
 |lst es=>
  cases e
  obtain⟨rfl,xs,q,r⟩:=h
  exact⟨xs,q.sq,r⟩
 |_=>exact h.elim
theorem isRow_of{K:PySem.W.Frag}{m:List Addr}{st:Store}{H:Hp}{d:D}{v:V}{ds:List D}(iv:MS.IsD K m H d v)(R0:Rel K m st H)(e:M.rowAt st d=some ds):∃ k a,v=.ref a∧IsRow K m H k a d∧∃ xs,k.sq K H a xs:=by
 cases d with
 |tup es=>
  obtain⟨a,xs,rfl,q,r⟩:=iv.tup
  exact⟨.tup,a,rfl,⟨rfl,xs,q,r⟩,xs,q⟩
 |loc l=>
  obtain⟨a,xs,ha,rfl,q,r⟩:=R0.list e iv
  exact⟨.lst,a,rfl,⟨rfl,ha⟩,xs,q⟩
 |lst es=>
  obtain⟨a,xs,rfl,q,r⟩:=iv.lst
  exact⟨.lst,a,rfl,⟨rfl,xs,q,r⟩,xs,q.sq⟩
 |_=>cases e
theorem IsRow.sq'{K:PySem.W.Frag}{m:List Addr}{st:Store}{H:Hp}{a:Addr}{d:D}{ds:List D}(h:IsRow K m H .lst a d)(R0:Rel K m st H)(e:M.seqAt st d=some ds):∃ xs,SqL K H a xs∧IsDs K m H ds xs:=by
 cases d with
 |loc l=>exact h.sq R0 e
 |lst l=>exact h.sq R0 e
 |_=>cases e
theorem isRow_of'{K:PySem.W.Frag}{m:List Addr}{st:Store}{H:Hp}{d:D}{v:V}{ds:List D}(iv:MS.IsD K m H d v)(R0:Rel K m st H)(e:M.seqAt st d=some ds):∃ a,v=.ref a∧IsRow K m H .lst a d∧∃ xs,SqL K H a xs:=by
 cases d with
 |loc l=>
  obtain⟨a,xs,ha,rfl,q,r⟩:=R0.list e iv
  exact⟨a,rfl,⟨rfl,ha⟩,xs,q⟩
 |lst l=>
  obtain⟨a,xs,rfl,q,r⟩:=iv.lst
  exact⟨a,rfl,⟨rfl,xs,q,r⟩,xs,q.sq⟩
 |_=>cases e
noncomputable def IsSrc(K:PySem.W.Frag)(m:List Addr)(H:Hp):Src→It→Prop
 |.rng lo n,J=>J=Itr lo n
 |.tup ds,J=>∃ a xs,J=Itt K a∧SqT K H a xs∧IsDs K m H ds xs
 |.lst d,J=>∃ a,IsRow K m H .lst a d∧J=Itl K a
 |.str z,J=>J=Its z
 |.rgs lo c n,J=>J=Itg lo c n
 |.zip x y,J=>∃ (k1 k2:RK) (a b:Addr),J=Itz K k1 k2 a b∧IsRow K m H k1 a x∧IsRow K m H k2 b y
theorem IsSrc.mono{K:PySem.W.Frag}{m m':List Addr}{H H':Hp}{s:Src}{J:It}(h:IsSrc K m H s J)(b:Sub m m')(t:Tr H H'):IsSrc K m' H' s J:=by
 cases s with
 |rng lo n=>exact h
 |tup ds=>obtain⟨a,xs,e,q,r⟩:=h; exact⟨a,xs,e,t.sqT q,isDs_mono b t ds xs r⟩
 |lst l=>obtain⟨a,e,q⟩:=h; exact⟨a,e.mono b t,q⟩
 |str z=>exact h
 |rgs lo c n=>exact h
 |zip x y=>obtain⟨k1,k2,a,a',e,h1,h2⟩:=h; exact⟨k1,k2,a,a',e,h1.mono b t,h2.mono b t⟩
theorem IsSrc.done{K:PySem.W.Frag}{m:List Addr}{st:Store}{H:Hp}{s:Src}{J:It}{i:Nat}(h:IsSrc K m H s J)(R0:Rel K m st H)(e:s.at st i=some none):J.stop i H:=by
 cases s with
 |rng lo n=>
  cases h
  simp only[Src.at]at e
  split at e
  ·cases e
  ·rename_i q
   exact Nat.not_lt.mp q
 |rgs lo c n=>
  cases h
  simp only[Src.at]at e
  split at e
  ·cases e
  ·rename_i q
   exact Nat.not_lt.mp q
 |tup ds=>
  obtain⟨a,xs,rfl,q,r⟩:=h
  simp only[Src.at,Option.some.injEq]at e
  exact⟨xs,q,by rw[← r.length]; exact List.getElem?_eq_none_iff.mp e⟩
 |lst l=>
  obtain⟨a,ha,rfl⟩:=h
  simp only[Src.at]at e
  obtain⟨ds,e1,e2⟩:=mapD e
  obtain⟨xs,q,r⟩:=ha.sq' R0 e1
  exact⟨xs,q,by rw[← r.length]; exact List.getElem?_eq_none_iff.mp e2⟩
 |str z=>
  cases h
  simp only[Src.at,Option.some.injEq]at e
  have:=List.getElem?_eq_none_iff.mp e
  rw[List.length_map]at this
  exact this
 |zip x y=>
  obtain⟨k1,k2,a,b,rfl,h1,h2⟩:=h
  simp only[Src.at]at e
  obtain⟨ds,e1,e⟩:=bindO e
  obtain⟨es,e2,e3⟩:=mapD e
  obtain⟨xs,q1,r1⟩:=h1.sq R0 e1
  obtain⟨ys,q2,r2⟩:=h2.sq R0 e2
  refine⟨xs,ys,q1,q2,?_⟩
  unfold M.pairAt at e3
  rw[← r1.length,← r2.length]
  cases z1:ds[i]? with
  |none=>exact .inl (List.getElem?_eq_none_iff.mp z1)
  |some d1=>
   cases z2:es[i]? with
   |none=>exact .inr (List.getElem?_eq_none_iff.mp z2)
   |some d2=>rw[z1,z2]at e3; cases e3
theorem IsSrc.next{K:PySem.W.Frag}{m:List Addr}{st:Store}{H:Hp}{s:Src}{J:It}{i:Nat}{d:D}(h:IsSrc K m H s J)(R0:Rel K m st H)(e:s.at st i=some (some d)):J.go i H∧∀ x H',J.yld i H x H'→Same H H'∧MS.IsD K m H' d x:=by
 cases s with
 |rng lo n=>
  cases h
  simp only[Src.at,Option.some.injEq]at e
  split at e
  ·rename_i q
   cases e
   refine⟨q,?_⟩
   rintro x H' ⟨rfl,rfl⟩
   exact⟨fun _ _ z=>z,mkInt _⟩
  ·cases e
 |rgs lo c n=>
  cases h
  simp only[Src.at,Option.some.injEq]at e
  split at e
  ·rename_i q
   cases e
   refine⟨q,?_⟩
   rintro x H' ⟨rfl,rfl⟩
   exact⟨fun _ _ z=>z,mkInt _⟩
  ·cases e
 |tup ds=>
  obtain⟨a,xs,rfl,q,r⟩:=h
  simp only[Src.at,Option.some.injEq]at e
  obtain⟨x,ex,ix⟩:=r.get e
  refine⟨⟨xs,x,q,ex⟩,?_⟩
  rintro y H' ⟨rfl,z⟩
  have:=z xs q
  rw[ex]at this
  cases this
  exact⟨fun _ _ z=>z,ix⟩
 |lst l=>
  obtain⟨a,ha,rfl⟩:=h
  simp only[Src.at]at e
  obtain⟨ds,e1,e2⟩:=mapD e
  obtain⟨xs,q,r⟩:=ha.sq' R0 e1
  obtain⟨x,ex,ix⟩:=r.get e2
  refine⟨⟨xs,x,q,ex⟩,?_⟩
  rintro y H' ⟨rfl,z⟩
  have:=z xs q
  rw[ex]at this
  cases this
  exact⟨fun _ _ z=>z,ix⟩
 |str z=>
  cases h
  simp only[Src.at,Option.some.injEq]at e
  rw[List.getElem?_map]at e
  cases hc:z.cps.toList[i]? with
  |none=>rw[hc]at e; cases e
  |some c=>
   rw[hc]at e
   cases e
   refine⟨(List.getElem?_eq_some_iff.mp hc).1,?_⟩
   rintro x H' ⟨rfl,c',hc',rfl⟩
   rw[hc]at hc'
   cases hc'
   exact⟨fun _ _ w=>w,mkStr _⟩
 |zip u v=>
  obtain⟨k1,k2,a,b,rfl,h1,h2⟩:=h
  simp only[Src.at]at e
  obtain⟨ds,e1,e⟩:=bindO e
  obtain⟨es,e2,e3⟩:=mapD e
  obtain⟨xs,q1,r1⟩:=h1.sq R0 e1
  obtain⟨ys,q2,r2⟩:=h2.sq R0 e2
  unfold M.pairAt at e3
  cases z1:ds[i]? with
  |none=>rw[z1]at e3; cases e3
  |some d1=>
   cases z2:es[i]? with
   |none=>rw[z1,z2]at e3; cases e3
   |some d2=>
    rw[z1,z2]at e3
    cases e3
    obtain⟨x,ex,ix⟩:=r1.get z1
    obtain⟨y,ey,iy⟩:=r2.get z2
    refine⟨⟨xs,ys,x,y,q1,q2,ex,ey⟩,?_⟩
    rintro w H' ⟨p,x',y',rfl,hp,rfl,f1,f2⟩
    have g1:=f1 xs q1
    rw[ex]at g1
    cases g1
    have g2:=f2 ys q2
    rw[ey]at g2
    cases g2
    have sm:=same_new (o:=.tup [x,y]) hp
    exact⟨sm,mkTup (SqT.of upd_same) (isDs_mono (Sub.refl _) (Tr.of_same sm) _ _ (mkCons ix (mkCons iy mkNil)))⟩
noncomputable def tI(K:PySem.W.Frag)(f:Sl→Store→Option (Src×Store)):TI:=fun σ H R=>∃ m st τ s st',Rel K m st H∧SlotOk K m H τ σ∧f τ st=some (s,st')∧∀ m' H' J,Sub m m'→Tr H H'→Rel K m' st' H'→IsSrc K m' H' s J→R J H'
theorem tI.el{K:PySem.W.Frag}{f:Sl→Store→Option (Src×Store)}{σ:L2.St}{H:Hp}{Q:It→Hp→Prop}{P:Prop}(h:tI K f σ H Q)(k:∀ m st τ s st',Rel K m st H→SlotOk K m H τ σ→f τ st=some (s,st')→(∀ m' H' J,Sub m m'→Tr H H'→Rel K m' st' H'→IsSrc K m' H' s J→Q J H')→P):P:=by
 rcases h with⟨m,st,τ,d,st',a,b,c,e⟩
 exact k m st τ d st' a b c e
theorem _root_.L2.PI.imp{X:Cx}{tg e:Expr}{t t':TI}(h:PI X tg e t)(f:∀ σ H R,t' σ H R→t σ H R):PI X tg e t':=fun pins s σ H Q I q=>h pins s σ H Q I (f σ H Q q)
def PostO(K:PySem.W.Frag)(m:List Addr)(H:Hp)(o:Out)(st':Store)(Dn:Ends):Prop:=∀ m' H',Sub m m'→Tr H H'→Rel K m' st' H'→match o with
 |.nx τ=>∀ σ',SlotOk K m' H' τ σ'→Dn.nx σ' H'
 |.rt d=>∀ v,IsD K m' H' d v→Dn.rt v H'
 |.bk τ=>∀ σ',SlotOk K m' H' τ σ'→Dn.bk σ' H'
 |.ct τ=>∀ σ',SlotOk K m' H' τ σ'→Dn.ct σ' H'
theorem PostO.mono{K:PySem.W.Frag}{m m1:List Addr}{H H1:Hp}{o:Out}{st':Store}{Dn:Ends}(p:PostO K m H o st' Dn)(s:Sub m m1)(t:Tr H H1):PostO K m1 H1 o st' Dn:=fun m' H' s' t' r=>p m' H' (s.trans s') (t.trans t') r
noncomputable def tS(K:PySem.W.Frag)(f:Sl→Store→Option (Out×Store)):TS:=fun Dn σ H=>∃ m st τ o st',Rel K m st H∧SlotOk K m H τ σ∧f τ st=some (o,st')∧PostO K m H o st' Dn
theorem tS.el{K:PySem.W.Frag}{f:Sl→Store→Option (Out×Store)}{σ:L2.St}{H:Hp}{Dn:Ends}{P:Prop}(h:tS K f Dn σ H)(k:∀ m st τ o st',Rel K m st H→SlotOk K m H τ σ→f τ st=some (o,st')→PostO K m H o st' Dn→P):P:=by
 rcases h with⟨m,st,τ,d,st',a,b,c,e⟩
 exact k m st τ d st' a b c e
structure AllOk (fns:List Fn) (dl n:Nat):Prop where
 e:∀ c X,Good fns dl c X→∀ e p,CkE c e p→PE X p (tD X.K fun τ st=>(M.rn fns dl n).ev τ st e)
 t:∀ c X,Good fns dl c X→∀ e p,CkE c e p→PT X p (tTs X.K fun τ st=>(M.rn fns dl n).tst τ st e)
 w:∀ c X,Good fns dl c X→∀ e op ps pos,CkE c e (.BoolOp op ps pos)→PW X (.BoolOp op ps pos) (tTs X.K fun τ st=>(M.rn fns dl n).tst τ st e)
 s:∀ c X,Good fns dl c X→(∀ x,X.fn x=true)→∀ ss ps,CkSs c ss ps→PSs X ps (tS X.K fun τ st=>(M.rn fns dl n).ex τ st ss)
theorem allOk_zero(fns:List Fn)(dl:Nat):AllOk fns dl 0 where
 e:=fun c X G e p h pins s σ H Q I q=>by obtain⟨m,st,τ,d,st',_,_,z,_⟩:=q; cases z
 t:=fun c X G e p h pins s σ H Q I q=>by obtain⟨m,st,τ,d,st',_,_,z,_⟩:=q; cases z
 w:=fun c X G e op ps pos h wh pins s σ H Q I q=>by obtain⟨m,st,τ,d,st',_,_,z,_⟩:=q; cases z
 s:=fun c X G hf ss ps h pins s σ H Q I q=>by obtain⟨m,st,τ,d,st',_,_,z,_⟩:=q; cases z
section
variable {fns:List Fn}{dl n:Nat}{c:Ctx}{X:Cx}
theorem args_ok(A:AllOk fns dl n)(G:Good fns dl c X):∀ {es:List E}{ps:List Expr},CkEs c es ps→PA X ps (tL X.K fun τ st=>M.evs ((M.rn fns dl n).ev τ) es st)
 |_,_,.nil=>pa_nil.imp fun _ _ _ h=>tL_nil h
 |_,_,.cons (e:=e) (es:=es) h t=>(pa_cons (A.e c X G _ _ h) (args_ok A G t) (h.star _ _)).imp fun _ _ _ q=>
   tL_cons (fa:=fun τ st=>(M.rn fns dl n).ev τ st e) (fr:=fun τ st=>M.evs ((M.rn fns dl n).ev τ) es st) q
noncomputable def plainE:E→Bool
 |.rng1 _=>false
 |.rng2 _ _=>false
 |.rng3 _ _ _=>false
 |.zip _ _=>false
 |_=>true
theorem CkF.plain{R:Ctx→E→Expr→Prop}{c:Ctx}{e:E}{p:Expr}(h:CkF R c e p):plainE e=true:=by cases h<;>rfl
theorem src_plain{e:E}(h:plainE e=true)(r:R)(τ:Sl)(st:Store):M.src r τ st e=(r.ev τ st e).bind fun p=>match p.1 with
   |.tup ds=>some (.tup ds,p.2)
   |.str z=>if z.cps.all (· < 128) then some (.str z,p.2) else none
   |d=>(M.seqAt p.2 d).map fun _=>(.lst d,p.2):=by
 cases e with
 |rng1 _=>cases h
 |rng2 _ _=>cases h
 |rng3 _ _ _=>cases h
 |zip _ _=>cases h
 |_=>rfl
theorem iter_ok(A:AllOk fns dl n)(G:Good fns dl c X){it:E}{tg iter:Expr}(h:CkI (CkE c) c tg it iter):PI X tg iter (tI X.K fun τ st=>M.src (M.rn fns dl n) τ st it):=by
 have seq:∀ {e p},CkE c e p→(∀ τ st,M.src (M.rn fns dl n) τ st e=((M.rn fns dl n).ev τ st e).bind fun p=>match p.1 with
   |.tup ds=>some (.tup ds,p.2)
   |.str z=>if z.cps.all (· < 128) then some (.str z,p.2) else none
   |d=>(M.seqAt p.2 d).map fun _=>(.lst d,p.2))→PI X tg p (tI X.K fun τ st=>M.src (M.rn fns dl n) τ st e):=by
  intro e p he hsrc
  refine(pi_seq (A.e c X G e p he)).imp fun σ H R q=>?_
  refine q.el fun m st τ s st' R0 S0 e1 q=>?_
  have e1:=(hsrc τ st).symm.trans e1
  obtain⟨d,s1,e2,e1⟩:=bindD e1
  refine⟨m,st,τ,d,s1,R0,S0,e2,fun x m1 H1 b1 t1 R1 i1=>?_⟩
  cases d with
  |tup ds=>
   cases e1
   obtain⟨a,xs,rfl,hq,ix⟩:=i1.tup
   exact .inl ⟨a,rfl,.inr ⟨⟨xs,hq⟩,q m1 H1 _ b1 t1 R1 ⟨a,xs,rfl,hq,ix⟩⟩⟩
  |loc l=>
   obtain⟨ds,e3,e4⟩:=mapD e1
   cases e4
   obtain⟨a,rfl,ha,xs,hq⟩:=isRow_of' i1 R1 e3
   exact .inl ⟨a,rfl,.inl ⟨⟨xs,hq⟩,q m1 H1 _ b1 t1 R1 ⟨a,ha,rfl⟩⟩⟩
  |lst l=>
   obtain⟨ds,e3,e4⟩:=mapD e1
   cases e4
   obtain⟨a,rfl,ha,xs,hq⟩:=isRow_of' i1 R1 e3
   exact .inl ⟨a,rfl,.inl ⟨⟨xs,hq⟩,q m1 H1 _ b1 t1 R1 ⟨a,ha,rfl⟩⟩⟩
  |str z=>
   dsimp only at e1
   split at e1
   ·rename_i hz
    cases e1
    exact .inr ⟨z,i1.str,hz,q m1 H1 _ b1 t1 R1 rfl⟩
   ·cases e1
  |_=>cases e1
 cases h with
 |@rng1 _ a pa p0 pos hg ha=>
  refine(pi_range1 (G.gl hg) G.mo.range (args_ok A G (.cons ha .nil)) (by rw[ha.star]; rfl)).imp fun σ H R q=>?_
  refine q.el fun m st τ s st' R0 S0 e1 q=>?_
  have e1:(((M.rn fns dl n).ev τ st a).bind fun p=>match p.1 with
   |.int n=>if M.big n then none else some (Src.rng 0 n.toNat,p.2)
   |_=>none)=some (s,st'):=e1
  obtain⟨d,s1,e2,e1⟩:=bindD e1
  cases d with
  |int k=>
   dsimp only at e1
   split at e1
   ·cases e1
   ·rename_i hb
    cases e1
    unfold M.big at hb
    simp only[Bool.or_eq_true,decide_eq_true_eq,not_or]at hb
    refine⟨m,st,τ,[.int k],st',R0,S0,?_,fun xs m1 H1 b1 t1 R1 i1=>?_⟩
    ·show(((M.rn fns dl n).ev τ st a).bind fun p=>(some (([]:List D),p.2)).bind fun q=>some (p.1::q.1,q.2))=_
     rw[e2]; rfl
    ·obtain⟨x,rfl,ix⟩:=i1.one
     cases ix.int
     exact⟨k,rfl,by omega,by omega,q m1 H1 _ b1 t1 R1 rfl⟩
  |_=>cases e1
 |@rng3 _ a b g pa pb pg p0 pos hg ha hb hgg=>
  refine(pi_range3 (G.gl hg) G.mo.range (args_ok A G (.cons ha (.cons hb (.cons hgg .nil)))) (by rw[ha.star,hb.star,hgg.star]; rfl) (by rw[hb.star,hgg.star]; rfl)).imp fun σ H R q=>?_
  obtain⟨m,st,τ,s,st',R0,S0,e1,q⟩:=q
  have e1:(((M.rn fns dl n).ev τ st a).bind fun p=>((M.rn fns dl n).ev τ p.2 b).bind fun q=>((M.rn fns dl n).ev τ q.2 g).bind fun u=>match p.1,q.1,u.1 with
   |.int i,.int j,.int k=>if M.big i||M.big j || !(decide (0<k)&&decide (k<1000)) then none else some (Src.rgs i k (if i<j then(j - i - 1) / k+1 else 0).toNat,u.2)
   |_,_,_=>none)=some (s,st'):=e1
  obtain⟨d,s1,e2,e1⟩:=bindD e1
  obtain⟨d',s2,e3,e1⟩:=bindD e1
  obtain⟨d'',s3,e4,e1⟩:=bindD e1
  dsimp only at e1
  split at e1
  ·rename_i i j k _ _
   split at e1
   ·cases e1
   ·rename_i hb
    cases e1
    unfold M.big at hb
    simp only[Bool.or_eq_true,decide_eq_true_eq,not_or,Bool.not_eq_true',Bool.not_eq_false,Bool.and_eq_true]at hb
    refine⟨m,st,τ,[.int i,.int j,.int k],st',R0,S0,?_,fun xs m1 H1 b1 t1 R1 i1=>?_⟩
    ·show M.evs ((M.rn fns dl n).ev τ) [a,b,g] st=_
     simp only[M.evs,e2,e3,e4,oBs]
    ·obtain⟨x,r,rfl,ix,i1⟩:=i1.cons
     obtain⟨y,z,rfl,iy,iz⟩:=i1.two
     cases ix.int
     cases iy.int
     cases iz.int
     exact⟨i,j,k,rfl,⟨by omega,by omega,by omega,by omega,by omega,by omega⟩,q m1 H1 _ b1 t1 R1 rfl⟩
  ·cases e1
 |@zip ts k tp a b pa pb p0 pos hg ha hb=>
  refine(pi_zip (G.gl hg) G.mo.zip (args_ok A G (.cons ha (.cons hb .nil))) (by rw[ha.star,hb.star]; rfl) (by rw[hb.star]; rfl)).imp fun σ H R q=>?_
  obtain⟨m,st,τ,s,st',R0,S0,e1,q⟩:=q
  have e1:(((M.rn fns dl n).ev τ st a).bind fun p=>((M.rn fns dl n).ev τ p.2 b).bind fun q=>(M.rowAt q.2 p.1).bind fun _=>(M.rowAt q.2 q.1).map fun _=>(Src.zip p.1 q.1,q.2))=some (s,st'):=e1
  obtain⟨d,s1,e2,e1⟩:=bindD e1
  obtain⟨d',s2,e3,e1⟩:=bindD e1
  obtain⟨ds,e4,e1⟩:=bindO e1
  obtain⟨es,e5,e6⟩:=mapD e1
  cases e6
  refine⟨m,st,τ,[d,d'],s2,R0,S0,?_,fun xs m1 H1 b1 t1 R1 i1=>?_⟩
  ·show(((M.rn fns dl n).ev τ st a).bind fun p=>(((M.rn fns dl n).ev τ p.2 b).bind fun p=>(some (([]:List D),p.2)).bind fun q=>some (p.1::q.1,q.2)).bind fun q=>some (p.1::q.1,q.2))=_
   rw[e2]
   show(((M.rn fns dl n).ev τ s1 b).bind fun p=>(some (([]:List D),p.2)).bind fun q=>some (p.1::q.1,q.2)).bind _=_
   rw[e3]; rfl
  ·obtain⟨x,y,rfl,ix,iy⟩:=i1.two
   obtain⟨k1,a1,rfl,h1,w1⟩:=isRow_of ix R1 e4
   obtain⟨k2,a2,rfl,h2,w2⟩:=isRow_of iy R1 e5
   exact⟨k1,k2,a1,a2,rfl,w1,w2,q m1 H1 _ b1 t1 R1 ⟨k1,k2,a1,a2,rfl,h1,h2⟩⟩
 |@seq _ e p he=>
  exact seq he (src_plain he.out.plain _)
theorem po_ok(A:AllOk fns dl n)(G:Good fns dl c X){o:Option E}{p:Option Expr}(h:CkO (CkE c) o p):PO X p (fun σ H Q=>∃ m st τ l st',Rel X.K m st H∧SlotOk X.K m H τ σ∧M.part (M.rn fns dl n) τ st o=some (l,st')∧∀ m' H',Sub m m'→Tr H H'→Rel X.K m' st' H'→Q l H'):=by
 cases h with
 |none=>
  intro pins s σ H Q I q
  obtain⟨m,st,τ,l,st',R0,S0,e,k⟩:=q
  cases e
  exact po_none pins s σ H Q I (k m H (Sub.refl m) (Tr.refl H) R0)
 |@some e p h=>
  intro pins s σ H Q I q
  obtain⟨m,st,τ,l,st',R0,S0,e0,k⟩:=q
  have e0:(((M.rn fns dl n).ev τ st e).bind fun p=>match p.1 with
   |.int i=>some (some i,p.2)
   |_=>none)=some (l,st'):=e0
  obtain⟨d,s1,e1,e2⟩:=bindD e0
  cases d with
  |int i=>
   cases e2
   exact po_some (A.e c X G e p h) pins s σ H Q I ⟨m,st,τ,.int i,s1,R0,S0,e1,fun v m' H' b t R1 iv=>⟨i,iv.int,k m' H' b t R1⟩⟩
  |_=>cases e2
noncomputable def gIs:List Nat→TGs
 |[]=>gNil
 |i::is=>gCons (gName i) (gIs is)
noncomputable def gT(K:PySem.W.Frag):T→TG
 |.var i=>gName i
 |.tup is=>gTup K is.length (gIs is)
theorem gIs_of{K:PySem.W.Frag}{m:List Addr}{H:Hp}{Q:L2.St→Hp→Prop}:∀ {is:List Nat}{ds:List D}{xs:List V}{τ τ':Sl}{σ:L2.St},IsDs K m H ds xs→SlotOk K m H τ σ→M.setIs is ds τ=some τ'→(∀ σ',SlotOk K m H τ' σ'→Q σ' H)→gIs is xs σ H Q
 |[],[],xs,τ,τ',σ,ix,S0,e,k=>by
  cases e
  exact⟨ix.nil,k σ S0⟩
 |i::is,d::ds,xs,τ,τ',σ,ix,S0,e,k=>by
  obtain⟨x,r,rfl,q,t⟩:=ix.cons
  unfold M.setIs at e
  split at e
  ·exact⟨x,r,rfl,gIs_of t (S0.put q) e k⟩
  ·cases e
 |[],_::_,_,_,_,_,_,_,e,_=>by cases e
 |_::_,[],_,_,_,_,_,_,e,_=>by cases e
theorem setIs_len:∀ {is:List Nat}{ds:List D}{τ τ':Sl},M.setIs is ds τ=some τ'→is.length=ds.length
 |[],[],_,_,_=>rfl
 |i::is,d::ds,τ,τ',e=>by
  unfold M.setIs at e
  split at e
  ·rw[List.length_cons,List.length_cons,setIs_len e]
  ·cases e
 |[],_::_,_,_,e=>by cases e
 |_::_,[],_,_,e=>by cases e
theorem gT_of{K:PySem.W.Frag}{m:List Addr}{H:Hp}{Q:L2.St→Hp→Prop}{t:T}{d:D}{v:V}{τ τ':Sl}{σ:L2.St}(iv:IsD K m H d v)(S0:SlotOk K m H τ σ)(e:M.setT t d τ=some τ')(k:∀ σ',SlotOk K m H τ' σ'→Q σ' H):gT K t v σ H Q:=by
 cases t with
 |var i=>
  have e:(if i<τ.length then some (τ.set i (some d)) else none)=some τ':=e
  split at e
  ·cases e
   exact k _ (S0.put iv)
  ·cases e
 |tup is=>
  cases d with
  |tup ds=>
   obtain⟨a,xs,rfl,hq,ix⟩:=iv.tup
   have e:M.setIs is ds τ=some τ':=e
   exact⟨a,xs,rfl,hq,by rw[← ix.length,setIs_len e],gIs_of ix S0 e k⟩
  |_=>cases e
theorem var_of(G:Good fns dl c X){i:Nat}{x:Str}(h:c.N[i]?=some x):X.N[i]?=some x:=by rw[G.N]; exact h
theorem boot_any':bootBuiltins ("any" : Str)=some (.builtin "any"):=by decide +kernel
theorem boot_all':bootBuiltins ("all" : Str)=some (.builtin "all"):=by decide +kernel
theorem boot_int':bootBuiltins ("int" : Str)=some (.type "int"):=by decide +kernel
theorem boot_bool':bootBuiltins ("bool" : Str)=some (.type "bool"):=by decide +kernel
theorem boot_str':bootBuiltins ("str" : Str)=some (.type "str"):=by decide +kernel
theorem boot_isi':bootBuiltins ("isinstance" : Str)=some (.builtin "isinstance"):=by decide +kernel
theorem boot_len':bootBuiltins ("len" : Str)=some (.builtin "len"):=by decide +kernel
theorem boot_list':bootBuiltins ("list" : Str)=some (.type "list"):=by decide +kernel
theorem boot_tuple':bootBuiltins ("tuple" : Str)=some (.type "tuple"):=by decide +kernel
theorem ty_ok(G:Good fns dl c X){t:M.Ty}{pos:Pos}(ht:t≠.non)(hg:c.sc.names.lookup (Str.ofString t.name)=some .globalImplicit):PE X (.Name (Str.ofString t.name) pos) (tC (.ty t.name)):=by
 cases t with
 |non=>exact absurd rfl ht
 |bl=>exact pe_bltn (G.gl hg) G.mo.bool boot_bool' rfl (by decide) (by decide)
 |int=>exact pe_bltn (G.gl hg) G.mo.int boot_int' rfl (by decide) (by decide)
 |str=>exact pe_bltn (G.gl hg) G.mo.str boot_str' rfl (by decide) (by decide)
 |tup=>exact pe_bltn (G.gl hg) G.mo.tuple boot_tuple' rfl (by decide) (by decide)
 |lst=>exact pe_bltn (G.gl hg) G.mo.list boot_list' rfl (by decide) (by decide)
noncomputable def tCs:List V→TA
 |[]=>tNil
 |v::vs=>tCons (tC v) (tCs vs)
theorem tCs_end:∀ (vs:List V) (σ:L2.St) (H:Hp) (Q:List V→Hp→Prop),Q vs H→tCs vs σ H Q
 |[],_,_,_,h=>h
 |v::vs,σ,H,Q,h=>tCs_end vs σ H (fun xs H2=>Q (v::xs) H2) h
theorem tys_ok(G:Good fns dl c X):∀ {ts:List M.Ty}{ps:List Expr},CkTys c ts ps→PA X ps (tCs (ts.map fun t=>V.ty t.name))∧∀ t∈ts,t≠.non
 |_,_,.nil=>⟨pa_nil,fun _ h=>nomatch h⟩
 |_,_,.cons ht hg h=>by
  obtain⟨h1,h2⟩:=tys_ok G h
  refine⟨pa_cons (ty_ok G ht hg) h1 rfl,fun t hm=>?_⟩
  rcases List.mem_cons.mp hm with z|z
  ·rw[z]; exact ht
  ·exact h2 t z
end
end MS
end
section
namespace MS
open PySem PySem.Spec PyProof.Rows L2
open M (D Cell Store Sl E S T Src Fn Out R)
section
variable {fns:List Fn}{dl n:Nat}{c:Ctx}{X:Cx}
theorem un_negD:UnR X (unaryOp .USub) (rU1 X.K fun st d=>match d with|.int i=>some (.int (-i),st)|_=>none):=by
 intro pins s σ H x v Q I rx h
 refine h.el fun m st a d st' R0 i1 e q=>?_
 cases a with
 |int i=>
  cases e
  exact un_neg pins s σ H x v Q I rx ⟨i,i1.int,q.here R0 (mkInt _)⟩
 |_=>cases e
theorem comp_scope(G:Good fns dl c X){N:List Str}{sr:List (Option Nat)}{scope:Scope}(hk:scope.kind=.function)(hcell:∀ y∈scope.names,y.2≠.cell)(hfree:∀ y∈scope.names,y.2=.free→c.sc.names.lookup y.1=some .cell∨c.sc.names.lookup y.1=some .free)
  (hloc:∀ y∈scope.names,y.2=.local→scope.names.lookup y.1=some .local) (hlen:sr.length=N.length) (hsrc:∀ (j i:Nat),sr[j]?=some (some i)→∃ x,N[j]?=some x∧c.N[i]?=some x∧scope.names.lookup x=some .free):CompScope X N sr scope:=
 ⟨hk,hcell,fun y hy hf=>by
  have:=hfree y hy hf
  show X.env.scope.names.lookup y.1=_∨X.env.scope.names.lookup y.1=_
  rw[G.sc]; exact this,hloc,hlen,fun j i h=>by
  obtain⟨x,a,b,d⟩:=hsrc j i h
  exact⟨x,a,var_of G b,d⟩⟩
theorem inner_ok{K:PySem.W.Frag}{m:List Addr}{H:Hp}{τ:Sl}{σ:L2.St}(sr:List (Option Nat))(h:SlotOk K m H τ σ):SlotOk K m H (M.inner sr τ) (innerS sr σ):=by
 refine⟨by unfold M.inner innerS; rw[List.length_map,List.length_map],fun j d e=>?_⟩
 unfold M.inner at e
 rw[List.getElem?_map]at e
 unfold innerS
 rw[List.getElem?_map]
 cases q:sr[j]? with
 |none=>rw[q]at e; cases e
 |some o=>
  rw[q]at e
  cases o with
  |none=>cases e
  |some i=>
   have hi:τ[i]?=some (some d):=by
    cases z:τ[i]? with
    |none=>simp[z]at e
    |some w=>
     cases w with
     |none=>simp[z]at e
     |some w=>simpa[z] using e
   obtain⟨v,a,b⟩:=h.at_ i d hi
   refine⟨v,?_,b⟩
   simp[a]
theorem tD_comp{K:PySem.W.Frag}{r:R}{t:T}{it elt:E}{q:Option E}{sr:List (Option Nat)}{tt:TT}{σ:L2.St}{H:Hp}{Q:VK}
  (htt:∀ σ H (Q:Bool→Hp→Prop),(match q with
   |none=>Q true H
   |some c=>tTs K (fun τ st=>r.tst τ st c) σ H Q)→tt σ H Q)
  (h:tD K (fun τ st=>M.stepEv r τ st (.comp t it q elt sr)) σ H Q) :
  tComp sr (tI K fun τ st=>M.src r τ st it) (gT K t) tt (tD K fun τ st=>r.ev τ st elt) σ H Q:=by
 refine h.el fun m st τ d st' R0 S0 e post=>?_
 have e:((M.src r τ st it).bind fun p=>(M.loopC p.1 (M.turnC r t q elt) (p.1.size p.2+1) 0 [] (M.inner sr τ) p.2).map fun q=>M.alloc q.2 (.lst true q.1))=some (d,st'):=e
 obtain⟨p,e1,e⟩:=bindO e
 obtain⟨res,e2,e3⟩:=mapD e
 refine⟨m,st,τ,p.1,p.2,R0,S0,e1,fun m1 H1 J b1 t1 R1 hJ=>?_⟩
 refine⟨fun i' k acc σ' H'=>∃ m2 st2 τ2 accD,Sub m1 m2∧Tr H1 H'∧Rel K m2 st2 H'∧SlotOk K m2 H' τ2 σ'∧IsDs K m2 H' accD acc∧M.loopC p.1 (M.turnC r t q elt) k i' accD τ2 st2=some res,
  ⟨_,m1,p.2,M.inner sr τ,[],Sub.refl _,Tr.refl _,R1,inner_ok sr (S0.mono b1 t1),mkNil,e2⟩,?_⟩
 rintro j k acc σ' H' ⟨m2,st2,τ2,accD,b2,t2,R2,S2,ia,e4⟩
 cases k with
 |zero=>cases e4
 |succ k=>
  have e4:(p.1.at st2 j).bind (fun o=>match o with
   |none=>if M.lim<accD.length then none else some (accD,st2)
   |some d=>if M.lim≤accD.length then none else(M.turnC r t q elt τ2 st2 d).bind fun z=>M.loopC p.1 (M.turnC r t q elt) k (j+1) (match z.1 with|some x=>accD++[x]|none=>accD) z.2.1 z.2.2)=some res:=e4
  obtain⟨o,e5,e4⟩:=bindO e4
  have l1:=ia.length
  have l2:=lim_eq
  cases o with
  |none=>
   dsimp only at e4
   split at e4
   ·cases e4
   ·rename_i hl
    cases e4
    refine .inl ⟨(hJ.mono b2 t2).done R2 e5,by omega,fun pp hp=>?_⟩
    cases e3
    exact post _ (m2++[pp]) _ (b1.trans (b2.trans (Sub.app _ _))) (t1.trans (t2.trans (Tr.of_same (same_new hp)))) (R2.new hp ia) R2.newLoc
  |some d'=>
   dsimp only at e4
   split at e4
   ·cases e4
   ·rename_i hl
    obtain⟨hgo,hy⟩:=(hJ.mono b2 t2).next R2 e5
    refine .inr ⟨hgo,by omega,fun x H2 hyl=>?_⟩
    obtain⟨sm,ix⟩:=hy x H2 hyl
    have t2:=t2.trans (Tr.of_same sm)
    have R2:=R2.same sm
    have S2:=S2.mono (Sub.refl _) (Tr.of_same sm)
    have ia:=isDs_mono (Sub.refl _) (Tr.of_same sm) _ _ ia
    obtain⟨z,e6,e4⟩:=bindO e4
    unfold M.turnC at e6
    obtain⟨τ3,e7,e6⟩:=bindO e6
    refine gT_of ix S2 e7 fun σ3 S3=>?_
    ·refine htt _ _ _ ?_
     cases q with
     |none=>
      dsimp only at e6 ⊢
      obtain⟨y,e8,e9⟩:=mapD e6
      cases e9
      rw[if_pos rfl]
      refine⟨m2,st2,_,y.1,y.2,R2,S3,e8,fun v m3 H3 b3 t3 R3 i3=>⟨k,Nat.lt_succ_self k,m3,y.2,_,accD++[y.1],b2.trans b3,t2.trans t3,R3,S3.mono b3 t3,(isDs_mono b3 t3 _ _ ia).append (mkCons i3 mkNil),e4⟩⟩
     |some cq=>
      dsimp only at e6 ⊢
      obtain⟨bb,e8,e6⟩:=bindO e6
      refine⟨m2,st2,_,bb.1,bb.2,R2,S3,e8,fun m3 H3 b3 t3 R3=>?_⟩
      cases hb:bb.1 with
      |true=>
       rw[hb,if_pos rfl]at e6
       rw[if_pos rfl]
       obtain⟨y,e9,e10⟩:=mapD e6
       cases e10
       refine⟨m3,bb.2,_,y.1,y.2,R3,S3.mono b3 t3,e9,fun v m4 H4 b4 t4 R4 i4=>⟨k,Nat.lt_succ_self k,m4,y.2,_,accD++[y.1],b2.trans (b3.trans b4),t2.trans (t3.trans t4),R4,S3.mono (b3.trans b4) (t3.trans t4),(isDs_mono (b3.trans b4) (t3.trans t4) _ _ ia).append (mkCons i4 mkNil),e4⟩⟩
      |false=>
       rw[hb,if_neg Bool.false_ne_true]at e6
       cases e6
       rw[if_neg Bool.false_ne_true]
       exact⟨k,Nat.lt_succ_self k,m3,bb.2,_,accD,b2.trans b3,t2.trans t3,R3,S3.mono b3 t3,isDs_mono b3 t3 _ _ ia,e4⟩
theorem targets_ok(G:Good fns dl c X):∀ {is:List Nat}{es:List Expr},CkTs c is es→(∀ i∈is,∀ x,c.N[i]?=some x→X.fn x=true∨c.sc.names.lookup x=some .local)→PGs X es (gIs is)∧(assignEach es X.env).length=is.length∧(assignEach es X.env).findIdx? (·.1)=none
 |_,_,.nil,_=>⟨pgs_nil,rfl,rfl⟩
 |_,_,.cons (i:=i) (x:=x) (pos:=pos) (is:=is) (es:=es) hN hl h,hf=>by
  obtain⟨h1,h2,h3⟩:=targets_ok G h fun j hj=>hf j (List.mem_cons_of_mem _ hj)
  have hg:PG X (.Name x pos) (gName i):=pg_name (by rw[G.N]; exact G.nd) (var_of G hN) (by show X.env.scope.names.lookup x=_∨_=_; rw[G.sc]; exact hl) (by rw[G.sc]; exact hf i List.mem_cons_self x hN)
  refine⟨pgs_cons hg h1 rfl,?_,?_⟩
  ·show(assignEach es X.env).length+1=is.length+1
   rw[h2]
  ·show List.findIdx? (·.1) ((false,assign (.Name x pos) X.env)::assignEach es X.env)=none
   rw[List.findIdx?_cons,h3]
   rfl
theorem target_ok(G:Good fns dl c X){t:T}{tg:Expr}(h:CkT c t tg)(hf:∀ i∈t.slots,∀ x,c.N[i]?=some x→X.fn x=true∨c.sc.names.lookup x=some .local):PG X tg (gT X.K t):=by
 cases h with
 |@var i x pos hN hl=>exact pg_name (by rw[G.N]; exact G.nd) (var_of G hN) (by show X.env.scope.names.lookup x=_∨_=_; rw[G.sc]; exact hl) (by rw[G.sc]; exact hf i (by simp[T.slots]) x hN)
 |@tup is es k pos h=>
  obtain⟨h1,h2,h3⟩:=targets_ok G h hf
  exact pg_tup G.calm h1 h2 h3
theorem e_ok(A:AllOk fns dl n)(G':Good fns dl c X){e:E}{p:Expr}(h:CkE c e p):PE X p (tD X.K fun τ st=>M.stepEv (M.rn fns dl n) τ st e):=by
 have G:=G'
 have hu:X.A.units+64<cLine:=G'.room.units
 cases h.out with
 |@var i x pos hN hv hd hcd=>
  refine(pe_var (var_of G hN) (by rw[G.sc]; exact hv) hd hcd).imp fun σ H Q h=>?_
  refine h.el fun m st τ d st' R0 S0 e q=>?_
  simp only[M.stepEv]at e
  split at e
  ·rename_i d' hd'
   cases e
   obtain⟨v,a,b⟩:=S0.at_ i d hd'
   exact⟨v,a,q.here R0 b⟩
  ·cases e
 |int=>exact pe_int.imp fun σ H Q ⟨m,st,τ,d,st',R0,S0,e,q⟩=>by cases e; exact q.here R0 (mkInt _)
 |bl=>exact pe_bl.imp fun σ H Q ⟨m,st,τ,d,st',R0,S0,e,q⟩=>by cases e; exact q.here R0 (mkBl _)
 |non=>exact pe_non.imp fun σ H Q ⟨m,st,τ,d,st',R0,S0,e,q⟩=>by cases e; exact q.here R0 mkNon
 |str=>exact pe_str.imp fun σ H Q ⟨m,st,τ,d,st',R0,S0,e,q⟩=>by cases e; exact q.here R0 (mkStr _)
 |@glo x d pos hg hm hd=>
  obtain⟨u,v,h1,h2,h3⟩:=G.mo.glo x d hm
  exact(pe_glob (G.gl hg) h1 h2 hd).imp fun σ H Q ⟨m,st,τ,d,st',R0,S0,e,q⟩=>by cases e; exact q.here R0 (h3 m H)
 |@bin op a b pa pb pos ha hb=>
  exact(pe_op (op_binD op) (A.e c X G a pa ha) (A.e c X G b pb hb)).imp fun σ H Q h=>tD_bin (fa:=fun τ st=>(M.rn fns dl n).ev τ st a) (fb:=fun τ st=>(M.rn fns dl n).ev τ st b) (g:=fun st x y=>M.binop st op x y) h
 |@rev a pa p2 p3 p4 j pos ha=>
  refine(pe_rev (A.e c X G a pa ha) ((pe_un un_neg pe_int).imp fun σ H Q h=>⟨1,rfl,h⟩)).imp fun σ H Q h=>?_
  refine h.el fun m st τ d st' R0 S0 e post=>?_
  obtain⟨d1,s1,e1,e⟩:=bindD e
  obtain⟨ds,e2,e3⟩:=mapD e
  cases e3
  refine⟨m,st,τ,d1,s1,R0,S0,e1,fun x m1 H1 b1 t1 R1 ix=>?_⟩
  obtain⟨p,xs,_,rfl,hq,iy⟩:=R1.seq e2 ix
  exact⟨p,xs,rfl,hq,fun l hl=>post _ (m1++[l]) _ (b1.trans (Sub.app m1 [l])) (t1.trans (Tr.of_same (same_new hl))) (R1.new hl (isDs_rev iy)) R1.newLoc⟩
 |@neg a pa pos ha=>
  exact(pe_un un_negD (A.e c X G a pa ha)).imp fun σ H Q h=>tD_un (fa:=fun τ st=>(M.rn fns dl n).ev τ st a) h
 |@not a pa pos ha=>
  refine(pe_not (A.e c X G a pa ha)).imp fun σ H Q h=>?_
  refine h.el fun m st τ d st' R0 S0 e q=>?_
  obtain⟨d1,s1,e1,e⟩:=bindD e
  refine⟨m,st,τ,d1,s1,R0,S0,e1,fun v m1 H1 b1 t1 R1 i1=>?_⟩
  cases d1 with
  |bl k=>
   cases e
   exact⟨k,i1.bl,q _ m1 H1 b1 t1 R1 (mkBl _)⟩
  |_=>cases e
 |@cmp op a b pa pb pos ha hb hm=>
  exact(pe_cmpR (op_cmpD hu op) (A.e c X G a pa ha) (A.e c X G b pb hb) hm).imp fun σ H Q h=>tD_bin (fa:=fun τ st=>(M.rn fns dl n).ev τ st a) (fb:=fun τ st=>(M.rn fns dl n).ev τ st b) (g:=fun st x y=>(M.cmpD st op x y).map fun k=>(.bl k,st)) h
 |@and2 a b pa pb pos ha hb=>
  refine(pe_and (A.e c X G a pa ha) (pe_one (A.e c X G b pb hb))).imp fun σ H Q h=>?_
  refine h.el fun m st τ d st' R0 S0 e q=>?_
  obtain⟨d1,s1,e1,e⟩:=bindD e
  refine⟨m,st,τ,d1,s1,R0,S0,e1,fun v m1 H1 b1 t1 R1 i1=>?_⟩
  cases d1 with
  |bl k=>
   cases k with
   |true=>exact⟨true,i1.bl,by rw[if_pos rfl]; exact⟨m1,s1,τ,d,st',R1,S0.mono b1 t1,e,q.mono b1 t1⟩⟩
   |false=>cases e; exact⟨false,i1.bl,by rw[if_neg Bool.false_ne_true]; exact q _ m1 H1 b1 t1 R1 (mkBl _)⟩
  |_=>cases e
 |@andN a b pa pb pd r pos ha hb=>
  refine(pe_and (A.e c X G a pa ha) (A.e c X G b _ hb)).imp fun σ H Q h=>?_
  refine h.el fun m st τ d st' R0 S0 e q=>?_
  obtain⟨d1,s1,e1,e⟩:=bindD e
  refine⟨m,st,τ,d1,s1,R0,S0,e1,fun v m1 H1 b1 t1 R1 i1=>?_⟩
  cases d1 with
  |bl k=>
   cases k with
   |true=>exact⟨true,i1.bl,by rw[if_pos rfl]; exact⟨m1,s1,τ,d,st',R1,S0.mono b1 t1,e,q.mono b1 t1⟩⟩
   |false=>cases e; exact⟨false,i1.bl,by rw[if_neg Bool.false_ne_true]; exact q _ m1 H1 b1 t1 R1 (mkBl _)⟩
  |_=>cases e
 |@or2 a b pa pb pos ha hb=>
  refine(pe_or (A.e c X G a pa ha) (pe_one (A.e c X G b pb hb))).imp fun σ H Q h=>?_
  refine h.el fun m st τ d st' R0 S0 e q=>?_
  obtain⟨d1,s1,e1,e⟩:=bindD e
  refine⟨m,st,τ,d1,s1,R0,S0,e1,fun v m1 H1 b1 t1 R1 i1=>?_⟩
  cases d1 with
  |bl k=>
   cases k with
   |false=>exact⟨false,i1.bl,by rw[if_neg Bool.false_ne_true]; exact⟨m1,s1,τ,d,st',R1,S0.mono b1 t1,e,q.mono b1 t1⟩⟩
   |true=>cases e; exact⟨true,i1.bl,by rw[if_pos rfl]; exact q _ m1 H1 b1 t1 R1 (mkBl _)⟩
  |_=>cases e
 |@orN a b pa pb pd r pos ha hb=>
  refine(pe_or (A.e c X G a pa ha) (A.e c X G b _ hb)).imp fun σ H Q h=>?_
  refine h.el fun m st τ d st' R0 S0 e q=>?_
  obtain⟨d1,s1,e1,e⟩:=bindD e
  refine⟨m,st,τ,d1,s1,R0,S0,e1,fun v m1 H1 b1 t1 R1 i1=>?_⟩
  cases d1 with
  |bl k=>
   cases k with
   |false=>exact⟨false,i1.bl,by rw[if_neg Bool.false_ne_true]; exact⟨m1,s1,τ,d,st',R1,S0.mono b1 t1,e,q.mono b1 t1⟩⟩
   |true=>cases e; exact⟨true,i1.bl,by rw[if_pos rfl]; exact q _ m1 H1 b1 t1 R1 (mkBl _)⟩
  |_=>cases e
 |@ite q a b pq pa pb pos hq ha hb=>
  refine(pe_ifExp (A.t c X G q pq hq) (A.e c X G a pa ha) (A.e c X G b pb hb)).imp fun σ H Q h=>?_
  refine h.el fun m st τ d st' R0 S0 e post=>?_
  obtain⟨bb,e1,e⟩:=bindO e
  refine⟨m,st,τ,bb.1,bb.2,R0,S0,e1,fun m1 H1 b1 t1 R1=>?_⟩
  cases hb:bb.1 with
  |true=>
   rw[hb,if_pos rfl]at e
   rw[if_pos rfl]
   exact⟨m1,bb.2,τ,d,st',R1,S0.mono b1 t1,e,post.mono b1 t1⟩
  |false=>
   rw[hb,if_neg Bool.false_ne_true]at e
   rw[if_neg Bool.false_ne_true]
   exact⟨m1,bb.2,τ,d,st',R1,S0.mono b1 t1,e,post.mono b1 t1⟩
 |@tup es ps k pos hs=>
  refine(pe_tup (args_ok A G hs)).imp fun σ H Q h=>?_
  refine h.el fun m st τ d st' R0 S0 e post=>?_
  obtain⟨p,e1,e⟩:=bindO e
  split at e
  ·cases e
  ·rename_i hl
   cases e
   refine⟨m,st,τ,p.1,p.2,R0,S0,e1,fun xs m1 H1 b1 t1 R1 ix=>?_⟩
   have l1:=ix.length
   have l2:=lim_eq
   refine⟨by omega,fun pp hp=>?_⟩
   have sm:=same_new (o:=.tup xs) hp
   exact post _ m1 _ b1 (t1.trans (Tr.of_same sm)) (R1.same sm) (mkTup (SqT.of upd_same) (isDs_mono (Sub.refl _) (Tr.of_same sm) _ _ ix))
 |@lst es ps pos hs=>
  refine(pe_lst (args_ok A G hs)).imp fun σ H Q h=>?_
  refine h.el fun m st τ d st' R0 S0 e post=>?_
  obtain⟨p,e1,e⟩:=bindO e
  split at e
  ·cases e
  ·rename_i hl
   cases e
   refine⟨m,st,τ,p.1,p.2,R0,S0,e1,fun xs m1 H1 b1 t1 R1 ix=>?_⟩
   have l1:=ix.length
   have l2:=lim_eq
   refine⟨by omega,fun pp hp=>?_⟩
   exact post _ (m1++[pp]) _ (b1.trans (Sub.app _ _)) (t1.trans (Tr.of_same (same_new hp))) (R1.new hp ix) R1.newLoc
 |@idx a b pa pb pos ha hb hs=>
  exact(pe_ix ix_D (A.e c X G a pa ha) (A.e c X G b pb hb) hs).imp fun σ H Q h=>tD_bin (fa:=fun τ st=>(M.rn fns dl n).ev τ st a) (fb:=fun τ st=>(M.rn fns dl n).ev τ st b) (g:=fun st x y=>(M.idxD st x y).map fun d=>(d,st)) h
 |@call f x es p ps p0 pos hg hf hd hs=>
  obtain⟨fa,fd,pars,hm,F,hk,hb⟩:=G'.tab f x hf
  have hp:Star p:=by cases hs with|cons h _=>exact h.star
  have ht:(backTo pos (starEach ps X.env)).any (·.1)=false:=by cases hs with|cons _ t=>exact noStars t pos X.env
  refine(pe_call F G.room (G.gl hg) hm hk hb .nil pass0 (args_ok A G hs) hd (hp _ _) ht).imp fun σ H Q h=>?_
  refine h.el fun m st τ d st' R0 S0 e post=>?_
  obtain⟨q,e1,e⟩:=bindO e
  refine⟨m,st,τ,q.1,q.2,R0,S0,e1,fun xs m1 H1 b1 t1 R1 ix=>?_⟩
  show spN X.K fns dl f (xs++[]) H1 Q E0
  have e:(M.rn fns dl n).call f q.1 q.2=some (d,st'):=e
  rw[M.runK_call]at e
  rw[List.append_nil]
  exact⟨m1,q.2,q.1,d,st',R1,ix,e,post.mono b1 t1⟩
 |@bcall b es p ps p0 pos hg hbo hs=>
  have hp:Star p:=by cases hs with|cons h _=>exact h.star
  have ht:(backTo pos (starEach ps X.env)).any (·.1)=false:=by cases hs with|cons _ t=>exact noStars t pos X.env
  have hA:=args_ok A G hs
  cases b with
  |len=>exact(pe_callB call_lenD (G.gl hg) G.mo.len boot_len' hA (by decide) (by decide) (hp _ _) ht).imp fun σ H Q h=>tL_call (fa:=fun τ st=>M.evs ((M.rn fns dl n).ev τ) es st) (g:=M.bLen) h
  |min=>cases hbo
  |max=>cases hbo
  |tuple=>exact(pe_callTy call_tupleD (G.gl hg) G.mo.tuple boot_tuple' hA (by decide) (by decide) (hp _ _) ht).imp fun σ H Q h=>tL_call (fa:=fun τ st=>M.evs ((M.rn fns dl n).ev τ) es st) (g:=M.bTuple) h
  |list=>cases hbo
  |any=>exact(pe_callB (call_anyD G.calm) (G.gl hg) G.mo.any boot_any' hA (by decide) (by decide) (hp _ _) ht).imp fun σ H Q h=>tL_call (fa:=fun τ st=>M.evs ((M.rn fns dl n).ev τ) es st) (g:=M.bAny) h
  |all=>exact(pe_callB (call_allD G.calm) (G.gl hg) G.mo.all boot_all' hA (by decide) (by decide) (hp _ _) ht).imp fun σ H Q h=>tL_call (fa:=fun τ st=>M.evs ((M.rn fns dl n).ev τ) es st) (g:=M.bAll) h
  |int=>exact(pe_callTy call_intD (G.gl hg) G.mo.int boot_int' hA (by decide) (by decide) (hp _ _) ht).imp fun σ H Q h=>tL_call (fa:=fun τ st=>M.evs ((M.rn fns dl n).ev τ) es st) (g:=M.bInt) h
  |str=>exact(pe_callTy call_strD (G.gl hg) G.mo.str boot_str' hA (by decide) (by decide) (hp _ _) ht).imp fun σ H Q h=>tL_call (fa:=fun τ st=>M.evs ((M.rn fns dl n).ev τ) es st) (g:=M.bStr) h
  |sorted=>cases hbo
 |@isi1 t a pa p0 p1 pos hg ht hgt ha=>
  refine(pe_callB (call_isi1 t ht) (G.gl hg) G.mo.isinstance boot_isi' (pa_cons (A.e c X G a pa ha) (pa_cons (ty_ok G ht hgt) pa_nil rfl) (ha.star _ _)) (by decide) (by decide) (ha.star _ _) rfl).imp fun σ H Q h=>?_
  refine h.el fun m st τ d st' R0 S0 e post=>?_
  obtain⟨d1,s1,e1,e⟩:=bindD e
  obtain⟨nm,e2,e3⟩:=mapD e
  cases e3
  refine⟨m,st,τ,d1,s1,R0,S0,e1,fun x m1 H1 b1 t1 R1 ix=>?_⟩
  refine⟨m1,s1,d1,nm,x,rfl,R1,ix,e2,post _ m1 H1 b1 t1 R1 ?_⟩
  have:([t].any fun t=>M.tyIs t nm)=M.tyIs t nm:=by simp
  rw[this]
  exact mkBl _
 |@isiN ts a pa p0 ps k p1 pos hlen hg ht ha=>
  obtain⟨h1,h2⟩:=tys_ok G ht
  refine(pe_callB (call_isiN ts h2) (G.gl hg) G.mo.isinstance boot_isi' (pa_cons (A.e c X G a pa ha) (pa_cons (pe_tup h1) pa_nil rfl) (ha.star _ _)) (by decide) (by decide) (ha.star _ _) rfl).imp fun σ H Q h=>?_
  refine h.el fun m st τ d st' R0 S0 e post=>?_
  obtain⟨d1,s1,e1,e⟩:=bindD e
  obtain⟨nm,e2,e3⟩:=mapD e
  cases e3
  refine⟨m,st,τ,d1,s1,R0,S0,e1,fun x m1 H1 b1 t1 R1 ix=>?_⟩
  refine tCs_end _ σ H1 _ ⟨?_,fun pp hp=>?_⟩
  ·rw[List.length_map]
   exact Nat.le_of_lt (small1000 hlen)
  ·have sm:=same_new (o:=.tup (ts.map fun t=>V.ty t.name)) hp
   exact⟨m1,s1,d1,nm,x,pp,rfl,upd_same,R1.same sm,isD_mono (Sub.refl _) (Tr.of_same sm) _ _ ix,e2,post _ m1 _ b1 (t1.trans (Tr.of_same sm)) (R1.same sm) (mkBl _)⟩
 |@append a e x xp pe apos cpos ha he hl=>
  refine(pe_bm PySem.F.plainAttrs_list PySem.F.slot_list_append PySem.F.type_list_append mt_appendD (A.e c X G a _ ha) (args_ok A G (.cons he .nil)) rfl (by rw[he.star]; rfl) hl (he.star _ _) rfl).imp fun σ H Q h=>?_
  refine h.el fun m st τ d st' R0 S0 e0 post=>?_
  obtain⟨d1,s1,e1,e0⟩:=bindD e0
  split at e0
  ·rename_i hm
   obtain⟨q,e2,e0⟩:=bindO e0
   refine⟨m,st,τ,d1,s1,R0,S0,e1,fun v m1 H1 b1 t1 R1 i1=>⟨?_,m1,s1,τ,q.1,q.2,R1,S0.mono b1 t1,e2,fun xs m2 H2 b2 t2 R2 i2=>⟨m2,q.2,d1,q.1,d,st',R2,isD_mono b2 t2 _ _ i1,i2,e0,post.mono (b1.trans b2) (t1.trans t2)⟩⟩⟩
   cases d1 with
   |loc l=>
    have hm:(true&&(M.seqAt s1 (.loc l)).isSome)=true:=hm
    rw[Bool.true_and]at hm
    obtain⟨ds,hds⟩:=Option.isSome_iff_exists.mp hm
    obtain⟨a',xs,_,rfl,hq,_⟩:=R1.seq hds i1
    exact .inl ⟨rfl,xs,hq⟩
   |lst l=>
    have hm:(true&&(M.seqAt s1 (.lst l)).isSome)=true:=hm
    rw[Bool.true_and]at hm
    obtain⟨ds,hds⟩:=Option.isSome_iff_exists.mp hm
    obtain⟨a',xs,_,rfl,hq,_⟩:=R1.seq hds i1
    exact .inl ⟨rfl,xs,hq⟩
   |_=>cases hm
  ·cases e0
 |@index a e pa pe apos cpos ha he hb hl=>
  refine(pe_bm PySem.F.plainAttrs_list PySem.F.slot_list_index PySem.F.type_list_index (mt_indexD hu) (A.e c X G a _ ha) (args_ok A G (.cons he .nil)) (hb X.env) (by rw[he.star]; rfl) hl (he.star _ _) rfl).imp fun σ H Q h=>?_
  refine h.el fun m st τ d st' R0 S0 e0 post=>?_
  obtain⟨d1,s1,e1,e0⟩:=bindD e0
  split at e0
  ·rename_i hm
   obtain⟨q,e2,e0⟩:=bindO e0
   refine⟨m,st,τ,d1,s1,R0,S0,e1,fun v m1 H1 b1 t1 R1 i1=>⟨?_,m1,s1,τ,q.1,q.2,R1,S0.mono b1 t1,e2,fun xs m2 H2 b2 t2 R2 i2=>⟨m2,q.2,d1,q.1,d,st',R2,isD_mono b2 t2 _ _ i1,i2,e0,post.mono (b1.trans b2) (t1.trans t2)⟩⟩⟩
   cases d1 with
   |loc l=>
    have hm:(true&&(M.seqAt s1 (.loc l)).isSome)=true:=hm
    rw[Bool.true_and]at hm
    obtain⟨ds,hds⟩:=Option.isSome_iff_exists.mp hm
    obtain⟨a',xs,_,rfl,hq,_⟩:=R1.seq hds i1
    exact .inl ⟨rfl,xs,hq⟩
   |lst l=>
    have hm:(true&&(M.seqAt s1 (.lst l)).isSome)=true:=hm
    rw[Bool.true_and]at hm
    obtain⟨ds,hds⟩:=Option.isSome_iff_exists.mp hm
    obtain⟨a',xs,_,rfl,hq,_⟩:=R1.seq hds i1
    exact .inl ⟨rfl,xs,hq⟩
   |_=>cases hm
  ·cases e0
 |@find a e pa pe apos cpos ha he hb hl=>
  refine(pe_bm PySem.F.plainAttrs_str PySem.F.slot_str_find PySem.F.type_str_find mt_findD (A.e c X G a _ ha) (args_ok A G (.cons he .nil)) (hb X.env) (by rw[he.star]; rfl) hl (he.star _ _) rfl).imp fun σ H Q h=>?_
  refine h.el fun m st τ d st' R0 S0 e0 post=>?_
  obtain⟨d1,s1,e1,e0⟩:=bindD e0
  split at e0
  ·rename_i hm
   obtain⟨q,e2,e0⟩:=bindO e0
   refine⟨m,st,τ,d1,s1,R0,S0,e1,fun v m1 H1 b1 t1 R1 i1=>⟨?_,m1,s1,τ,q.1,q.2,R1,S0.mono b1 t1,e2,fun xs m2 H2 b2 t2 R2 i2=>⟨m2,q.2,d1,q.1,d,st',R2,isD_mono b2 t2 _ _ i1,i2,e0,post.mono (b1.trans b2) (t1.trans t2)⟩⟩⟩
   cases d1 with
   |str z=>rw[i1.str]; exact rfl
   |_=>cases hm
  ·cases e0
 |@join a e pa pe apos cpos ha he hb hl=>
  refine(pe_bm PySem.F.plainAttrs_str PySem.F.slot_str_join PySem.F.type_str_join mt_joinD (A.e c X G a _ ha) (args_ok A G (.cons he .nil)) (hb X.env) (by rw[he.star]; rfl) hl (he.star _ _) rfl).imp fun σ H Q h=>?_
  refine h.el fun m st τ d st' R0 S0 e0 post=>?_
  obtain⟨d1,s1,e1,e0⟩:=bindD e0
  split at e0
  ·rename_i hm
   obtain⟨q,e2,e0⟩:=bindO e0
   refine⟨m,st,τ,d1,s1,R0,S0,e1,fun v m1 H1 b1 t1 R1 i1=>⟨?_,m1,s1,τ,q.1,q.2,R1,S0.mono b1 t1,e2,fun xs m2 H2 b2 t2 R2 i2=>⟨m2,q.2,d1,q.1,d,st',R2,isD_mono b2 t2 _ _ i1,i2,e0,post.mono (b1.trans b2) (t1.trans t2)⟩⟩⟩
   cases d1 with
   |str z=>rw[i1.str]; exact rfl
   |_=>cases hm
  ·cases e0
 |@split a e pa pe apos cpos ha he hb hl=>
  refine(pe_bm PySem.F.plainAttrs_str PySem.F.slot_str_split PySem.F.type_str_split mt_splitD (A.e c X G a _ ha) (args_ok A G (.cons he .nil)) (hb X.env) (by rw[he.star]; rfl) hl (he.star _ _) rfl).imp fun σ H Q h=>?_
  refine h.el fun m st τ d st' R0 S0 e0 post=>?_
  obtain⟨d1,s1,e1,e0⟩:=bindD e0
  split at e0
  ·rename_i hm
   obtain⟨q,e2,e0⟩:=bindO e0
   refine⟨m,st,τ,d1,s1,R0,S0,e1,fun v m1 H1 b1 t1 R1 i1=>⟨?_,m1,s1,τ,q.1,q.2,R1,S0.mono b1 t1,e2,fun xs m2 H2 b2 t2 R2 i2=>⟨m2,q.2,d1,q.1,d,st',R2,isD_mono b2 t2 _ _ i1,i2,e0,post.mono (b1.trans b2) (t1.trans t2)⟩⟩⟩
   cases d1 with
   |str z=>rw[i1.str]; exact rfl
   |_=>cases hm
  ·cases e0
 |@gc a p hp hg ha=>exact(pe_gc (A.e c X G a _ ha)).imp fun _ _ _ h=>h
 |@sli a lo hi pa pl ph p2 pos ha hl hh=>
  refine(pe_slice sl_D (A.e c X G a pa ha) (po_ok A G hl) (po_ok A G hh)).imp fun σ H Q h=>?_
  refine h.el fun m st τ d st' R0 S0 e post=>?_
  have e:(((M.rn fns dl n).ev τ st a).bind fun p=>(M.part (M.rn fns dl n) τ p.2 lo).bind fun l=>(M.part (M.rn fns dl n) τ l.2 hi).bind fun h=>M.sliD h.2 p.1 l.1 h.1)=some (d,st'):=e
  obtain⟨d1,s1,e1,e⟩:=bindD e
  obtain⟨l,e2,e⟩:=bindO e
  obtain⟨u,e3,e⟩:=bindO e
  exact⟨m,st,τ,d1,s1,R0,S0,e1,fun x m1 H1 b1 t1 R1 i1=>⟨m1,s1,τ,l.1,l.2,R1,S0.mono b1 t1,e2,fun m2 H2 b2 t2 R2=>⟨m2,l.2,τ,u.1,u.2,R2,S0.mono (b1.trans b2) (t1.trans t2),e3,fun m3 H3 b3 t3 R3=>
   ⟨m3,u.2,d1,d,st',R3,isD_mono (b2.trans b3) (t2.trans t3) _ _ i1,e,post.mono (b1.trans (b2.trans b3)) (t1.trans (t2.trans t3))⟩⟩⟩⟩
 |@comp t it elt sr tg iter pelt scope pos N hk hcell hfree hloc hlen hsrc hnd hs hi ht htl he=>
  have S:=comp_scope G hk hcell hfree hloc hlen hsrc
  exact(pe_comp (tt:=fun _ H Q=>Q true H) G.calm S (iter_ok A G hi) (fun C fp s H=>target_ok (G.inner hk hnd) ht fun i hi' x hx=>.inr (tlOk_of htl i hi' x hx)) (fun C fp s H=>test_nil) (fun C fp s H=>A.e _ _ (G.inner hk hnd) elt pelt he) (hs X.env)).imp fun σ H Q h=>
   tD_comp (fun _ _ _ q=>q) h
end
end MS
end
section
namespace MS
open PySem PySem.Spec PyProof.Rows L2
open M (D Cell Store Sl E S T Src Fn Out R)
section
variable {fns:List Fn}{dl n:Nat}{c:Ctx}{X:Cx}
theorem tt_val{K:PySem.W.Frag}{r:R}{e:E}{σ:L2.St}{H:Hp}{Q:Bool→Hp→Prop}(hr:∀ τ st,M.stepTst r τ st e=(r.ev τ st e).bind fun p=>(M.truth p.2 p.1).map fun k=>(k,p.2))
  (h:tTs K (fun τ st=>M.stepTst r τ st e) σ H Q):(tD K fun τ st=>r.ev τ st e) σ H fun x H'=>∃ k,TruV K x H' k∧Q k H':=by
 refine h.el fun m st τ d st' R0 S0 e0 q=>?_
 have e0:=(hr τ st).symm.trans e0
 obtain⟨d1,s1,e1,e0⟩:=bindD e0
 obtain⟨k,e2,e3⟩:=mapD e0
 cases e3
 exact⟨m,st,τ,d1,s1,R0,S0,e1,fun x m1 H1 b1 t1 R1 i1=>⟨_,truV_of R1 i1 e2,q m1 H1 b1 t1 R1⟩⟩
theorem tt_and{K:PySem.W.Frag}{r:R}{a b:E}{σ:L2.St}{H:Hp}{Q:Bool→Hp→Prop}(h:tTs K (fun τ st=>M.stepTst r τ st (.and a b)) σ H Q):tAnd (tTs K fun τ st=>r.tst τ st a) (tTs K fun τ st=>r.tst τ st b) σ H Q:=by
 refine h.el fun m st τ d st' R0 S0 e0 q=>?_
 have e0:((r.tst τ st a).bind fun p=>if p.1 then r.tst τ p.2 b else some (false,p.2))=some (d,st'):=e0
 obtain⟨p,e1,e0⟩:=bindO e0
 refine⟨m,st,τ,p.1,p.2,R0,S0,e1,fun m1 H1 b1 t1 R1=>?_⟩
 cases hp:p.1 with
 |true=>
  rw[hp,if_pos rfl]at e0
  rw[if_pos rfl]
  exact⟨m1,p.2,τ,d,st',R1,S0.mono b1 t1,e0,fun m2 H2 b2 t2 R2=>q m2 H2 (b1.trans b2) (t1.trans t2) R2⟩
 |false=>
  rw[hp,if_neg Bool.false_ne_true]at e0
  cases e0
  rw[if_neg Bool.false_ne_true]
  exact q m1 H1 b1 t1 R1
theorem tt_or{K:PySem.W.Frag}{r:R}{a b:E}{σ:L2.St}{H:Hp}{Q:Bool→Hp→Prop}(h:tTs K (fun τ st=>M.stepTst r τ st (.or a b)) σ H Q):tOr (tTs K fun τ st=>r.tst τ st a) (tTs K fun τ st=>r.tst τ st b) σ H Q:=by
 refine h.el fun m st τ d st' R0 S0 e0 q=>?_
 have e0:((r.tst τ st a).bind fun p=>if p.1 then some (true,p.2) else r.tst τ p.2 b)=some (d,st'):=e0
 obtain⟨p,e1,e0⟩:=bindO e0
 refine⟨m,st,τ,p.1,p.2,R0,S0,e1,fun m1 H1 b1 t1 R1=>?_⟩
 cases hp:p.1 with
 |false=>
  rw[hp,if_neg Bool.false_ne_true]at e0
  rw[if_neg Bool.false_ne_true]
  exact⟨m1,p.2,τ,d,st',R1,S0.mono b1 t1,e0,fun m2 H2 b2 t2 R2=>q m2 H2 (b1.trans b2) (t1.trans t2) R2⟩
 |true=>
  rw[hp,if_pos rfl]at e0
  cases e0
  rw[if_pos rfl]
  exact q m1 H1 b1 t1 R1
theorem slot_back{K:PySem.W.Frag}{m m1:List Addr}{H H1 H2:Hp}{τ:Sl}{σ σ':L2.St}{i:Nat}{d0 d:D}(S0:SlotOk K m H τ σ)(S1:SlotOk K m1 H1 (τ.set i (some d0)) σ')(s:Sub m m1)(t:Tr H1 H2)(hd:∀ v,MS.IsD K m1 H1 d0 v→MS.IsD K m H2 d v):SlotOk K m H2 (τ.set i (some d)) σ':=by
 refine⟨by have:=S1.len; rwa [List.length_set]at this ⊢,fun j e ej=>?_⟩
 by_cases hj:i=j
 ·subst hj
  have hi:i<τ.length:=by
   have:=(List.getElem?_eq_some_iff.mp ej).1
   rwa [List.length_set]at this
  rw[List.getElem?_set_self hi]at ej
  cases ej
  obtain⟨v,e1,q⟩:=S1.at_ i d0 (List.getElem?_set_self hi)
  exact⟨v,e1,hd v q⟩
 ·rw[List.getElem?_set_ne hj]at ej
  obtain⟨v0,_,q0⟩:=S0.at_ j e ej
  obtain⟨v,e1,q⟩:=S1.at_ j e (by rw[List.getElem?_set_ne hj]; exact ej)
  exact⟨v,e1,isD_mono (Sub.refl m) t _ _ (isD_back s _ _ _ q0 q)⟩
theorem ps_setgc{p:Stmt}{f:Sl→Store→Option (D×Store)}{i:Nat}(h:PS X p (tS X.K fun τ st=>(f τ st).bind fun q=>(M.setT (.var i) q.1 τ).map fun τ'=>(Out.nx τ',q.2))):
  PS X p (tS X.K fun τ st=>((f τ st).map fun q=>M.gcD st q).bind fun q=>(M.setT (.var i) q.1 τ).map fun τ'=>(Out.nx τ',q.2)):=by
 intro pins s σ H Dn I q
 refine q.el fun m st τ o st' R0 S0 e post=>?_
 obtain⟨d,s1,e1,e⟩:=bindD e
 obtain⟨⟨d0,st0⟩,e2,e3⟩:=mapD e1
 obtain⟨τ',e4,e5⟩:=mapD e
 cases e5
 have e4:(if i<τ.length then some (τ.set i (some d)) else none)=some τ':=e4
 split at e4
 case isFalse=>cases e4
 case isTrue hi=>
  cases e4
  refine thn (h pins s σ H ⟨fun σ' H1=>∃ m1,Sub m m1∧Tr H H1∧Rel X.K m1 st0 H1∧SlotOk X.K m1 H1 (τ.set i (some d0)) σ',fun _ _=>False,fun _ _=>False,fun _ _=>False⟩ I ⟨m,st,τ,.nx (τ.set i (some d0)),st0,R0,S0,by show(f τ st).bind _=_; rw[e2]; show Option.map _ (if i<τ.length then some (τ.set i (some d0)) else none)=_; rw[if_pos hi]; rfl,fun m1 H1 b t R σ' S1=>⟨m1,b,t,R,S1⟩⟩) fun fl s2 hf=>?_
  cases fl with
  |next=>
   obtain⟨σ',H1,I1,m1,b1,t1,R1,S1⟩:=hf
   have plain:(d0,st0)=(d,s1)→SP X pins Dn .next s2:=fun z=>by
    cases z
    exact⟨σ',H1,I1,post m1 H1 b1 t1 R1 σ' S1⟩
   unfold M.gcD at e3
   split at e3
   ·rename_i hp
    split at e3
    ·rename_i hn
     cases e3
     exact⟨σ',H1,I1,post m H1 (Sub.refl m) t1 (R0.cutBack R1 b1 hp (Tr.refl H1) fun _ _ _ _ _ _=>rfl) σ' (slot_back S0 S1 b1 (Tr.refl H1) fun v q=>isD_nl _ _ hn q)⟩
    ·split at e3
     ·rename_i l hd
      simp only at hd
      split at e3
      ·rename_i hl
       split at e3
       ·rename_i ds hc
        split at e3
        ·rename_i hn
         cases e3
         subst hd
         obtain⟨a,ha⟩:=R1.addr hc
         obtain⟨xs,hx,ix⟩:=R1.cell l _ a hc ha
         obtain⟨o,I2⟩:=inv_freeze I1 hx
         have t2:Tr H1 (upd H1 a (.frz o (.lst xs))):=⟨fun b zs e=>by rw[upd_ne (ne_of e hx (by intro z; cases z))]; exact e,fun b o u e=>by rw[upd_ne (ne_of e hx (by intro z; cases z))]; exact e⟩
         refine⟨σ',_,I2,post m _ (Sub.refl m) (t1.trans t2) (R0.cutBack R1 b1 hp t2 fun l' c a' e ea w=>?_) σ' (slot_back S0 S1 b1 t2 fun v q=>?_)⟩
         ·refine upd_ne fun z=>?_
          subst z
          have hlt:=(List.getElem?_eq_some_iff.mp e).1
          have:=R1.nd l' l a' c _ (b1 l' a' ea) ha (pre_at hp e) hc w rfl
          omega
         ·obtain⟨a',ha',rfl⟩:=q.loc
          rw[ha]at ha'
          cases ha'
          exact mkLst (.inl ⟨o,upd_same⟩) (isDs_nl _ _ hn (isDs_mono (Sub.refl m1) t2 _ _ ix))
        ·exact plain e3
       ·exact plain e3
      ·exact plain e3
     ·exact plain e3
   ·exact plain e3
  |brk=>obtain⟨_,_,_,z⟩:=hf; exact z.elim
  |cont=>obtain⟨_,_,_,z⟩:=hf; exact z.elim
  |ret u=>obtain⟨_,_,_,_,_,z⟩:=hf; exact z.elim
theorem w_ok(A:AllOk fns dl n)(G':Good fns dl c X){e:E}{op:BoolOp}{ps:List Expr}{pos:Pos}(h:CkE c e (.BoolOp op ps pos)):PW X (.BoolOp op ps pos) (tTs X.K fun τ st=>M.stepTst (M.rn fns dl n) τ st e):=by
 have G:=G'
 cases h.out with
 |@and2 a b pa pb pos ha hb=>exact(pw_and (A.t c X G a pa ha) (pw_and1 (A.t c X G b pb hb))).imp fun σ H Q h=>tt_and h
 |@andN a b pa pb pd r pos ha hb=>exact(pw_and (A.t c X G a pa ha) (A.w c X G b _ _ _ hb)).imp fun σ H Q h=>tt_and h
 |@or2 a b pa pb pos ha hb=>exact(pw_or (A.t c X G a pa ha) (pw_or1 (A.t c X G b pb hb))).imp fun σ H Q h=>tt_or h
 |@orN a b pa pb pd r pos ha hb=>exact(pw_or (A.t c X G a pa ha) (A.w c X G b _ _ _ hb)).imp fun σ H Q h=>tt_or h
 |gc hp hg ha=>cases hp
theorem t_ok(A:AllOk fns dl n)(G':Good fns dl c X){e:E}{p:Expr}(h:CkE c e p):PT X p (tTs X.K fun τ st=>M.stepTst (M.rn fns dl n) τ st e):=by
 have G:=G'
 have hu:X.A.units+64<cLine:=G'.room.units
 have hA:=A.e c X G e p h
 cases h.out with
 |@not a pa pos ha=>
  refine(pt_not (A.t c X G a pa ha)).imp fun σ H Q h=>?_
  refine h.el fun m st τ d st' R0 S0 e0 q=>?_
  obtain⟨p,e1,e2⟩:=mapD e0
  cases e2
  exact⟨m,st,τ,p.1,p.2,R0,S0,e1,fun m1 H1 b1 t1 R1=>q m1 H1 b1 t1 R1⟩
 |and2 ha hb=>exact(w_ok A G' (.and2 ha hb)).pt
 |andN ha hb=>exact(w_ok A G' (.andN ha hb)).pt
 |or2 ha hb=>exact(w_ok A G' (.or2 ha hb)).pt
 |orN ha hb=>exact(w_ok A G' (.orN ha hb)).pt
 |@cmp op a b pa pb pos ha hb hm=>
  refine(pt_cmpR (op_cmpD hu op) (A.e c X G a pa ha) (A.e c X G b pb hb) hm).imp fun σ H Q h=>?_
  refine h.el fun m st τ d st' R0 S0 e0 q=>?_
  obtain⟨d1,s1,e1,e0⟩:=bindD e0
  obtain⟨d2,s2,e2,e0⟩:=bindD e0
  obtain⟨k,e3,e4⟩:=mapD e0
  cases e4
  exact⟨m,st,τ,d1,s1,R0,S0,e1,fun x m1 H1 b1 t1 R1 i1=>⟨m1,s1,τ,d2,s2,R1,S0.mono b1 t1,e2,fun y m2 H2 b2 t2 R2 i2=>
   ⟨m2,s2,d1,d2,.bl d,s2,R2,isD_mono b2 t2 _ _ i1,i2,by show Option.map _ (M.cmpD s2 op d1 d2)=_; rw[show M.cmpD s2 op d1 d2=some d from e3]; rfl,fun z m3 H3 b3 t3 R3 i3=>⟨d,i3.bl,q m3 H3 (b1.trans (b2.trans b3)) (t1.trans (t2.trans t3)) R3⟩⟩⟩⟩
 |ite hq ha hb=>exact fun pins s σ H Q I q=>by obtain⟨m,st,τ,d,st',_,_,z,_⟩:=q; cases z
 |gc hp hg ha=>
  cases p with
  |Call=>exact(pt_truth hA fun _=>rfl).imp fun σ H Q h=>tt_val (fun _ _=>rfl) h
  |ListComp=>exact(pt_truth hA fun _=>rfl).imp fun σ H Q h=>tt_val (fun _ _=>rfl) h
  |List=>exact(pt_truth hA fun _=>rfl).imp fun σ H Q h=>tt_val (fun _ _=>rfl) h
  |BinOp=>exact(pt_truth hA fun _=>rfl).imp fun σ H Q h=>tt_val (fun _ _=>rfl) h
  |Subscript=>exact(pt_truth hA fun _=>rfl).imp fun σ H Q h=>tt_val (fun _ _=>rfl) h
  |_=>cases hp
 |_=>exact(pt_truth hA fun _=>rfl).imp fun σ H Q h=>tt_val (fun _ _=>rfl) h
theorem S_nx{K:PySem.W.Frag}{m:List Addr}{H:Hp}{τ:Sl}{st':Store}{Dn:Ends}{σ:L2.St}(p:PostO K m H (.nx τ) st' Dn){m':List Addr}{H':Hp}(b:Sub m m')(t:Tr H H')(R0:Rel K m' st' H')(S0:SlotOk K m' H' τ σ):Dn.nx σ H':=p m' H' b t R0 σ S0
theorem set_ok{K:PySem.W.Frag}{r:R}{i:Nat}{e:E}{te:TE}{Dn:Ends}{σ:L2.St}{H:Hp}(hte:∀ Q,(tD K fun τ st=>r.ev τ st e) σ H Q→te σ H Q)(h:tS K (fun τ st=>M.stepEx r τ st (.set (.var i) e)) Dn σ H):tAsg te (gName i) Dn σ H:=by
 refine h.el fun m st τ o st' R0 S0 e0 q=>?_
 obtain⟨d1,s1,e1,e0⟩:=bindD e0
 obtain⟨τ',e2,e3⟩:=mapD e0
 cases e3
 have e2:(if i<τ.length then some (τ.set i (some d1)) else none)=some τ':=e2
 split at e2
 ·cases e2
  exact hte _ ⟨m,st,τ,d1,s1,R0,S0,e1,fun x m1 H1 b1 t1 R1 i1=>S_nx q b1 t1 R1 ((S0.mono b1 t1).put i1)⟩
 ·cases e2
theorem setC_ok(IH:∀ j,j≤n→AllOk fns dl j)(G:Good fns dl c X)(hf:∀ x,X.fn x=true){i:Nat}{e:E}{x:Str}{p:Expr}{pos pos':Pos}(hi:c.N[i]?=some x)(hl:c.sc.names.lookup x=some .local∨c.sc.names.lookup x=some .cell)(he:CkE c e p)(hg:∀ a,e≠.gc a)(hc:∃ elt gs sc q,p=.ListComp elt gs sc q)(hs:∀ env:Env,env.scope=c.sc→(swapsWith p (some (.Name x pos')) pos.line env=pure false∨swapsWith p (some (.Name x pos')) pos.line env=pure true)):
  PS X (.Assign [.Name x pos'] p pos) (tS X.K fun τ st=>M.stepEx (M.rn fns dl n) τ st (.set (.var i) e)):=by
 have A:=IH n (Nat.le_refl n)
 have hN:X.N.Nodup:=by rw[G.N]; exact G.nd
 have loc:∀ {x:Str},(c.sc.names.lookup x=some .local∨c.sc.names.lookup x=some .cell)→Loc X.env.scope x:=fun {x} h=>by show X.env.scope.names.lookup x=_∨_=_; rw[G.sc]; exact h
 rcases hs X.env G.sc with z|z
 ·exact(ps_set hN (var_of G hi) (loc hl) (A.e c X G e p he) z (.inl (hf x))).imp fun D σ H h=>set_ok (fun _ q=>q) h
 ·cases n with
  |zero=>exact fun pins s σ H Dn I q=>by obtain⟨m,st,τ,d,st',_,_,w,_⟩:=q; cases w
  |succ n=>
   have A1:=IH n (Nat.le_succ n)
   have G1:=G
   obtain⟨elt,gs,sc,q,rfl⟩:=hc
   cases he.out with
   |@comp t it elt' sr tg iter pelt scope cpos N hk hcell hfree hloc hlen hsrc hnd hfs hit ht htl he=>
    have SC:=comp_scope G1 hk hcell hfree hloc hlen hsrc
    exact(ps_setComp (tt:=fun _ H Q=>Q true H) G1.calm SC (iter_ok A1 G1 hit) (fun C fp s H=>target_ok (G1.inner hk hnd) ht fun i hi' x hx=>.inr (tlOk_of htl i hi' x hx)) (fun C fp s H=>test_nil) (fun C fp s H=>A1.e _ _ (G1.inner hk hnd) elt' _ he) (hfs X.env) hN (var_of G hi) (loc hl) (.inl (hf x)) z).imp fun D σ H h=>
     set_ok (fun Q q=>tD_comp (fun _ _ _ q=>q) q) h
   |gc hp hg' ha=>exact(hg _ rfl).elim
theorem s1_ok(IH:∀ j,j≤n→AllOk fns dl j)(G:Good fns dl c X)(hf:∀ x,X.fn x=true){s:S}{p:Stmt}(h:CkS c s p):PS X p (tS X.K fun τ st=>M.stepEx (M.rn fns dl n) τ st s):=by
 have A:=IH n (Nat.le_refl n)
 have hN:X.N.Nodup:=by rw[G.N]; exact G.nd
 have loc:∀ {x:Str},(c.sc.names.lookup x=some .local∨c.sc.names.lookup x=some .cell)→Loc X.env.scope x:=fun {x} h=>by show X.env.scope.names.lookup x=_∨_=_; rw[G.sc]; exact h
 cases h with
 |@set i e x p pos pos' hi hl he hs=>exact(ps_set hN (var_of G hi) (loc hl) (A.e c X G e p he) (hs X.env) (.inl (hf x))).imp fun D σ H h=>set_ok (fun _ q=>q) h
 |@setC i e x p pos pos' hi hl he hc hs=>
  by_cases hgc:∃ a,e=.gc a
  ·obtain⟨a,rfl⟩:=hgc
   cases he.out with
   |gc hp hg ha=>
    cases n with
    |zero=>exact fun pins s σ H Dn I q=>by obtain⟨m,st,τ,d,st',_,_,w,_⟩:=q; cases w
    |succ n=>exact(ps_setgc (setC_ok (fun j hj=>IH j (Nat.le_succ_of_le hj)) G hf hi hl ha hg hc hs)).imp fun _ _ _ q=>q
  ·exact setC_ok IH G hf hi hl he (fun a z=>hgc ⟨a,z⟩) hc hs
 |@setT is e es k p pos tpos ht he hs hw h1=>
  refine(ps_asg (A.e c X G e p he) (target_ok (t:=.tup is) G (.tup ht) fun i _ x _=>.inl (hf x)) (hs X.env) (hw X.env) (h1 X.env)).imp fun Dn σ H h=>?_
  refine h.el fun m st τ o st' R0 S0 e0 q=>?_
  obtain⟨d1,s1,e1,e0⟩:=bindD e0
  obtain⟨τ',e2,e3⟩:=mapD e0
  cases e3
  exact⟨m,st,τ,d1,s1,R0,S0,e1,fun x m1 H1 b1 t1 R1 i1=>gT_of i1 (S0.mono b1 t1) e2 fun σ' S1=>S_nx q b1 t1 R1 S1⟩
 |rais=>exact fun pins s σ H Dn I q=>by obtain⟨m,st,τ,d,st',_,_,z,_⟩:=q; cases z
 |@expr e p pos he hs=>
  refine(ps_expr (A.e c X G e p he) (hs X.env)).imp fun Dn σ H h=>?_
  refine h.el fun m st τ o st' R0 S0 e0 q=>?_
  obtain⟨p,e1,e2⟩:=mapD e0
  cases e2
  exact⟨m,st,τ,p.1,p.2,R0,S0,e1,fun x m1 H1 b1 t1 R1 i1=>S_nx q b1 t1 R1 (S0.mono b1 t1)⟩
 |@ret e p pos he=>
  refine(ps_ret (A.e c X G e p he)).imp fun Dn σ H h=>?_
  refine h.el fun m st τ o st' R0 S0 e0 q=>?_
  obtain⟨p,e1,e2⟩:=mapD e0
  cases e2
  exact⟨m,st,τ,p.1,p.2,R0,S0,e1,fun x m1 H1 b1 t1 R1 i1=>q m1 H1 b1 t1 R1 x i1⟩
 |@ite q a b pq pa pb pos hq ha hb=>
  refine(ps_if (A.t c X G q pq hq) (A.s c X G hf a pa ha) (A.s c X G hf b pb hb)).imp fun Dn σ H h=>?_
  refine h.el fun m st τ o st' R0 S0 e0 post=>?_
  obtain⟨p,e1,e0⟩:=bindO e0
  refine⟨m,st,τ,p.1,p.2,R0,S0,e1,fun m1 H1 b1 t1 R1=>?_⟩
  cases hp:p.1 with
  |true=>
   rw[hp,if_pos rfl]at e0
   rw[if_pos rfl]
   exact⟨m1,p.2,τ,o,st',R1,S0.mono b1 t1,e0,post.mono b1 t1⟩
  |false=>
   rw[hp,if_neg Bool.false_ne_true]at e0
   rw[if_neg Bool.false_ne_true]
   exact⟨m1,p.2,τ,o,st',R1,S0.mono b1 t1,e0,post.mono b1 t1⟩
 |@forr t it body tg iter pb pos ht hi hs hb=>
   refine(ps_for (by rw[G.xe]; exact PassesOwn.never) G.calm (iter_ok A G hi) (target_ok G ht fun i _ x _=>.inl (hf x)) (A.s c X G hf body pb hb) (hs X.env)).imp fun Dn σ H h=>?_
   refine h.el fun m st τ o st' R0 S0 e0 post=>?_
   obtain⟨p,e1,e0⟩:=bindO e0
   refine⟨m,st,τ,p.1,p.2,R0,S0,e1,fun m1 H1 J b1 t1 R1 hJ=>?_⟩
   refine⟨fun j k σ' H'=>∃ m2 st2 τ2,Sub m1 m2∧Tr H1 H'∧Rel X.K m2 st2 H'∧SlotOk X.K m2 H' τ2 σ'∧M.loop p.1 (fun τ st d=>(M.setT t d τ).bind fun τ'=>(M.rn fns dl n).ex τ' st body) k j τ2 st2=some (o,st'),
    ⟨_,m1,p.2,τ,Sub.refl _,Tr.refl _,R1,S0.mono b1 t1,e0⟩,?_⟩
   rintro j k σ' H' ⟨m2,st2,τ2,b2,t2,R2,S2,e4⟩
   cases k with
   |zero=>cases e4
   |succ k=>
    have e4:(p.1.at st2 j).bind (fun o=>match o with
     |none=>some (Out.nx τ2,st2)
     |some d=>((M.setT t d τ2).bind fun τ'=>(M.rn fns dl n).ex τ' st2 body).bind fun z=>match z.1 with
      |.nx τ'=>M.loop p.1 (fun τ st d=>(M.setT t d τ).bind fun τ'=>(M.rn fns dl n).ex τ' st body) k (j+1) τ' z.2
      |.ct τ'=>M.loop p.1 (fun τ st d=>(M.setT t d τ).bind fun τ'=>(M.rn fns dl n).ex τ' st body) k (j+1) τ' z.2
      |.bk τ'=>some (.nx τ',z.2)
      |.rt v=>some (.rt v,z.2))=some (o,st'):=e4
    obtain⟨oo,e5,e4⟩:=bindO e4
    cases oo with
    |none=>
     cases e4
     exact .inl ⟨(hJ.mono b2 t2).done R2 e5,S_nx post (b1.trans b2) (t1.trans t2) R2 S2⟩
    |some d=>
     obtain⟨hgo,hy⟩:=(hJ.mono b2 t2).next R2 e5
     dsimp only at e4
     obtain⟨z,e6,e4⟩:=bindO e4
     obtain⟨τ3,e7,e6⟩:=bindO e6
     refine .inr ⟨hgo,fun σ3 H3=>∃ m3 st3 τ3,Sub m1 m3∧Tr H1 H3∧Rel X.K m3 st3 H3∧SlotOk X.K m3 H3 τ3 σ3∧M.loop p.1 (fun τ st d=>(M.setT t d τ).bind fun τ'=>(M.rn fns dl n).ex τ' st body) k (j+1) τ3 st3=some (o,st'),fun σ3 H3 w3=>⟨k,Nat.lt_succ_self k,w3⟩,fun x H2 hyl=>?_⟩
     obtain⟨sm,ix⟩:=hy x H2 hyl
     have t2:=t2.trans (Tr.of_same sm)
     have R2:=R2.same sm
     have S2:=S2.mono (Sub.refl _) (Tr.of_same sm)
     refine gT_of ix S2 e7 fun σ3 S3=>?_
     refine⟨m2,st2,_,z.1,z.2,R2,S3,e6,fun m3 H3 b3 t3 R3=>?_⟩
     cases hz:z.1 with
     |nx τ4=>
      rw[hz]at e4
      exact fun σ4 S4=>⟨m3,z.2,τ4,b2.trans b3,t2.trans t3,R3,S4,e4⟩
     |ct τ4=>
      rw[hz]at e4
      exact fun σ4 S4=>⟨m3,z.2,τ4,b2.trans b3,t2.trans t3,R3,S4,e4⟩
     |bk τ4=>
      rw[hz]at e4
      cases e4
      exact fun σ4 S4=>S_nx post (b1.trans (b2.trans b3)) (t1.trans (t2.trans t3)) R3 S4
     |rt v=>
      rw[hz]at e4
      cases e4
      exact fun w iw=>post m3 H3 (b1.trans (b2.trans b3)) (t1.trans (t2.trans t3)) R3 w iw
theorem ss_ok(IH:∀ j,j≤n→AllOk fns dl j)(G:Good fns dl c X)(hf:∀ x,X.fn x=true):∀ {ss:List S}{ps:List Stmt},CkSs c ss ps→PSs X ps (tS X.K fun τ st=>M.exs (M.stepEx (M.rn fns dl n)) ss τ st)
 |_,_,.nil=>pss_nil.imp fun Dn σ H h=>by
  refine h.el fun m st τ o st' R0 S0 e0 q=>?_
  cases e0
  exact q m H (Sub.refl m) (Tr.refl H) R0 _ S0
 |_,_,.doc t=>(pss_cons ps_doc (ss_ok IH G hf t)).imp fun Dn σ H h=>h
 |_,_,.cons (s:=s) (ss:=ss) h t=>(pss_cons (s1_ok IH G hf h) (ss_ok IH G hf t)).imp fun Dn σ H hq=>by
  refine hq.el fun m st τ o st' R0 S0 e0 q=>?_
  obtain⟨p,e1,e0⟩:=bindO e0
  refine⟨m,st,τ,p.1,p.2,R0,S0,e1,fun m1 H1 b1 t1 R1=>?_⟩
  cases hp:p.1 with
  |nx τ1=>
   rw[hp]at e0
   exact fun σ1 S1=>⟨m1,p.2,τ1,o,st',R1,S1,e0,q.mono b1 t1⟩
  |rt d=>
   rw[hp]at e0
   cases e0
   exact q m1 H1 b1 t1 R1
  |bk d=>
   rw[hp]at e0
   cases e0
   exact q m1 H1 b1 t1 R1
  |ct d=>
   rw[hp]at e0
   cases e0
   exact q m1 H1 b1 t1 R1
end
theorem allOk(fns:List Fn)(dl:Nat):∀ n j,j≤n→AllOk fns dl j:=by
 intro n
 induction n with
 |zero=>intro j h; rw[Nat.le_zero.mp h]; exact allOk_zero fns dl
 |succ n ih=>
  intro j h
  rcases Nat.lt_or_ge j (n+1) with z|z
  ·exact ih j (by omega)
  ·have e:j=n+1:=by omega
   subst e
   have A:=ih n (Nat.le_refl n)
   exact⟨fun c X G e p h=>e_ok A G h,fun c X G e p h=>t_ok A G h,fun c X G e op ps pos h=>w_ok A G h,fun c X G hf ss ps h=>ss_ok ih G hf h⟩
structure FText (K:PySem.W.Frag) (mg:Str→Option Value) (fns:List Fn) (names:List Str) (glo:Glo) (f:Nat) (x:Str):Prop where
 ex:∃ (fa:Addr) (fd:FuncData) (st:Stmt) (N ps:List Str) (F:Fn),fns[f]?=some F∧Fun K x x st fa fd∧mg x=some (.ref fa)∧Binds K fd ps []∧FnScope N ps (defScope st)∧CkSs ⟨N,defScope st,names,glo⟩ F.body (defBody st)∧F.np=ps.length∧F.nl=N.length
theorem fun_ok{P:Program}{w:World}{K:PySem.W.Frag}{mg:Str→Option Value}{base:Heap}{fns:List Fn}{names:List Str}{glo:Glo}{n f:Nat}{x:Str}{fa:Addr}{fd:FuncData}{st:Stmt}{N ps:List Str}{F:Fn}(ih:FTab P w K mg base fns names n)(Mg:Mo K mg glo w.params)
  (hF:fns[f]?=some F) (hfun:Fun K x x st fa fd) (hsc:FnScope N ps (defScope st)) (hck:CkSs ⟨N,defScope st,names,glo⟩ F.body (defBody st)) (hnp:F.np=ps.length) (hnl:F.nl=N.length):FnOk P w K mg base CX0 (n+1) fa fd ps (spN K fns (n+1) f):=by
 have unf:∀ {ds:List D}{st0 st':Store}{d:D},M.callD fns (n+1) f ds st0=some (d,st')→ds.length=F.np∧((M.Lv fns n).ex (ds.map some++List.replicate (F.nl - ds.length) none) st0 F.body).bind (fun p=>match p.1 with
   |.rt d=>some (d,p.2)
   |.nx _=>some (D.non,p.2)
   |_=>none)=some (d,st'):=fun {ds st0 st' d} e=>by
  have e:M.stepCall fns (M.Lv fns n) f ds st0=some (d,st'):=e
  unfold M.stepCall at e
  rw[hF]at e
  dsimp only at e
  split at e
  ·rename_i hl
   exact⟨hl,e⟩
  ·cases e
 refine hfun.ok hsc (fun vs H Q E h=>?_) (fun cdv A outer s H vs Q E hr h=>?_)
 ·obtain⟨m,st0,ds,d,st',_,ix,e,_⟩:=h
  rw[← ix.length,(unf e).1,hnp]
 ·obtain⟨m,st0,ds,d,st',R0,ix,e,q⟩:=h
  obtain⟨hl,e⟩:=unf e
  obtain⟨p,e1,e2⟩:=bindO e
  obtain⟨k,e1⟩:=M.lim1_is e1
  have G:Good fns n ⟨N,defScope st,names,glo⟩ (cxOf CX0 P w K mg base N x (defScope st) fa cdv A outer s H E).nox:=⟨hr,rfl,rfl,rfl,hsc.nd,hsc.kind,ih,Mg,rfl⟩
  refine⟨_,(allOk fns n k k (Nat.le_refl k)).s _ _ G (fun _=>rfl) F.body (defBody st) hck,?_⟩
  refine⟨m,st0,ds.map some++List.replicate (F.nl - ds.length) none,p.1,p.2,R0,⟨?_,fun i d0 hi=>?_⟩,e1,fun m1 H1 b1 t1 R1=>?_⟩
  ·unfold L2.start
   rw[List.length_append,List.length_append,List.length_map,List.length_map,List.length_replicate,List.length_replicate,hnl,ix.length]
  ·unfold L2.start
   by_cases hlt:i<ds.length
   ·rw[List.getElem?_append_left (by simpa using hlt),List.getElem?_map]at hi
    have e3:ds[i]?=some d0:=by
     cases z:ds[i]? with
     |none=>rw[z]at hi; cases hi
     |some y=>rw[z]at hi; cases hi; rfl
    obtain⟨v,e4,iv⟩:=ix.get e3
    refine⟨v,?_,iv⟩
    rw[List.getElem?_append_left (by rw[List.length_map,← ix.length]; exact hlt),List.getElem?_map,e4]
    rfl
   ·rw[List.getElem?_append_right (by simpa using hlt),List.getElem?_replicate]at hi
    split at hi<;>cases hi
  ·cases hp:p.1 with
   |rt d1=>
    rw[hp]at e2
    cases e2
    exact fun v iv=>q v m1 H1 b1 t1 R1 iv
   |nx τ1=>
    rw[hp]at e2
    cases e2
    exact fun σ1 S1=>q _ m1 H1 b1 t1 R1 mkNon
   |bk d1=>rw[hp]at e2; cases e2
   |ct d1=>rw[hp]at e2; cases e2
noncomputable def spLaw(K:PySem.W.Frag):Sp:=fun vs H Q _=>∃ (a:Addr) (ns:List Int),vs=[.ref a]∧SqF K H a (ns.map V.int)∧ns.length≤63∧∀ H',Q (.bl true) H'
theorem law_sp{K:PySem.W.Frag}{fns:List Fn}{n f:Nat}(h:∀ ns:List Int,ns.length≤63→∃ st',M.callD fns n f [.lst (ns.map D.int)] []=some (.bl true,st'))(vs:List V)(H:Hp)(Q:VK)(E:XK)(q:spLaw K vs H Q E):spN K fns n f vs H Q E:=by
 obtain⟨a,ns,rfl,hS,hl,k⟩:=q
 obtain⟨st',e⟩:=h ns hl
 refine⟨[],[],[.lst (ns.map D.int)],.bl true,st',⟨rfl,fun l l' b c c' e1 e2 e3 e4 w w'=>?_,fun l c b e1 e2=>?_⟩,mkCons (mkLst hS (isDs_ints ns)) mkNil,e,fun v m' H' _ _ _ i=>?_⟩
 ·simp at e3
 ·simp at e1
 ·rw[i.bl]; exact k H'
theorem only_sq{K:PySem.W.Frag}{H:Hp}{a:Addr}{xs:List V}(hO:Only H)(h:SqL K H a xs):SqF K H a xs:=by
 rcases h with (h|⟨o,h⟩)|h
 ·rcases hO a with z|⟨ob,ys,z⟩
  ·rw[h]at z; cases z
  ·rw[h]at z; cases z
 ·exact .inl ⟨o,h⟩
 ·exact .inr h
theorem walk_law{l:PySem.W.OpenLaw}{k:Nat}{q:Program}{loose:List Str}{XP:(Str→Option Value)→Heap→Prop}{YP:World→Heap→Prop}{d:DefRec}{K:Params→PySem.W.Frag}{x:Str}(hn:l.most=some 63)(hdf:d.params.defaults=[])(hr:Room k callerA)
  (hY:∀ (w:World) (h:Heap),YP w h→(K w.params).In h)
  (F:∀ (w:World) (mg:Str→Option Value) (fa:Addr) (h:Heap),(K w.params).In h→h.Ns mainGlobals mg→mg d.name=some (.ref fa)→
   ∃ fd:FuncData,(∀ (s:Shared) (u:Value),BindsTo s fd ⟨[u],[]⟩ [(x,u)])∧∀ base:Heap,(K w.params).In base→base.Ns mainGlobals mg→FnOk l.prog w (K w.params) mg base CX0 k fa fd [x] (spLaw (K w.params))) :
  PySem.W.WalkO q loose XP YP l.row.toRowW d [] (fun f vs=>PySem.call f vs):=
 L2.walk_of (n:=63) (k:=k) (x:=x) (CX:=fun _=>CX0) (sp:=fun w=>spLaw (K w.params)) hn (by decide) hdf hr hY F (fun _ _ a ns hl hO hS=>⟨a,ns,rfl,only_sq hO hS,hl,fun _=>rfl⟩) fun _ _ _ _ _ z=>z
noncomputable def srcOk(sr:List (Option Nat))(N cN:List Str)(scope:Scope):Bool:=(List.range sr.length).all fun j=>match sr[j]? with
 |some (some i)=>match N[j]? with
  |some x=>cN[i]?==some x&&scope.names.lookup x==some .free
  |none=>false
 |_=>true
theorem src_of{sr:List (Option Nat)}{N cN:List Str}{scope:Scope}(h:srcOk sr N cN scope=true):∀ (j i:Nat),sr[j]?=some (some i)→∃ x,N[j]?=some x∧cN[i]?=some x∧scope.names.lookup x=some .free:=by
 intro j i e
 unfold srcOk at h
 rw[List.all_eq_true]at h
 have:=h j (List.mem_range.mpr (List.getElem?_eq_some_iff.mp e).1)
 rw[e]at this
 dsimp only at this
 split at this
 ·rename_i x hx
  rw[Bool.and_eq_true,beq_iff_eq,beq_iff_eq]at this
  exact⟨x,hx,this.1,this.2⟩
 ·cases this
theorem swaps_or(elt:Expr)(gs:List Comprehension)(sc:Scope)(q:Pos)(t:Str)(p:Pos)(line:Nat)(env:Env):swapsWith (.ListComp elt gs sc q) (some (.Name t p)) line env=pure false∨swapsWith (.ListComp elt gs sc q) (some (.Name t p)) line env=pure true:=by
 have e:swapsWith (.ListComp elt gs sc q) (some (.Name t p)) line env=pure (env.blockKind==.function&&env.kindOf t==some .local&&p.line==q.line && !(sc.names.any fun(n,k)=>n==t&&(k==.local||k==.cell))):=rfl
 rw[e]
 cases (env.blockKind==.function&&env.kindOf t==some .local&&p.line==q.line && !(sc.names.any fun(n,k)=>n==t&&(k==.local||k==.cell))) with
 |false=>exact .inl rfl
 |true=>exact .inr rfl
inductive FnK (K:PySem.W.Frag) (x:Str) (st:Stmt):Addr→FuncData→Prop
 |mk {f:Addr}{od an:Option Addr}{sl:Array (Option Value)}{oc kV dc pm cd ct:Value}(a:PySem.W.nsIn K mainGlobals x=some (some (.ref f))) (l:K.lookup f=some ⟨oc,od,.func (PySem.W.fnOf x x (defArgs st) (defBody st) (defScope st) .none kV dc pm an cd ct),sl⟩) (c:PySem.W.codeIn K cd x=true) (k:PySem.W.keepIn K (.ref f)=true):FnK K x st f (PySem.W.fnOf x x (defArgs st) (defBody st) (defScope st) .none kV dc pm an cd ct)
theorem FnK.text{K:PySem.W.Frag}{h:Heap}{mg:Str→Option Value}{fns:List Fn}{names:List Str}{glo:Glo}{f:Nat}{x:Str}{st:Stmt}{fa:Addr}{fd:FuncData}{N ps:List Str}(q:FnK K x st fa fd)(X:K.In h)(G:h.Ns mainGlobals mg)(F:Fn)(sc:FnScope N ps (defScope st))(ck:CkSs ⟨N,defScope st,names,glo⟩ F.body (defBody st))(hF:fns[f]?=some F)(hnp:F.np=ps.length)(hnl:F.nl=N.length)
  (b:∀ (kV doc pm:Value) (an:Option Addr) (cdv ct:Value) (us:List Value),us.length=ps.length→bindArgs (PySem.W.fnOf x x (defArgs st) (defBody st) (defScope st) .none kV doc pm an cdv ct) ⟨us,[]⟩=pure (ps.zip us)):FText K mg fns names glo f x:=by
 cases q with
 |mk a l c k=>exact⟨_,_,st,N,ps,F,hF,fun_mk l c k,PySem.W.mg_of X G a,(fun_mk l c k).binds b,sc,ck,hnp,hnl⟩
inductive NoB (K:PySem.W.Frag):Prop
 |mk (z0:PySem.W.nsIn K mainGlobals "len" = some none) (z1:PySem.W.nsIn K mainGlobals "min" = some none) (z2:PySem.W.nsIn K mainGlobals "max" = some none) (z3:PySem.W.nsIn K mainGlobals "tuple" = some none) (z4:PySem.W.nsIn K mainGlobals "list" = some none) (z5:PySem.W.nsIn K mainGlobals "all" = some none) (z6:PySem.W.nsIn K mainGlobals "sorted" = some none) (z7:PySem.W.nsIn K mainGlobals "isinstance" = some none) (z8:PySem.W.nsIn K mainGlobals "range" = some none) (z9:PySem.W.nsIn K mainGlobals "int" = some none) (z10:PySem.W.nsIn K mainGlobals "bool" = some none) (z11:PySem.W.nsIn K mainGlobals "str" = some none) (z12:PySem.W.nsIn K mainGlobals "zip" = some none) (z13:PySem.W.nsIn K mainGlobals "any" = some none) (z14:PySem.W.nsIn K mainGlobals "enumerate" = some none) (z15:PySem.W.nsIn K mainGlobals "reversed" = some none) (z16:PySem.W.nsIn K mainGlobals "sum" = some none) (z17:PySem.W.nsIn K mainGlobals "set" = some none) (z18:PySem.W.nsIn K mainGlobals "dict" = some none):NoB K
theorem NoB.mo{K:PySem.W.Frag}{h:Heap}{mg:Str→Option Value}{glo:Glo}{prm:Params}(z:NoB K)(X:K.In h)(G:h.Ns mainGlobals mg)(h1:∀ x ks ds,(x,ks,ds)∈glo.ds→∃ a,mg x=some (.ref a)∧FDict prm K a ks ds)(h2:∀ x d,(x,d)∈glo.cs→∃ u v,mg x=some u∧RelV v u∧∀ m H,IsD K m H d v):Mo K mg glo prm:=by
 obtain⟨z0,z1,z2,z3,z4,z5,z6,z7,z8,z9,z10,z11,z12,z13,z14,z15,z16,z17,z18⟩:=z
 exact⟨h1,h2,PySem.W.mg_none_of X G z0,PySem.W.mg_none_of X G z1,PySem.W.mg_none_of X G z2,PySem.W.mg_none_of X G z3,PySem.W.mg_none_of X G z4,PySem.W.mg_none_of X G z5,PySem.W.mg_none_of X G z6,PySem.W.mg_none_of X G z7,PySem.W.mg_none_of X G z8,PySem.W.mg_none_of X G z9,PySem.W.mg_none_of X G z10,PySem.W.mg_none_of X G z11,PySem.W.mg_none_of X G z12,PySem.W.mg_none_of X G z13,PySem.W.mg_none_of X G z14,PySem.W.mg_none_of X G z15,PySem.W.mg_none_of X G z16,PySem.W.mg_none_of X G z17,PySem.W.mg_none_of X G z18⟩
inductive TupK (K:PySem.W.Frag) (a:Addr) (vs:Array Value):Prop
 |mk {gd:Option Addr}{gn:Nat}{gs:Array (Option Value)}(h:K.lookup a=some ⟨.type "tuple",gd,.seq vs gn,gs⟩):TupK K a vs
end MS
end
section
namespace MS
open PySem PySem.Spec PyProof.Rows L2
theorem inv_cov{X:Cx}{pins:List (Addr×Obj)}{σ:L2.St}{H:Hp}{s:Shared}{h':Heap}{n:Nat}(I:Inv X pins σ H s)(hn:X.s₀.heap.objs.size≤n)(hL:X.env.locals<n)(hC:∀ x c,X.env.cells.lookup x=some c→c<n)(hp:∀ p∈X.pn++pins,p.1<n)
  (cov:∀ b o,s.heap.get? b=some o→(b<n∨H b≠none)→b ∉ frs X.stack→h'.get? b=some o) (up:s.heap.UpToSlots h'):Inv X pins σ H { s with heap:=h' }:=by
 classical
 have nfs:∀ b,H b≠none→b ∉ frs X.stack:=fun b h z=>h (I.stkFree b z)
 have frm:∀ b o,s.heap.get? b=some o→b∈frs X.stack→∃ sl,h'.get? b=some { o with slots:=sl }:=fun b o e hb=>by
  obtain⟨_,o',e',d⟩:=I.stack.mem hb
  rw[e]at e'
  cases e'
  exact up b o e d
 have sub:∀ b∈X.fs,b∈frs X.stack:=fun b hb=>by
  rcases I.ok.stk with e|⟨e,hf⟩
  ·rw[e]; exact hb
  ·rw[e]; unfold frs; rw[List.filterMap_cons,hf]; exact List.mem_cons_of_mem _ hb
 have big:∀ b o,s.heap.get? b=some o→b ∉ (List.range s.heap.objs.size).filter (fun b=>decide (n≤b∧H b=none))→b<n∨H b≠none:=fun b o e hb=>by
  rcases Nat.lt_or_ge b n with z|z
  ·exact .inl z
  ·refine .inr fun q=>hb (List.mem_filter.mpr ⟨List.mem_range.mpr (Heap.lt_size e),decide_eq_true ⟨z,q⟩⟩)
 refine I.step (g':=s.gens) (t':=s.toks) (d':=s.drawn) (ch:=(List.range s.heap.objs.size).filter fun b=>decide (n≤b∧H b=none)) (fun b hb=>?_) (fun b o l f hb e q=>?_) (fun b o l f hb e q=>frm b o e (sub b f)) (fun _ _ _ _ q=>q) (fun b o hb e=>?_) (fun _ _ e=>e) (fun _ _ _ e=>e) (fun b ps e=>⟨#[],by rw[e]; simp⟩) (fun m q=>up.ns q) (fun b u e=>?_) I.bare
 ·obtain⟨z1,z2⟩:=of_decide_eq_true (List.mem_filter.mp hb).2
  exact⟨.inr (Nat.le_trans hn z1),fun z=>Nat.not_le.mpr hL (by rw[← z]; exact z1),fun x c e z=>Nat.not_le.mpr (hC x c e) (by rw[z]; exact z1),fun p q z=>Nat.not_le.mpr (hp p q) (by rw[z]; exact z1)⟩
 ·refine cov b o e (big b o e hb) fun z=>?_
  rcases List.mem_cons.mp (I.stkSub b z) with z|z
  ·exact l z
  ·exact f z
 ·by_cases hf:b∈frs X.stack
  ·obtain⟨sl,q⟩:=frm b o e hf
   exact⟨_,q⟩
  ·exact⟨o,cov b o e (big b o e hb) hf⟩
 ·refine(I.hok b u e).stay (fun c v hc q=>?_) (fun _ q=>q) fun _ _ q=>q
  have hz:H c≠none:=by
   rcases hc with z|z
   ·rw[z,e]; exact fun q=>nomatch q
   ·rw[z]; exact fun q=>nomatch q
  exact cov c v q (.inr hz) (nfs c hz)
structure Fl (C:Addr) (l:List Env) (n:Nat) (H:Hp) (ea t:Addr) (g B h:Heap):Prop where
 cov:∀ b o,g.get? b=some o→(b<n∨H b≠none)→b ∉ frs l→B.get? b=some o
 up:g.UpToSlots h
 stay:B.StaysIn h
 new:B.get? ea=none
 fr:h.FunFrames B l
 tr:∃ fl,h.TracedAtW B ea (.ref C) (.ref t) fl
theorem Fl.turn{C:Addr}{l:List Env}{n:Nat}{H:Hp}{ea t:Addr}{g B h h':Heap}(x:Fl C l n H ea t g B h)(st:B.StaysIn h')(fr:h'.FunFrames B l)(up:h.UpToSlots h')(tr:∃ fl,h'.TracedAtW B ea (.ref C) (.ref t) fl):Fl C l n H ea t g B h':=
 ⟨x.cov,x.up.trans up,st,x.new,fr,tr⟩
noncomputable def CXr(P:Program)(w:World)(C:Addr):CXT:=fun outer H s E e s'=>∃ H' ea t g B,e=.ref ea∧s'.os=s.os∧AllBare s'.gens∧Un (frs outer) [] H H' s.heap g∧HOk P w H' g∧Fl C outer s.heap.objs.size H' ea t g B s'.heap∧E .none none H'
def Air(C:Addr)(X:Cx)(pins:List (Addr×Obj))(σ:L2.St)(H:Hp)(e:Value)(s:Shared):Prop:=
 ∃ g n ea t B,e=.ref ea∧Inv X pins σ H { s with heap:=g }∧X.s₀.heap.objs.size≤n∧X.env.locals<n∧(∀ x c,X.env.cells.lookup x=some c→c<n)∧(∀ p∈X.pn++pins,p.1<n)∧Fl C X.stack n H ea t g B s.heap
inductive Thr (C:Addr) (X:Cx) (P:Hp→Prop):Value→Shared→Prop
 |made {pins σ H s h' ea vs} (I:Inv X pins σ H s) (x:Heap.MadeExcOf s.heap h' ea (.ref C) vs) (p:P H):Thr C X P (.ref ea) { s with heap:=h' }
 |air {pins σ H e s} (a:Air C X pins σ H e s) (p:P H):Thr C X P e s
section
variable {X:Cx}{pins:List (Addr×Obj)}{σ:L2.St}{H H':Hp}{s s':Shared}{C:Addr}{e:Value}
theorem Inv.cell_lt(I:Inv X pins σ H s){x:Str}{c:Addr}(e:X.env.cells.lookup x=some c):c<s.heap.objs.size:=by
 obtain⟨v,q⟩:=I.cell x c e
 exact q.lt
theorem Inv.air{E:XK}(I:Inv X pins σ H s)(c:CXr X.prog X.w C X.stack H s E e s'):∃ H',Air C X pins σ H' e s'∧E .none none H':=by
 obtain⟨H',ea,t,g,B,rfl,os,bare,un,hok,fl,q⟩:=c
 exact⟨H',⟨g,s.heap.objs.size,ea,t,B,rfl,I.call' (s':={ s' with heap:=g }) (ch:=[]) os un hok bare (fun b z=>absurd z (by simp)),I.sz,I.lt,fun x c e=>Inv.cell_lt I e,fun p hp=>Heap.lt_size (I.pin p hp).1,fl⟩,q⟩
theorem Air.land(a:Air C X pins σ H e s):Inv X pins σ H s:=by
 obtain⟨g,n,ea,t,B,rfl,I,h1,h2,h3,h4,fl⟩:=a
 exact inv_cov (s:={ s with heap:=g }) (h':=s.heap) I h1 h2 h3 h4 (fun b o q z nf=>fl.stay b o (fl.cov b o q z nf)) fl.up
end
theorem note_eq{e:Value}{env env':Env}(h:env.frame=env'.frame):noteFrame e env=noteFrame e env':=by
 unfold noteFrame PySem.frameOf
 rw[h]
section
variable {M:Model}{A:Around}{E:Value→Shared→Prop}{s:Shared}{Q:Unit→Shared→Prop}{C:Addr}{l:List Env}{n:Nat}{H:Hp}{ea t L:Addr}{g B:Heap}
theorem note_any{env:Env}(hfr:A.frames=some (env::l))(hf:env.frame=some L)(x:Fl C (env::l) n H ea t g B s.heap)
  (h:∀ h',Fl C (env::l) n H ea t g B h'→Q () { s with heap:=h' }):wpAny M A (noteFrame (.ref ea) env) Q E s:=by
 obtain⟨fl,tr⟩:=x.tr
 by_cases hq:fl=rawInt L
 ·subst hq
  exact wpAny_noteFrame_againW hf tr (h s.heap x)
 ·obtain⟨oe,vs,T,oT,ts,e1,⟨e2,e3⟩,e4,e5,e6,e7,e8,e9,e10⟩:=tr
  unfold noteFrame
  simp only[hf]
  refine wpAny_bind (wpAny_field e1 e4 e5 ?_); rw[if_pos (by simp)]
  refine wpAny_bind (wpAny_field e8 e9 e10 ?_); rw[if_neg (by simpa using hq)]
  refine wpAny_bind (wpAny_setField e8 e9 (Array.getElem?_eq_some_iff.mp e10).1 ?_)
  have nT:∀ b,b≠T→(s.heap.update T (Obj.mapFields (·.setIfInBounds 3 Value.none))).get? b=s.heap.get? b:=fun b hb=>Heap.get?_update_other _ _ (Ne.symm hb)
  have rec_:∀ b o,s.heap.get? b=some o→(∀ vs,o.data≠.fields vs)→b≠T:=fun b o hb hd z=>by
   rw[z,e8]at hb
   cases hb
   exact hd ts e9
  have st:B.StaysIn (s.heap.update T (Obj.mapFields (·.setIfInBounds 3 Value.none))):=fun b o hb=>(nT b fun z=>by rw[z,e6]at hb; cases hb).trans (x.stay b o hb)
  refine wpAny_entryW hfr (x.fr.of_keeps fun b o hb hd=>⟨o,(nT b (rec_ b o hb hd)).trans hb,rfl⟩) hf ((nT ea (Ne.symm e7)).trans e1) st x.new e4 (Array.getElem?_eq_some_iff.mp e5).1 e3 fun h' N=>h h' ?_
  obtain⟨n1,n2,n3,n4⟩:=N
  exact x.turn n1 n2 (fun b o hb hd=>n4 b o ((nT b (rec_ b o hb hd)).trans hb) hd) ⟨_,by rw[← e2]; exact n3⟩
theorem flight_any{fr:Option Addr}(x:Fl C l n H ea t g B s.heap)(h:∀ h',Fl C l n H ea t g B h'→Q () { s with heap:=h' }):wpAny M A (setFlight (.ref ea) fr) Q E s:=by
 obtain⟨fl,oe,vs,T,oT,ts,e1,e2,e4,e5,e6,e7,e8,e9,e10⟩:=x.tr
 unfold setFlight
 refine wpAny_bind (wpAny_field e1 e4 e5 ?_); rw[if_pos (by simp)]
 have h3:3<ts.size:=(Array.getElem?_eq_some_iff.mp e10).1
 have nT:∀ b,b≠T→(s.heap.update T (Obj.mapFields (·.setIfInBounds 3 (fr.elim Value.none fun f=>rawInt f)))).get? b=s.heap.get? b:=fun b hb=>Heap.get?_update_other _ _ (Ne.symm hb)
 have rec_:∀ b o,s.heap.get? b=some o→(∀ vs,o.data≠.fields vs)→b≠T:=fun b o hb hd z=>by
  rw[z,e8]at hb
  cases hb
  exact hd ts e9
 refine wpAny_setField e8 e9 h3 (h _ (x.turn (fun b o hb=>(nT b fun z=>by rw[z,e6]at hb; cases hb).trans (x.stay b o hb)) (x.fr.of_keeps fun b o hb hd=>⟨o,(nT b (rec_ b o hb hd)).trans hb,rfl⟩) (fun b o hb hd=>⟨o.slots,(nT b (rec_ b o hb hd)).trans hb⟩) ⟨_,oe,vs,T,_,_,(nT ea (Ne.symm e7)).trans e1,e2,e4,e5,e6,e7,Heap.get?_update_self _ e8 (Obj.isFreed_of_fields (Obj.data_mapFields e9 _)),Obj.data_mapFields e9 _,by simp[h3]; rfl⟩))
end
end MS
end
section
namespace MS
open PySem PySem.Spec PyProof.Rows L2
theorem leave_ok{C:Addr}{P:Program}{w:World}{K:PySem.W.Frag}{mg:Str→Option Value}{base:Heap}{N:List Str}{qual:Str}{scope:Scope}{f:Addr}{cd:Value}{A:Around}{outer:List Env}{s:Shared}{H:Hp}{E:XK}{e:Value}{s':Shared}
  (x:Thr C (cxOf (CXr P w C) P w K mg base N qual scope f cd A outer s H E) (fun H'=>E .none none H') e s'):(cxOf (CXr P w C) P w K mg base N qual scope f cd A outer s H E).xe e s':=by
 have nfr:∀ {pins:List (Addr×Obj)}{σ:L2.St}{H':Hp}{s1:Shared},Inv (cxOf (CXr P w C) P w K mg base N qual scope f cd A outer s H E) pins σ H' s1→∀ b,(b<s.heap.objs.size∨H' b≠none)→b ∉ frs outer→b ∉ frs (envOfC qual scope s.heap.objs.size f cd::outer):=by
  intro pins σ H' s1 I b z nf hb
  have hb:b∈s.heap.objs.size::frs outer:=hb
  rcases List.mem_cons.mp hb with q|q
  ·rcases z with z|z
   ·exact Nat.lt_irrefl _ (Nat.lt_of_lt_of_eq z q.symm)
   ·exact z (by rw[q]; exact I.free)
  ·exact nf q
 cases x with
 |made I x p=>
  rename_i pins σ H1 s1 h' ea vs
  refine wpAny_leaves_madeW (base:=PySem.W.hideAll s1.heap (frs (envOfC qual scope s.heap.objs.size f cd::outer))) I.ok.frames rfl (fun b o q=>PySem.W.of_hideAll _ q) (PySem.W.funFrames_hide I.stack fun env he a ha=>List.mem_filterMap.mpr ⟨env,he,ha⟩) x fun h2 t x1 x2 x3 x4=>?_
  obtain⟨y1,y2,y3,y4⟩:=x1
  exact⟨H1,ea,t,s1.heap,_,rfl,I.os,I.bare,I.base,I.hok,⟨fun b o q z nf=>PySem.W.hideAll_get _ q (nfr I b z nf),(Heap.UpToSlots.of_keeps x.keeps).trans x4,y1,y2,y3,⟨_,y4⟩⟩,p⟩
 |air a p=>
  rename_i pins σ H1
  obtain⟨g,n,ea,t,B,rfl,I,h1,h2,h3,h4,fl⟩:=a
  show wpAny _ _ (leaving _ _) _ _ _
  unfold leaving
  refine wpAny_bind (note_any I.ok.frames rfl fl fun h' f1=>flight_any f1 fun h2 f2=>?_)
  exact⟨H1,ea,t,g,B,rfl,I.os,I.bare,I.base,I.hok,⟨fun b o q z nf=>f2.cov b o q (z.imp (fun z=>Nat.lt_of_lt_of_le z h1) id) (nfr I b z nf),f2.up,f2.stay,f2.new,f2.fr.2.2,f2.tr⟩,p⟩
abbrev bmV:List Value:=[.type "ValueError",.type "Exception",.type "BaseException",.type "object"]
structure Bad (K:PySem.W.Frag) (mg:Str→Option Value) (C:Addr):Prop where
 own:∀ h:Heap,K.In h→OwnCls ("BadText" : Str) C bmV "ValueError.__new__" mg h
theorem raise_ok{X:Cx}{C:Addr}{P:Hp→Prop}{msg:Str}{j:Nat}{p1 np cpos pos:Pos}(G:Bad X.K X.mg C)(hc:X.calm=true)(thr:∀ e s',Thr C X P e s'→X.xe e s')(hg:Gl X "BadText"):
  PS X (.Raise (some (.Call (.Name "BadText" np) [.Constant (.str msg) j p1] [] cpos)) none pos) (fun _ _ H=>P H):=by
 intro pins s σ H D I h
 have O:=G.own X.base I.ok.mod.kin
 obtain⟨tl,Nn,nm,q,bs,hdct,sn,sub,ab,col,dd,k0,k1,k2,k3,k5,mN,hC,hN,hni,T⟩:=O.obj
 refine wpAny_Raise_call_subT (C:=C) (k5:=k5) (k3:=k3) (k2:=k2) (k1:=k1) (k0:=k0) (dd:=dd) (col:=col) (ab:=ab) (sub:=sub) (sn:=sn) (hdct:=hdct) (bm:=tl) (bs:=bs) (N:=Nn) (q:=q) (nm:=nm) F.excBase_ValueError (mN:=mN) (T.hasType F.excBase_ValueError.hasBase) (I.ok.hd hc) rfl hni (ld_glob I hg O.bound ⟨rfl,?_⟩ (by decide))
 refine Calls.evalArgs_plain (thn ((pa_cons pe_str pa_nil rfl) cpos pins s σ H (fun vs H1=>vs.length≤sizeLine∧H1=H) I ⟨(by decide:1≤sizeLine),rfl⟩) fun vs s2 ⟨ws,H2,I2,r,z,e2⟩=>?_)
 subst e2
 exact⟨rfl,by rw[← r.length]; exact z,I2.bk _ _ hC,hN.keeps I2.bk,T.keeps I2.bk,fun h' e hm=>thr _ _ (.made I2 hm h)⟩
end MS
end
section
namespace MS
open PySem PySem.Spec PyProof.Rows L2
theorem Air.wish{X:Cx}{C:Addr}{pins:List (Addr×Obj)}{σ:L2.St}{H:Hp}{e:Value}{s:Shared}{E:Value→Shared→Prop}(a:Air C (X.wish E) pins σ H e s):Air C X pins σ H e s:=by
 obtain⟨g,n,ea,t,B,h0,I,h1,h2,h3,h4,fl⟩:=a
 exact⟨g,n,ea,t,B,h0,I.unwish,h1,h2,h3,h4,fl⟩
theorem funFrames_at{h h' B:Heap}:∀ {l:List Env},h.FunFrames B l→(∀ b∈frs l,h'.get? b=h.get? b)→h'.FunFrames B l
 |[],_,_=>trivial
 |env::r,⟨hk,⟨L,o,hf,hn,ho,hd⟩,hr⟩,k=>by
  have e:frs (env::r)=L::frs r:=by unfold frs; rw[List.filterMap_cons,hf]
  exact⟨hk,⟨L,o,hf,hn,(k L (by rw[e]; exact List.mem_cons_self)).trans ho,hd⟩,funFrames_at hr fun b hb=>k b (by rw[e]; exact List.mem_cons_of_mem _ hb)⟩
theorem comp_air{X:Cx}{pins pins':List (Addr×Obj)}{σ σ':L2.St}{H H':Hp}{s s':Shared}{scope:Scope}{N:List Str}{fp:List Addr}{C C0:Addr}{P:Hp→Prop}{e acc:Value}{Q:Value→Shared→Prop}(I:Inv X pins σ H s)(hfp:∀ b∈fp,FpOk X pins H b)
  (top:∃ e0 r L,X.stack=e0::r∧e0.frame=some L∧X.env.frame=some L) (thr:∀ pins σ H e s',Air C0 X pins σ H e s'→P H→X.xe e s') (hC:s.heap.objs.size≤C) (a:Air C0 (cxComp X N scope C fp s H) pins' σ' H' e s') (p:P H') :
  notedBy (model X.prog X.w) X.A (compEnvC scope (closL X.env.cells scope.names []) C X.env) (fun e s'=>compPost (model X.prog X.w) X.A X.xe none Q acc C (.error e) s') e s':=by
 obtain⟨g,n,ea,t,B,rfl,I',h1,h2,h3,h4,fl⟩:=a
 obtain⟨e0,r,L,hst,hf0,hf⟩:=top
 have hstk:(cxComp X N scope C fp s H).stack=e0::r:=hst
 unfold notedBy
 rw[note_eq (env:=compEnvC scope (closL X.env.cells scope.names []) C X.env) (env':=e0) (show X.env.frame=e0.frame by rw[hf,hf0])]
 rw[hstk]at fl
 refine note_any (by rw[I.ok.frames,hst]) hf0 fl fun hh f1=>?_
 have A1:Air C0 (cxComp X N scope C fp s H) pins' σ' H' (.ref ea) { s' with heap:=hh }:=⟨g,n,ea,t,B,rfl,I',h1,h2,h3,h4,by rw[hstk]; exact f1⟩
 obtain⟨m,hm,_⟩:=A1.land.loc
 refine⟨m,hm,fun h3' sb cenv hcl=>?_⟩
 have hCn:∀ b∈frs (e0::r),b≠C:=fun b hb z=>by
  obtain⟨_,o,ho,_⟩:=I.stack.mem (show b∈frs X.stack by rw[hst]; exact hb)
  have:=Heap.lt_size ho
  rw[z]at this
  exact Nat.not_le.mpr this hC
 have hg:∃ o,g.get? C=some o:=by
  obtain⟨m',⟨o,_,_,ho,_⟩,_⟩:=I'.loc
  exact⟨o,ho⟩
 have hB:∃ o,B.get? C=some o:=by
  obtain⟨o,ho⟩:=hg
  exact⟨o,f1.cov C o ho (.inl h2) fun z=>hCn C z rfl⟩
 have sm:∀ b,b≠C→h3'.get? b=hh.get? b:=fun b hb=>sb.2 b hb
 have nB:∀ b,B.get? b=none→b≠C:=fun b hb z=>by
  obtain⟨o,ho⟩:=hB
  rw[z,ho]at hb
  cases hb
 have hid:∀ {k:Heap}{b:Addr}{o:Obj},(PySem.W.hideAll k [C]).get? b=some o→b≠C:=fun {k b o} q z=>by
  rw[PySem.W.hideAll_none [C] (by rw[z]; exact .head _)]at q
  cases q
 have fX:Fl C0 X.stack s.heap.objs.size H' ea t (PySem.W.hideAll g [C]) (PySem.W.hideAll B [C]) h3':=by
  rw[hst]
  refine⟨fun b o q z nf=>?_,fun b o q d=>?_,fun b o q=>?_,?_,?_,?_⟩
  ·exact PySem.W.hideAll_get _ (f1.cov b o (PySem.W.of_hideAll _ q) (z.imp (fun z=>Nat.lt_of_lt_of_le z h1) id) nf) (by simpa using hid q)
  ·obtain⟨sl,z⟩:=f1.up b o (PySem.W.of_hideAll _ q) d
   exact⟨sl,(sm b (hid q)).trans z⟩
  ·exact(sm b (hid q)).trans (f1.stay b o (PySem.W.of_hideAll _ q))
  ·cases q:(PySem.W.hideAll B [C]).get? ea with
   |none=>rfl
   |some o=>
    have:=PySem.W.of_hideAll _ q
    rw[f1.new]at this
    cases this
  ·exact PySem.W.funFrames_base (fun b o q=>PySem.W.of_hideAll _ q) (funFrames_at f1.fr fun b hb=>sm b (hCn b hb))
  ·obtain⟨fl',oe,vs,T,oT,ts,e1,e2,e4,e5,e6,e7,e8,e9,e10⟩:=f1.tr
   refine⟨fl',oe,vs,T,oT,ts,(sm ea (nB ea f1.new)).trans e1,e2,e4,e5,?_,e7,(sm T (nB T e6)).trans e8,e9,e10⟩
   cases q:(PySem.W.hideAll B [C]).get? T with
   |none=>rfl
   |some o=>
    have:=PySem.W.of_hideAll _ q
    rw[e6]at this
    cases this
 have IX:Inv X pins σ H' { s' with heap:=g }:=I.call' (s':={ s' with heap:=g }) I'.os I'.base I'.hok I'.bare fun b hb=>⟨(hfp b hb).2.2.2.1,(hfp b hb).2.1,(hfp b hb).2.2.2.2.1,(hfp b hb).2.2.2.2.2⟩
 have IX2:Inv X pins σ H' { s' with heap:=PySem.W.hideAll g [C] }:=by
  obtain⟨c0,c1,c2,c3,c4,c5⟩:=I.fpOk hC (show H' C=none from I'.free)
  exact Inv.turned (s:={ s' with heap:=g }) IX (it:=C) (t':=s'.toks) (fun b o hb e=>PySem.W.hideAll_get _ e (by simpa using hb)) c0 c1 c3 c4 c5
 unfold PySem.passOn
 obtain⟨fl',oe,vs,T,oT,ts,e1,e2,e4,e5,e6⟩:=id fX.tr
 refine wpAny_bind (wpAny_field e1 e4 e5 ?_)
 rw[if_neg (by simp)]
 refine wpAny_bind (flight_any fX fun h4' f4=>wpAny_throw (thr pins σ H' _ _ ⟨_,s.heap.objs.size,ea,t,_,rfl,IX2,I.sz,I.lt,fun x c e=>Inv.cell_lt I e,fun p hp=>Heap.lt_size (I.pin p hp).1,f4⟩ p))
theorem pe_compX{X:Cx}{elt tg iter:Expr}{ifs:List Expr}{scope:Scope}{pos:Pos}{N:List Str}{src:List (Option Nat)}{wi:TI}{g:TG}{tt:TT}{te:TE}{C0:Addr}{P:Hp→Prop}(hc:X.calm=true)(S:CompScope X N src scope)(hi:PI X.nox tg iter wi)
  (hg:∀ C fp s H,PG (cxComp X N scope C fp s H) tg g) (ht:∀ C fp s H,TestR (cxComp X N scope C fp s H) ifs tt) (he:∀ C fp s H,PE ((cxComp X N scope C fp s H).wish fun e s'=>∃ pins σ H',Air C0 (cxComp X N scope C fp s H) pins σ H' e s'∧P H') elt te)
  (top:∃ e0 r L,X.stack=e0::r∧e0.frame=some L∧X.env.frame=some L) (thr:∀ pins σ H e s',Air C0 X pins σ H e s'→P H→X.xe e s')
  (hs:∀ x,foldedSetIterable iter X.env x=pure x):PE X (.ListComp elt [⟨tg,iter,ifs,0⟩] scope pos) (tComp src wi g tt te):=by
 intro pins s σ H Q I h
 rw[eval_ListComp]
 refine wpAny_comprehension_free (use:=none) rfl hs (comp_clos S I) S.kind S.loc (wpAny_mono (hi pins s σ H _ (I.wish _) h) (fun v s1 h1=>wpAny_mono h1 (fun itv s2 h2=>?_) fun _ _ z=>False.elim z) fun _ _ z=>False.elim z)
 obtain⟨it,fp,tn,J,H2,e,I2,T,st2,f2,W,w0,turn⟩:=h2
 subst e
 have I2:=I2.unwish
 refine comp_block (Ex:=fun D C e s'=>∃ pins σ H',Air C0 (cxComp X N scope C fp s2 H2) pins σ H' e s'∧P H') hc I2 T st2 f2 S (fun C=>hg C fp s2 H2) (fun C=>ht C fp s2 H2) (fun _ C=>he C fp s2 H2) (fun D C hC e s' ⟨_,_,_,a,p⟩=>comp_air I2 f2 top thr hC a p) W w0 turn ?_
 intro D C s' H' acc fin nD I' fC hm
 obtain⟨m',hn⟩:=hm
 refine⟨m',hn,fun h' sb=>⟨.ref D,upd H' D (.lst acc),?_,rfl,fin D nD⟩⟩
 obtain⟨c0,c1,c2,c3,c4,c5⟩:=fC
 exact I'.turned (t':=s'.toks) (fun b o hb e=>(sb.2 b hb).trans e) c0 c1 c3 c4 c5
end MS
end
section
namespace MS
open PySem PySem.Spec PyProof.Rows L2
open M (D Cell Store Sl E S T Src Fn Out R)
theorem PA.nox{X:Cx}{es:List Expr}{t:TA}(h:PA X.nox es t):PA X es t:=fun pos pins s σ H Q I hw=>
 wpAny_mono (h pos pins s σ H Q (I.wish _) hw) (fun _ _ ⟨v,H',I',r,q⟩=>⟨v,H',I'.unwish,r,q⟩) fun _ _ z=>False.elim z
theorem PS.nox{X:Cx}{st:Stmt}{t:TS}(h:PS X.nox st t):PS X st t:=fun pins s σ H D I hw=>
 wpAny_mono (h pins s σ H D (I.wish _) hw) (fun _ _ q=>q.unwish) fun _ _ z=>False.elim z
noncomputable def spX(K:PySem.W.Frag)(fns:List Fn)(ok:Nat→Bool)(n f:Nat):Sp:=fun vs H _ E=>∃ m st ds st',Rel K m st H∧IsDs K m H ds vs∧M.XC fns ok n f ds st st'∧∀ m' H',Sub m m'→Tr H H'→Rel K m' st' H'→E .none none H'
def XTab(P:Program)(w:World)(K:PySem.W.Frag)(mg:Str→Option Value)(base:Heap)(C:Addr)(fns:List Fn)(ok:Nat→Bool)(names:List Str)(n:Nat):Prop:=∀ (f:Nat) (x:Str),names[f]?=some x→ok f=true→∃ (fa:Addr) (fd:FuncData) (ps:List Str),
 mg x=some (.ref fa)∧FnOk P w K mg base (CXr P w C) n fa fd ps (spX K fns ok n f)∧PySem.W.keepIn K (.ref fa)=true∧Binds K fd ps []
structure GoodE (fns:List Fn) (ok:Nat→Bool) (dl:Nat) (c:Ctx) (C:Addr) (X:Cx) (P:Hp→Prop):Prop where
 good:Good fns dl c X.nox
 tab:XTab X.prog X.w X.K X.mg X.base C fns ok c.fns dl
 top:∃ e0 r L,X.stack=e0::r∧e0.frame=some L∧X.env.frame=some L
 thr:∀ pins σ H e s',Air C X pins σ H e s'→P H→X.xe e s'
noncomputable def tXa(K:PySem.W.Frag)(P:Hp→Prop)(τ:Sl)(st st':Store):TE:=fun σ H _=>∃ m,Rel K m st H∧SlotOk K m H τ σ∧∀ m' H',Sub m m'→Tr H H'→Rel K m' st' H'→P H'
section
variable {fns:List Fn}{ok:Nat→Bool}{dl:Nat}
theorem allOk'(fns:List Fn)(dl n:Nat):AllOk fns dl n:=allOk fns dl n n (Nat.le_refl n)
theorem GoodE.passes{c:Ctx}{C:Addr}{X:Cx}{P:Hp→Prop}(G:GoodE fns ok dl c C X P):Passes (CXr X.prog X.w C) X (fun _ _ H=>P H):=fun pins σ H s e s' I q=>by
 obtain⟨H',a,p⟩:=MS.Inv.air I q
 exact G.thr _ _ _ _ _ a p
theorem GoodE.gl{c:Ctx}{C:Addr}{X:Cx}{P:Hp→Prop}(G:GoodE fns ok dl c C X P){x:Str}(h:c.sc.names.lookup x=some .globalImplicit):Gl X x:=by
 show X.env.scope.names.lookup x=_
 have:=G.good.sc
 rw[show X.env.scope=c.sc from this]; exact h
theorem ckl_app{R:E→Expr→Prop}{e:E}{post:List E}:∀ {pre:List E}{ps:List Expr},CkL R (pre++e::post) ps→∃ p1 p p2,ps=p1++p::p2∧CkL R pre p1∧R e p∧CkL R post p2
 |[],_,.cons h t=>⟨[],_,_,rfl,.nil,h,t⟩
 |_::_,_,.cons h t=>by
  obtain⟨p1,p,p2,rfl,a,b,d⟩:=ckl_app t
  exact⟨_::p1,p,p2,rfl,.cons h a,b,d⟩
theorem xargs{c:Ctx}{C:Addr}{X:Cx}{P:Hp→Prop}(G:GoodE fns ok dl c C X P){n:Nat}{p:Expr}{post:List E}{p2:List Expr}{τ:Sl}{st1 st':Store}(he:PE X p (tXa X.K P τ st1 st'))(hp:Star p)(hpost:CkEs c post p2):
  ∀ {pre:List E}{p1:List Expr}{ds:List D}{st:Store},CkEs c pre p1→M.evs ((M.rn fns dl n).ev τ) pre st=some (ds,st1)→PA X (p1++p::p2) fun σ H _=>∃ m,Rel X.K m st H∧SlotOk X.K m H τ σ∧∀ m' H',Sub m m'→Tr H H'→Rel X.K m' st' H'→P H'
 |[],_,ds,st,.nil,h=>by
  cases h
  exact(pa_cons he (PA.nox (args_ok (allOk' fns dl n) G.good hpost)) (hp _ _)).imp fun σ H Q ⟨m,a,b,d⟩=>⟨m,a,b,d⟩
 |a::pre,_,ds,st,.cons ha t,h=>by
  have h:(((M.rn fns dl n).ev τ st a).bind fun p=>(M.evs ((M.rn fns dl n).ev τ) pre p.2).bind fun q=>some (p.1::q.1,q.2))=some (ds,st1):=h
  obtain⟨v,s1,e1,h⟩:=bindD h
  obtain⟨q,e2,h⟩:=bindO h
  cases h
  refine(pa_cons (((allOk' fns dl n).e c _ G.good a _ ha).nox) (xargs G he hp hpost t e2) (ha.star _ _)).imp fun σ H Q ⟨m,R0,S0,k⟩=>?_
  exact⟨m,st,τ,v,s1,R0,S0,e1,fun x m1 H1 b1 t1 R1 i1=>⟨m1,R1,S0.mono b1 t1,fun m2 H2 b2 t2 R2=>k m2 H2 (b1.trans b2) (t1.trans t2) R2⟩⟩
theorem xe_ok{τ:Sl}{st st':Store}{e:E}(x:M.XE fns dl (M.XC fns ok dl) τ st e st'):∀ {c:Ctx}{C:Addr}{X:Cx}{P:Hp→Prop},GoodE fns ok dl c C X P→∀ {p:Expr},CkE c e p→PE X p (tXa X.K P τ st st'):=by
 induction x with
 |@call τ st f es ds st1 st' n h xc=>
  intro c C X P G p ck
  cases ck.out with
  |@call _ x _ p ps p0 pos hg hf hd hs=>
   obtain⟨fa,fd,pars,hm,F,hk,hb⟩:=G.tab f x hf xc.ok
   have hp:Star p:=by cases hs with|cons h _=>exact h.star
   have ht:(backTo pos (starEach ps X.env)).any (·.1)=false:=by cases hs with|cons _ t=>exact noStars t pos X.env
   refine(pe_call F G.good.room (G.gl hg) hm hk hb .nil G.passes (PA.nox (args_ok (allOk' fns dl n) G.good hs)) hd (hp _ _) ht).imp fun σ H Q ⟨m,R0,S0,k⟩=>?_
   refine⟨m,st,τ,ds,st1,R0,S0,h,fun xs m1 H1 b1 t1 R1 ix=>?_⟩
   show spX X.K fns ok dl f (xs++[]) H1 Q _
   rw[List.append_nil]
   exact⟨m1,st1,ds,st',R1,ix,xc,fun m2 H2 b2 t2 R2=>k m2 H2 (b1.trans b2) (t1.trans t2) R2⟩
 |gc x ih=>
  intro c C X P G p ck
  cases ck.out with
  |gc hp hg ha=>exact ih G ha
 |tuple x ih=>
  intro c C X P G p ck
  cases ck.out with
  |@bcall _ _ p ps p0 pos hg hbo hs=>
   cases hs with
   |cons h t=>
    cases t
    exact(pe_callTy call_tupleD (G.gl hg) G.good.mo.tuple boot_tuple' (pa_cons (ih G h) pa_nil (h.star _ _)) (by decide) (by decide) (h.star _ _) rfl).imp fun σ H Q q=>q
 |idx x ih=>
  intro c C X P G p ck
  cases ck.out with
  |@idx _ b pa pb pos ha hb hs=>exact(pe_ix ix_D (ih G ha) ((allOk' fns dl 0).e c _ G.good _ pb hb).nox hs).imp fun σ H Q q=>q
 |@bin τ st op a b v st1 st' n h x ih=>
  intro c C X P G p ck
  cases ck.out with
  |@bin _ _ _ pa pb pos ha hb=>
   refine(pe_op (op_binD op) ((allOk' fns dl n).e c _ G.good a pa ha).nox (ih G hb)).imp fun σ H Q ⟨m,R0,S0,k⟩=>?_
   exact⟨m,st,τ,v,st1,R0,S0,h,fun x m1 H1 b1 t1 R1 i1=>⟨m1,R1,S0.mono b1 t1,fun m2 H2 b2 t2 R2=>k m2 H2 (b1.trans b2) (t1.trans t2) R2⟩⟩
 |@tup τ st pre e post ds st1 st' n h x ih=>
  intro c C X P G p ck
  cases ck.out with
  |@tup _ ps k pos hs=>
   obtain⟨p1,p,p2,rfl,h1,h2,h3⟩:=ckl_app hs
   exact(pe_tup (xargs G (ih G h2) h2.star h3 h1 h)).imp fun σ H Q q=>q
 |@comp τ st t it elt sr s st' τ1 dd n i τs sts h h0 hi hj ha ht x ih=>
  intro c C X P G p ck
  cases ck.out with
  |@comp _ _ _ _ tg iter pelt scope pos N hk hcell hfree hloc hlen hsrc hnd hs hI hT htl he=>
   have S0:=comp_scope G.good hk hcell hfree hloc hlen hsrc
   have S:CompScope X N sr scope:=⟨S0.kind,S0.cell,S0.free,S0.loc,S0.len,S0.src⟩
   have gd:∀ Cc fp s H,Good fns dl ⟨N,relab scope c.sc,c.fns,c.glo⟩ (cxComp X N scope Cc fp s H):=fun Cc fp s H=>G.good.inner hk hnd
   refine(pe_compX (X:=X) (g:=gT X.K t) (C0:=C) (P:=P) (tt:=fun _ H Q=>Q true H) (te:=fun σ H Q=>(tD X.K fun τ st=>(M.rn fns dl n).ev τ st elt) σ H Q∨tXa X.K P τ1 (sts i) st' σ H Q) G.good.calm S (iter_ok (allOk' fns dl n) G.good hI) (fun Cc fp s H=>target_ok (gd Cc fp s H) hT fun i hi' x hx=>.inr (tlOk_of htl i hi' x hx)) (fun Cc fp s H=>test_nil) (fun Cc fp s H=>?_) G.top G.thr (hs X.env)).imp fun σ H Q ⟨m,R0,S0,k⟩=>?_
   ·have GE:GoodE fns ok dl ⟨N,relab scope c.sc,c.fns,c.glo⟩ C ((cxComp X N scope Cc fp s H).wish fun e s'=>∃ pins σ H',Air C (cxComp X N scope Cc fp s H) pins σ H' e s'∧P H') P:=⟨gd Cc fp s H,G.tab,G.top,fun pins σ H' e s' a p=>⟨pins,σ,H',Air.wish a,p⟩⟩
    intro pins s1 σ H1 Q I q
    rcases q with q|q
    ·exact(((allOk' fns dl n).e _ _ GE.good elt pelt he).nox) pins s1 σ H1 Q I q
    ·exact ih GE he pins s1 σ H1 Q I q
   ·refine⟨m,st,τ,s,sts 0,R0,S0,h,fun m1 H1 J b1 t1 R1 hJ=>?_⟩
    refine⟨fun j kk acc σ' H'=>kk=i - j∧j≤i∧acc.length=j∧∃ m2,Sub m1 m2∧Tr H1 H'∧Rel X.K m2 (sts j) H'∧SlotOk X.K m2 H' (τs j) σ',⟨_,rfl,Nat.zero_le _,rfl,m1,Sub.refl _,Tr.refl _,R1,by rw[h0]; exact inner_ok sr (S0.mono b1 t1)⟩,?_⟩
    rintro j kk acc σ' H' ⟨rfl,hji,hacc,m2,b2,t2,R2,S2⟩
    have l2:=lim_eq
    rcases Nat.lt_or_ge j i with hlt|hge
    ·obtain⟨d',v,e1,e2⟩:=hj j hlt
     obtain⟨hgo,hy⟩:=(hJ.mono b2 t2).next R2 e1
     refine .inr ⟨hgo,by omega,fun x H2 hyl=>?_⟩
     obtain⟨sm,ix⟩:=hy x H2 hyl
     have t2:=t2.trans (Tr.of_same sm)
     have R2:=R2.same sm
     have S2:=S2.mono (Sub.refl _) (Tr.of_same sm)
     obtain⟨τ2,e3,e4⟩:=bindO e2
     obtain⟨pv,e5,e6⟩:=mapD e4
     have hτ:τ2=τs (j+1):=congrArg (fun z=>z.2.1) e6
     have hst:pv.2=sts (j+1):=congrArg (fun z=>z.2.2) e6
     refine gT_of ix S2 e3 fun σ3 S3=>?_
     show if true=true then _ else _
     rw[if_pos rfl]
     refine .inl ⟨m2,sts j,τ2,pv.1,pv.2,R2,S3,e5,fun y m3 H3 b3 t3 R3 i3=>⟨i - (j+1),by omega,rfl,hlt,by simp[hacc],m3,b2.trans b3,t2.trans t3,by rw[← hst]; exact R3,by rw[← hτ]; exact S3.mono b3 t3⟩⟩
    ·obtain rfl:j=i:=Nat.le_antisymm hji hge
     obtain⟨hgo,hy⟩:=(hJ.mono b2 t2).next R2 ha
     refine .inr ⟨hgo,by omega,fun x H2 hyl=>?_⟩
     obtain⟨sm,ix⟩:=hy x H2 hyl
     have t2:=t2.trans (Tr.of_same sm)
     have R2:=R2.same sm
     have S2:=S2.mono (Sub.refl _) (Tr.of_same sm)
     refine gT_of ix S2 ht fun σ3 S3=>?_
     show if true=true then _ else _
     rw[if_pos rfl]
     exact .inr ⟨m2,R2,S3,fun m3 H3 b3 t3 R3=>k m3 H3 (b1.trans (b2.trans b3)) (t1.trans (t2.trans t3)) R3⟩
end
end MS
end
section
namespace MS
open PySem PySem.Spec PyProof.Rows L2
open M (D Cell Store Sl E S T Src Fn Out R)
structure GoodS (fns:List Fn) (ok:Nat→Bool) (dl:Nat) (c:Ctx) (C:Addr) (X:Cx) (P:Hp→Prop):Prop where
 e:GoodE fns ok dl c C X P
 bad:Bad X.K X.mg C
 made:∀ e s',Thr C X P e s'→X.xe e s'
 fn:∀ x,X.fn x=true
noncomputable def tXs(K:PySem.W.Frag)(P:Hp→Prop)(τ:Sl)(st st':Store):TS:=fun _ σ H=>∃ m,Rel K m st H∧SlotOk K m H τ σ∧∀ m' H',Sub m m'→Tr H H'→Rel K m' st' H'→P H'
theorem cks_doc{c:Ctx}{s:S}{ss:List S}{X:Cx}{t:TS}(h:∀ p ps,CkS c s p→CkSs c ss ps→PSs X (p::ps) t):∀ {ps:List Stmt},CkSs c (s::ss) ps→PSs X ps t
 |_,.cons h1 h2=>h _ _ h1 h2
 |_,.doc q=>(pss_cons ps_doc (cks_doc h q)).imp fun Dn σ H q=>q
theorem ncomp_of{c:Ctx}{e:E}{elt:Expr}{gs:List Comprehension}{sc:Scope}{q:Pos}(h:CkE c e (.ListComp elt gs sc q)):M.ncomp e=false:=by
 cases h.out with
 |gc hp hg ha=>
  cases ha.out with
  |gc hp hg' ha=>exact absurd rfl (hg _)
  |_=>rfl
 |_=>rfl
section
variable {fns:List Fn}{ok:Nat→Bool}{dl:Nat}
theorem xs_ok{τ:Sl}{st st':Store}{ss:List S}(x:M.XS fns dl (M.XC fns ok dl) τ st ss st'):∀ {c:Ctx}{C:Addr}{X:Cx}{P:Hp→Prop},GoodS fns ok dl c C X P→∀ {ps:List Stmt},CkSs c ss ps→PSs X ps (tXs X.K P τ st st'):=by
 have rest:∀ {c:Ctx}{C:Addr}{X:Cx}{P:Hp→Prop},GoodS fns ok dl c C X P→∀ {ss:List S}{ps:List Stmt},CkSs c ss ps→∃ u,PSs X ps u:=fun {c C X P} G {ss ps} h=>⟨_,((allOk' fns dl 0).s _ _ G.e.good G.fn _ _ h).nox⟩
 induction x with
 |rais=>
  intro c C X P G ps ck
  refine cks_doc (fun p ps h1 h2=>?_) ck
  obtain⟨u,hu⟩:=rest G h2
  cases h1 with
  |rais hg=>exact(pss_cons (raise_ok G.bad G.e.good.calm G.made (G.e.gl hg)) hu).imp fun Dn σ H ⟨m,R0,S0,k⟩=>k m H (Sub.refl m) (Tr.refl H) R0
 |set hc x=>
  intro c C X P G ps ck
  refine cks_doc (fun p ps h1 h2=>?_) ck
  obtain⟨u,hu⟩:=rest G h2
  have hN:X.N.Nodup:=by rw[show X.N=c.N from G.e.good.N]; exact G.e.good.nd
  have hsc:X.env.scope=c.sc:=G.e.good.sc
  cases h1 with
  |@set _ _ y p pos pos' hi hl he hs=>exact(pss_cons (ps_set hN (show X.N[_]?=some y by rw[show X.N=c.N from G.e.good.N]; exact hi) (show X.env.scope.names.lookup y=_∨_=_ by rw[hsc]; exact hl) (xe_ok x G.e he) (hs X.env) (.inl (G.fn y))) hu).imp fun Dn σ H q=>q
  |setC hi hl he hc' hs=>
   obtain⟨_,_,_,_,rfl⟩:=hc'
   rw[ncomp_of he]at hc
   cases hc
 |ret x=>
  intro c C X P G ps ck
  refine cks_doc (fun p ps h1 h2=>?_) ck
  obtain⟨u,hu⟩:=rest G h2
  cases h1 with
  |ret he=>exact(pss_cons (ps_ret (xe_ok x G.e he)) hu).imp fun Dn σ H q=>q
 |@iteT τ st c' a b ss st1 st' n h x ih=>
  intro c C X P G ps ck
  refine cks_doc (fun p ps h1 h2=>?_) ck
  obtain⟨u,hu⟩:=rest G h2
  cases h1 with
  |ite hq ha hb=>
   obtain⟨v,hv⟩:=rest G hb
   refine(pss_cons (ps_if ((allOk' fns dl n).t c _ G.e.good _ _ hq).nox (ih G ha) hv) hu).imp fun Dn σ H ⟨m,R0,S0,k⟩=>?_
   refine⟨m,st,τ,true,st1,R0,S0,h,fun m1 H1 b1 t1 R1=>?_⟩
   refine iteT ?_
   exact⟨m1,R1,S0.mono b1 t1,fun m2 H2 b2 t2 R2=>k m2 H2 (b1.trans b2) (t1.trans t2) R2⟩
 |@iteF τ st c' a b ss st1 st' n h x ih=>
  intro c C X P G ps ck
  refine cks_doc (fun p ps h1 h2=>?_) ck
  obtain⟨u,hu⟩:=rest G h2
  cases h1 with
  |ite hq ha hb=>
   obtain⟨v,hv⟩:=rest G ha
   refine(pss_cons (ps_if ((allOk' fns dl n).t c _ G.e.good _ _ hq).nox hv (ih G hb)) hu).imp fun Dn σ H ⟨m,R0,S0,k⟩=>?_
   refine⟨m,st,τ,false,st1,R0,S0,h,fun m1 H1 b1 t1 R1=>?_⟩
   refine iteF ?_
   exact⟨m1,R1,S0.mono b1 t1,fun m2 H2 b2 t2 R2=>k m2 H2 (b1.trans b2) (t1.trans t2) R2⟩
 |@next τ st s ss τ1 st1 st' n h x ih=>
  intro c C X P G ps ck
  refine cks_doc (fun p ps h1 h2=>?_) ck
  refine(pss_cons (PS.nox (s1_ok (n:=n) (fun j hj=>allOk fns dl n j hj) G.e.good G.fn h1)) (ih G h2)).imp fun Dn σ H ⟨m,R0,S0,k⟩=>?_
  exact⟨m,st,τ,_,st1,R0,S0,h,fun m1 H1 b1 t1 R1 σ1 S1=>⟨m1,R1,S1,fun m2 H2 b2 t2 R2=>k m2 H2 (b1.trans b2) (t1.trans t2) R2⟩⟩
end
theorem start_ok{K:PySem.W.Frag}{m:List Addr}{H:Hp}{ds:List D}{vs:List V}{N:List Str}{nl:Nat}(ix:IsDs K m H ds vs)(hnl:nl=N.length):SlotOk K m H (ds.map some++List.replicate (nl - ds.length) none) (start N vs):=by
 refine⟨?_,fun i d0 hi=>?_⟩
 ·unfold L2.start
  rw[List.length_append,List.length_append,List.length_map,List.length_map,List.length_replicate,List.length_replicate,hnl,ix.length]
 ·unfold L2.start
  by_cases hlt:i<ds.length
  ·rw[List.getElem?_append_left (by simpa using hlt),List.getElem?_map]at hi
   have e3:ds[i]?=some d0:=by
    cases z:ds[i]? with
    |none=>rw[z]at hi; cases hi
    |some y=>rw[z]at hi; cases hi; rfl
   obtain⟨v,e4,iv⟩:=ix.get e3
   refine⟨v,?_,iv⟩
   rw[List.getElem?_append_left (by rw[List.length_map,← ix.length]; exact hlt),List.getElem?_map,e4]
   rfl
  ·rw[List.getElem?_append_right (by simpa using hlt),List.getElem?_replicate]at hi
   split at hi<;>cases hi
theorem funX_ok{P:Program}{w:World}{K:PySem.W.Frag}{mg:Str→Option Value}{base:Heap}{fns:List Fn}{ok:Nat→Bool}{names:List Str}{glo:Glo}{C:Addr}{n f:Nat}{x:Str}{fa:Addr}{fd:FuncData}{st:Stmt}{N ps:List Str}{F:Fn}(ft:FTab P w K mg base fns names n)(xt:XTab P w K mg base C fns ok names n)(Mg:Mo K mg glo w.params)(B:Bad K mg C)
  (hF:fns[f]?=some F) (hfun:Fun K x x st fa fd) (hsc:FnScope N ps (defScope st)) (hck:CkSs ⟨N,defScope st,names,glo⟩ F.body (defBody st)) (hnp:F.np=ps.length) (hnl:F.nl=N.length):FnOk P w K mg base (CXr P w C) (n+1) fa fd ps (spX K fns ok (n+1) f):=by
 obtain⟨oc,od,kV,doc,pm,an,cdv,ct,osl,rfl,lk,hcd⟩:=hfun.ex
 refine fn_of lk hcd hsc (fun vs H Q E h=>?_) fun A outer s H vs Q E hr h=>?_
 ·obtain⟨m,st0,ds,st',_,ix,⟨_,F',hF',hl,_⟩,_⟩:=h
  rw[hF]at hF'
  cases hF'
  rw[← ix.length,hl,hnp]
 ·obtain⟨m,st0,ds,st',R0,ix,⟨_,F',hF',hl,xs⟩,k⟩:=h
  rw[hF]at hF'
  cases hF'
  have G:GoodS fns ok n ⟨N,defScope st,names,glo⟩ C (cxOf (CXr P w C) P w K mg base N x (defScope st) fa cdv A outer s H E) (fun H'=>E .none none H'):=
   ⟨⟨⟨hr,rfl,rfl,rfl,hsc.nd,hsc.kind,ft,Mg,rfl⟩,xt,⟨_,_,_,rfl,rfl,rfl⟩,fun pins σ H e s' a p=>leave_ok (.air a p)⟩,B,fun e s' q=>leave_ok q,fun _=>rfl⟩
  exact⟨_,xs_ok xs G hck,m,R0,start_ok ix hnl,k⟩
end MS
end
section
namespace MS
open PySem PySem.Spec PyProof.Rows L2
open M (D Cell Store Sl E S T Src Fn Out R)
noncomputable abbrev Cx.marked(X:Cx)(h:Option Value):Cx:={ X with A:=X.A.mark h,calm:=false }
section
variable {X:Cx}{pins:List (Addr×Obj)}{σ:L2.St}{H:Hp}{s:Shared}{h:Option Value}
theorem Inv.mark(I:Inv X pins σ H s)(h:Option Value):Inv (Cx.marked X h) pins σ H s:=
 ⟨⟨I.ok.mod,I.ok.kind,I.ok.glob,I.ok.blt,I.ok.above,I.ok.inj,I.ok.has,I.ok.cab,(fun z=>nomatch (show false=true from z)),I.ok.frames,I.ok.stk,I.ok.exf,I.ok.bs,I.ok.bsz,I.ok.noex,I.ok.exfs,I.ok.funs,I.ok.frf⟩,I.os,I.bare,I.base,I.loc,I.cell,I.free,I.freeC,I.pin,I.hok,I.len⟩
theorem Inv.unmark(I0:X.Ok)(I:Inv (Cx.marked X h) pins σ H s):Inv X pins σ H s:=⟨I0,I.os,I.bare,I.base,I.loc,I.cell,I.free,I.freeC,I.pin,I.hok,I.len⟩
end
theorem try_norm{X:Cx}{body:List Stmt}{h0:ExceptHandler}{hs:List ExceptHandler}{pos:Pos}{t:TS}(hb:PSs X.nox body t):PS X (.Try body (h0::hs) [] [] pos) t:=by
 intro pins s σ H D I q
 refine wpAny_Try_except (wpAny_mono (hb pins s σ H D (I.wish _) q) (fun f s1 hf=>?_) fun _ _ z=>False.elim z)
 have hf:=hf.unwish
 cases f with
 |next=>exact wpAny_execs_nil hf
 |brk=>exact hf
 |cont=>exact hf
 |ret u=>exact hf
theorem try_raise{fns:List Fn}{ok:Nat→Bool}{dl:Nat}{c:Ctx}{C:Addr}{X:Cx}{f:Nat}{rp x y:Str}{i j:Nat}{hs:List ExceptHandler}{p1 p2 p3 p4 p5 p6 p7 p8 p9 p10 pos:Pos}{k1:Nat}(G:Good fns dl c X.nox)(xt:XTab X.prog X.w X.K X.mg X.base C fns ok c.fns dl)(B:Bad X.K X.mg C)(top:X.stack=X.env::X.outer∧X.env.frame=some X.env.locals)
  (hy:X.N[i]?=some y) (ly:Loc X.env.scope y) (fy:X.fn y=true) (hx:X.N[j]?=some x) (vx:Vis X.env.scope x) (dx:(x==("__debug__" : Str))=false) (dx':(x==("__classdict__" : Str))=false) (gr:Gl X rp) (fr:c.fns[f]?=some rp) (dr:(rp==("__debug__" : Str))=false) (gb:Gl X "BadText") :
  PS X (.Try [.Assign [.Name y p1] (.Call (.Name rp p2) [.Name x p3] [] p4) p5] (.ExceptHandler (some (.Name "BadText" p6)) none [.Assign [.Name y p7] (.Constant .none k1 p8) p9] p10::hs) [] [] pos)
   (fun Dn σ H=>∃ m st st' z v,Rel X.K m st H∧IsD X.K m H z v∧σ[j]?=some (some v)∧M.XC fns ok dl f [z] st st'∧∀ m' H',Sub m m'→Tr H H'→Rel X.K m' st' H'→Dn.nx (σ.set i (some .non)) H'):=by
 intro pins s σ H D I ⟨m,st,st',z,v,R0,iz,ev,xc,k⟩
 obtain⟨fa,fd,ps,hm,F,hk,hb⟩:=xt f rp fr xc.ok
 have hN:X.N.Nodup:=by rw[show X.N=c.N from G.N]; exact G.nd
 refine wpAny_Try_except (wpAny_execs_cons (wpAny_Assign_Name (wpAny_mono (Q:=fun _ _=>False) (E:=fun e s'=>∃ H',Air C X pins σ H' e s'∧D.nx (σ.set i (some .non)) H') ?_ (fun _ _ z=>False.elim z) ?_) rfl))
 ·refine wpAny_Call_Name_kw (ld_glob I gr hm ?_ dr)
  refine PySem.W.callWith_K (h₀:=X.base) I.ok.mod.kin hk (wpAny_mono ((pa_cons (X:=X.nox) (pe_var hx vx dx dx') pa_nil rfl) p4 pins s σ H (fun vs H1=>vs=[v]∧H1=H) (I.wish _) ⟨v,ev,rfl,rfl⟩) (fun us s1 ⟨vs,H1,I1,r,q1,q2⟩=>⟨I1.unwish.kIn,?_⟩) fun _ _ z=>False.elim z) rfl rfl
  subst q1 q2
  have I1:=I1.unwish
  have sp:spX X.K fns ok dl f [v] H1 (fun _ _=>False) (fun _ _ H'=>D.nx (σ.set i (some .non)) H'):=⟨m,st,[z],st',R0,mkCons iz mkNil,xc,k⟩
  have hl:us.length=ps.length:=by rw[← r.length]; exact F.len _ _ _ _ sp
  have hb':=hb s1 us I1.kIn (by rw[List.append_nil]; exact hl)
  rw[List.append_nil]at hb'
  refine wpAny_call (codeAny_mono (F.run X.A X.stack s1 H1 ⟨us,[]⟩ us [v] _ _ G.room I1.env0 hb' r sp) fun r s' hq=>?_)
  cases r with
  |error e=>
   have hq:CXr X.prog X.w C X.stack H1 s1 (fun _ _ H'=>D.nx (σ.set i (some .non)) H') e s':=hq
   exact MS.Inv.air I1 hq
  |ok fl=>
   cases fl with
   |ret u=>obtain⟨_,_,_,_,_,_,_,w⟩:=hq; exact w
   |next=>exact hq
   |brk=>exact hq
   |cont=>exact hq
 ·rintro e s' ⟨H',a,p⟩
  obtain⟨g,n,ea,t,Bh,rfl,I',h1,h2,h3,h4,fl⟩:=a
  have hfr:X.A.frames=some (X.env::X.outer):=by rw[← top.1]; exact I.ok.frames
  have toL:∀ {h':Heap},Fl C (X.env::X.outer) n H' ea t g Bh h'→Inv X pins σ H' { s' with heap:=h' }:=fun {h'} q=>Air.land (C:=C) (e:=.ref ea) ⟨g,n,ea,t,Bh,rfl,I',h1,h2,h3,h4,by rw[top.1]; exact q⟩
  rw[top.1]at fl
  refine note_any hfr top.2 fl fun hh f1=>flight_any f1 fun hh2 f2=>?_
  have I2:=toL f2
  have O:=B.own X.base I2.ok.mod.kin
  refine wpAny_handleBy_cons (codeAny_handlers_test (ld_glob (X:=Cx.marked X (some (.ref ea))) (Inv.mark I2 _) gb O.bound ?_ (by decide))) (fun q=>nomatch q)
  obtain⟨tl,Nn,nm,q,bs,hdct,sn,sub,ab,col,dd,k0,k1,k2,k3,k5,mN,hC,hN',hni,T⟩:=(O.keeps I2.bk).obj
  obtain⟨fl',oe,vs,Tt,oT,ts,e1,⟨e2,e3⟩,e4⟩:=id f2.tr
  refine wpAny_excMatches_sub_self hC e1 e2 (T.hasType (by decide)) (codeAny_handlers_suite (flight_any f2 fun hh3 f3=>?_))
  have I3:=toL f3
  refine wpAny_mono (((pss_cons (ps_set (X:=(Cx.marked X (some (.ref ea))).nox) hN hy ly pe_non rfl (.inl fy)) pss_nil) pins _ σ H' D ((Inv.mark I3 _).wish _) p)) (fun f s4 hf=>?_) fun _ _ z=>False.elim z
  have hf:=hf.unwish
  cases f with
  |next=>obtain⟨σ',H2,I4,q⟩:=hf; exact⟨σ',H2,Inv.unmark I3.ok I4,q⟩
  |brk=>obtain⟨σ',H2,I4,q⟩:=hf; exact⟨σ',H2,Inv.unmark I3.ok I4,q⟩
  |cont=>obtain⟨σ',H2,I4,q⟩:=hf; exact⟨σ',H2,Inv.unmark I3.ok I4,q⟩
  |ret u=>obtain⟨v',σ',H2,I4,r,q⟩:=hf; exact⟨v',σ',H2,Inv.unmark I3.ok I4,r,q⟩
def Told(st:Stmt)(x y rp:Str):Prop:=∃ (p1 p2 p3 p4 p5 p6 p7 p8 p9 p10 p11 p12 p13 p14 p15 p16:Pos) (k0 k1:Nat) (hs:List ExceptHandler),
 defBody st=[.Assign [.Name y p11] (.Constant .none k0 p12) p13,.Try [.Assign [.Name y p1] (.Call (.Name rp p2) [.Name x p3] [] p4) p5] (.ExceptHandler (some (.Name "BadText" p6)) none [.Assign [.Name y p7] (.Constant .none k1 p8) p9] p10::hs) [] [] p14,.Return (some (.Name y p15)) p16]
theorem told_ok{P:Program}{w:World}{K:PySem.W.Frag}{mg:Str→Option Value}{base:Heap}{fns:List Fn}{ok:Nat→Bool}{names:List Str}{glo:Glo}{C:Addr}{n f g:Nat}{nm x y rp:Str}{fa:Addr}{fd:FuncData}{st:Stmt}(ft:FTab P w K mg base fns names n)(xt:XTab P w K mg base C fns ok names n)(Mg:Mo K mg glo w.params)(B:Bad K mg C)
  (hfun:Fun K nm nm st fa fd) (hsc:FnScope [x,y] [x] (defScope st)) (hT:Told st x y rp) (lx:(defScope st).names.lookup x=some .local) (ly:(defScope st).names.lookup y=some .local) (gr:(defScope st).names.lookup rp=some .globalImplicit) (gb:(defScope st).names.lookup ("BadText" : Str)=some .globalImplicit) (hrp:names[g]?=some rp)
  (dx:(x==("__debug__" : Str))=false) (dx':(x==("__classdict__" : Str))=false) (dy:(y==("__debug__" : Str))=false) (dy':(y==("__classdict__" : Str))=false) (dr:(rp==("__debug__" : Str))=false)
  (EQ:∀ ds st0 d st',M.callD fns (n+1) f ds st0=some (d,st')→∃ z,ds=[z]∧((∃ k,(M.rn fns n k).ev [some z,some .non] st0 (.gc (.call g [.var 0]))=some (d,st'))∨(d=.non∧M.XC fns ok n g [z] st0 st'))) :
  FnOk P w K mg base CX0 (n+1) fa fd [x] (spN K fns (n+1) f):=by
 obtain⟨p1,p2,p3,p4,p5,p6,p7,p8,p9,p10,p11,p12,p13,p14,p15,p16,k0,k1,hs,hbd⟩:=hT
 refine hfun.ok hsc (fun vs H Q E h=>?_) (fun cdv A outer s H vs Q E hr h=>?_)
 ·obtain⟨m,st0,ds,d,st',_,ix,e,_⟩:=h
  obtain⟨z,rfl,_⟩:=EQ _ _ _ _ e
  rw[← ix.length]
  rfl
 ·obtain⟨m,st0,ds,d,st',R0,ix,e,q⟩:=h
  obtain⟨z,rfl,hz⟩:=EQ _ _ _ _ e
  obtain⟨v,rfl,iz⟩:=ix.one
  have G:Good fns n ⟨[x,y],defScope st,names,glo⟩ (cxOf CX0 P w K mg base [x,y] nm (defScope st) fa cdv A outer s H E).nox:=⟨hr,rfl,rfl,rfl,hsc.nd,hsc.kind,ft,Mg,rfl⟩
  have s1:=ps_set (X:=(cxOf CX0 P w K mg base [x,y] nm (defScope st) fa cdv A outer s H E).nox) (i:=1) (pos:=p13) (pos':=p11) hsc.nd rfl (.inl ly) (pe_non (j:=k0) (pos:=p12)) rfl (.inl rfl)
  have s3:=ps_ret (X:=(cxOf CX0 P w K mg base [x,y] nm (defScope st) fa cdv A outer s H E).nox) (pos:=p16) (pe_var (i:=1) (pos:=p15) rfl (.inl ly) dy dy')
  have S1:SlotOk K m H [some z,some .non] [some v,some .non]:=⟨rfl,fun i d0 hi=>by
   match i,hi with
   |0,hi=>cases hi; exact⟨v,rfl,iz⟩
   |1,hi=>cases hi; exact⟨.non,rfl,mkNon⟩⟩
  rw[hbd]
  rcases hz with⟨k,e1⟩|⟨rfl,xc⟩
  ·have ck:CkSs ⟨[x,y],defScope st,names,glo⟩ [.set (.var 1) (.gc (.call g [.var 0]))] [.Assign [.Name y p1] (.Call (.Name rp p2) [.Name x p3] [] p4) p5]:=.cons (.set rfl (.inl ly) (.gc (.call (.cons (.mk (.var rfl (.inl lx) dx dx')) .nil) gr hrp dr)) fun _=>rfl) .nil
   refine⟨_,pss_cons s1 (pss_cons (try_norm ((allOk' fns n (k+1)).s _ _ G (fun _=>rfl) _ _ ck)) (pss_one s3)),?_⟩
   refine⟨m,st0,[some z,some .non],.nx [some z,some d],st',R0,S1,?_,fun m1 H1 b1 t1 R1 σ1 Q1=>?_⟩
   ·show M.exs (M.stepEx (M.rn fns n k)) _ _ _=_
    simp only[M.exs,M.stepEx,e1,M.setT,oBs,oMs,List.length_cons,List.length_nil,List.set_cons_succ,List.set_cons_zero]
    rfl
   ·obtain⟨u,e2,iu⟩:=Q1.at_ 1 d rfl
    exact⟨u,e2,q u m1 H1 b1 t1 R1 iu⟩
  ·refine⟨_,pss_cons s1 (pss_cons (try_raise (i:=1) (j:=0) (c:=⟨[x,y],defScope st,names,glo⟩) (f:=g) G xt B ⟨rfl,rfl⟩ rfl (.inl ly) rfl rfl (.inl lx) dx dx' gr hrp dr gb) (pss_one s3)),?_⟩
   exact⟨m,st0,st',z,v,R0,iz,rfl,xc,fun m1 H1 b1 t1 R1=>⟨.non,rfl,q _ m1 H1 b1 t1 R1 mkNon⟩⟩
theorem btab_ok{P:Program}{w:World}{K:PySem.W.Frag}{mg:Str→Option Value}{base:Heap}{fns:List Fn}{ok:Nat→Bool}{names:List Str}{glo:Glo}{C:Addr}{f0:Nat}(T:∀ f x,names[f]?=some x→f≠f0→FText K mg fns names glo f x)(hok:ok f0=false)(Mg:Mo K mg glo w.params)(B:Bad K mg C)
  (T0:∀ x,names[f0]?=some x→∃ fa fd ps,mg x=some (.ref fa)∧PySem.W.keepIn K (.ref fa)=true∧Binds K fd ps []∧∀ n,FTab P w K mg base fns names n→XTab P w K mg base C fns ok names n→FnOk P w K mg base CX0 (n+1) fa fd ps (spN K fns (n+1) f0)) :
  ∀ n,FTab P w K mg base fns names n∧XTab P w K mg base C fns ok names n:=by
 intro n
 induction n with
 |zero=>
  refine⟨fun f x hx=>?_,fun f x hx ho=>?_⟩
  ·by_cases h0:f=f0
   ·subst h0
    obtain⟨fa,fd,ps,hm,kp,hb,_⟩:=T0 x hx
    refine⟨fa,fd,ps,hm,⟨fun vs H Q E h=>?_,fun A outer s H args us vs Q E hr he hbb hv h=>?_⟩,kp,hb⟩
    ·obtain⟨m,st,ds,d,st',_,_,e,_⟩:=h; cases e
    ·obtain⟨m,st,ds,d,st',_,_,e,_⟩:=h; cases e
   ·obtain⟨fa,fd,st,N,ps,F,hF,hfun,hm,hb,hsc,hck,hnp,hnl⟩:=(T f x hx h0).ex
    refine⟨fa,fd,ps,hm,⟨fun vs H Q E h=>?_,fun A outer s H args us vs Q E hr he hbb hv h=>?_⟩,hfun.kp,hb⟩
    ·obtain⟨m,st,ds,d,st',_,_,e,_⟩:=h; cases e
    ·obtain⟨m,st,ds,d,st',_,_,e,_⟩:=h; cases e
  ·have h0:f≠f0:=fun z=>by rw[z,hok]at ho; cases ho
   obtain⟨fa,fd,st,N,ps,F,hF,hfun,hm,hb,hsc,hck,hnp,hnl⟩:=(T f x hx h0).ex
   refine⟨fa,fd,ps,hm,⟨fun vs H Q E h=>?_,fun A outer s H args us vs Q E hr he hbb hv h=>?_⟩,hfun.kp,hb⟩
   ·obtain⟨m,st,ds,st',_,_,e,_⟩:=h; exact e.elim
   ·obtain⟨m,st,ds,st',_,_,e,_⟩:=h; exact e.elim
 |succ n ih=>
  refine⟨fun f x hx=>?_,fun f x hx ho=>?_⟩
  ·by_cases h0:f=f0
   ·subst h0
    obtain⟨fa,fd,ps,hm,kp,hb,F⟩:=T0 x hx
    exact⟨fa,fd,ps,hm,F n ih.1 ih.2,kp,hb⟩
   ·obtain⟨fa,fd,st,N,ps,F,hF,hfun,hm,hb,hsc,hck,hnp,hnl⟩:=(T f x hx h0).ex
    exact⟨fa,fd,ps,hm,fun_ok ih.1 Mg hF hfun hsc hck hnp hnl,hfun.kp,hb⟩
  ·have h0:f≠f0:=fun z=>by rw[z,hok]at ho; cases ho
   obtain⟨fa,fd,st,N,ps,F,hF,hfun,hm,hb,hsc,hck,hnp,hnl⟩:=(T f x hx h0).ex
   exact⟨fa,fd,ps,hm,funX_ok ih.1 ih.2 Mg B hF hfun hsc hck hnp hnl,hfun.kp,hb⟩
theorem bad_mk{K:PySem.W.Frag}{mg:Str→Option Value}{C:Addr}(hm:mg "BadText" = some (.ref C))(q:PySem.W.excIn K C bmV "ValueError.__new__" = true):Bad K mg C:=by
 refine⟨fun h X=>⟨hm,?_⟩⟩
 unfold PySem.W.excIn at q; split at q
 case h_2=>cases q
 case h_1 dd0 cl sl0 look=>
  split at q
  case h_2=>cases q
  case h_1 C1 bm1 j0 j1 j2 j3 nid j5 em es0=>
   simp only[Bool.and_eq_true,beq_iff_eq,Bool.not_eq_true']at q; obtain⟨⟨⟨⟨⟨q1,q2⟩,q3⟩,q4⟩,q5⟩,q6⟩:=q
   obtain⟨n1,n2,n3,n4,n5,n6,n7,n8,n9,n10,n11⟩:=cl; dsimp only at em q3 q5 q6
   have es1:sl0=#[j0,j1,j2,j3,some (.builtin nid),j5]:=by cases sl0; dsimp only at es0; rw[es0]
   subst q1 q2 em q3 es1
   exact⟨bm1,n4,n1,n5,n2,n6,n7,n8,n9,n10,dd0,j0,j1,j2,j3,j5,_,X _ _ look,.of_isNs (PySem.W.isNs_of_in X q5),PySem.W.nsMap_none_of_in X q5 q6,PySem.W.tail_of_in X q4⟩
theorem FnK.fn{K:PySem.W.Frag}{h:Heap}{mg:Str→Option Value}{x:Str}{st:Stmt}{fa:Addr}{fd:FuncData}{ps:List Str}(q:FnK K x st fa fd)(X:K.In h)(G:h.Ns mainGlobals mg)
  (b:∀ (kV doc pm:Value) (an:Option Addr) (cdv ct:Value) (us:List Value),us.length=ps.length→bindArgs (PySem.W.fnOf x x (defArgs st) (defBody st) (defScope st) .none kV doc pm an cdv ct) ⟨us,[]⟩=pure (ps.zip us)):mg x=some (.ref fa)∧PySem.W.keepIn K (.ref fa)=true∧Binds K fd ps []∧Fun K x x st fa fd:=by
 cases q with
 |mk a l c k=>exact⟨PySem.W.mg_of X G a,k,(fun_mk l c k).binds b,fun_mk l c k⟩
end MS
end
namespace K34
open PySem PySem.Spec PyProof.Rows L2 MS
open M (D Cell Store Sl E S T Src Fn Out R)
def top(i:Nat):Stmt:=PySem.Challenge.pw_dipright_k34_papers_read_or_refused.main.body.getD i (.Pass ⟨0,0,0,0⟩)
noncomputable def names:List Str:=["all_figures","number","read_numbers","parted_at","read_other","read_others","read_way","read_held","read_paper","_law_draw","_law_same","_law_number","_law_numbers","_law_great","_law_bent","_law_flat_paper","_law_loose_paper","_law_part_of","_law_read_others","_law_read_paper","_law_told","_law_words_bent","_law_small","law"]
noncomputable def glo:Glo:=⟨[("FIGURES",(.str "0123456789")),("THINGS",(.int 3)),("WORDS",(.tup [(.str "given"),(.str "fallen"),(.str "unvested"),(.str "ground"),(.str "younger")]))],[]⟩
abbrev s_all_figures:Stmt:=top 5
theorem sc_all_figures:FnScope ["text"] ["text"] (defScope s_all_figures):=⟨rfl,rfl,rfl,by decide +kernel,rfl,by decide +kernel,by decide +kernel⟩
theorem ck_all_figures:CkSs ⟨["text"],defScope s_all_figures,names,glo⟩ b_all_figures (defBody s_all_figures):=
  (.cons (.ret (.and2 (.cmp .v .str) (.bcall (.cons (.gc (.comp (N:=["sign"]) (.seq .v) (.var rfl (.inl rfl)) (.cmp .v (.glo rfl (.head _) rfl)))) .nil))))
  .nil)
abbrev s_number:Stmt:=top 6
theorem sc_number:FnScope ["text"] ["text"] (defScope s_number):=⟨rfl,rfl,rfl,by decide +kernel,rfl,by decide +kernel,by decide +kernel⟩
theorem ck_number:CkSs ⟨["text"],defScope s_number,names,glo⟩ b_number (defBody s_number):=
  (.cons (.ite (.not (.gc (.call (.cons .v .nil)))) (.cons (.ret .non)
  .nil) .nil)
  (.cons (.ite (.and2 (.cmp (.idx .v .int) .str) (.cmp .v .str)) (.cons (.ret .non)
  .nil) .nil)
  (.cons (.ret (.bcall (.cons .v .nil)))
  .nil)))
abbrev s_read_numbers:Stmt:=top 7
theorem sc_read_numbers:FnScope ["texts","numbers"] ["texts"] (defScope s_read_numbers):=⟨rfl,rfl,rfl,by decide +kernel,rfl,by decide +kernel,by decide +kernel⟩
theorem ck_read_numbers:CkSs ⟨["texts","numbers"],defScope s_read_numbers,names,glo⟩ b_read_numbers (defBody s_read_numbers):=
  (.cons (.setC rfl (.inl rfl) (.gc (.comp (N:=["text"]) (.seq .v) (.var rfl (.inl rfl)) (.gc (.call (.cons .v .nil))))) ⟨_,_,_,_,rfl⟩ (fun env _=>swaps_or _ _ _ _ _ _ _ env))
  (.cons (.ite (.cmp .non .v) (.cons (.rais rfl)
  .nil) .nil)
  (.cons (.ret .v)
  .nil)))
abbrev s_parted_at:Stmt:=top 11
theorem sc_parted_at:FnScope ["texts","word","place"] ["texts","word"] (defScope s_parted_at):=⟨rfl,rfl,rfl,by decide +kernel,rfl,by decide +kernel,by decide +kernel⟩
theorem ck_parted_at:CkSs ⟨["texts","word","place"],defScope s_parted_at,names,glo⟩ b_parted_at (defBody s_parted_at):=
  (.cons (.ite (.cmp .v .v) (.cons (.rais rfl)
  .nil) .nil)
  (.cons (.st (.index .v .v (fun _=>rfl) rfl))
  (.cons (.ret (.tup (.cons (.gc (.sli .v .none (.some .v))) (.cons (.gc (.sli .v (.some (.bin .v .int)) .none)) .nil))))
  .nil)))
abbrev s_read_other:Stmt:=top 12
theorem sc_read_other:FnScope ["texts","numbers"] ["texts"] (defScope s_read_other):=⟨rfl,rfl,rfl,by decide +kernel,rfl,by decide +kernel,by decide +kernel⟩
theorem ck_read_other:CkSs ⟨["texts","numbers"],defScope s_read_other,names,glo⟩ b_read_other (defBody s_read_other):=
  (.cons (.ite (.cmp (.idx .v .int) (.glo rfl (.tail _ (.tail _ (.head _))) rfl)) (.cons (.rais rfl)
  .nil) .nil)
  (.cons (.st (.gc (.call (.cons (.gc (.lst (.cons (.idx .v .int) (.cons (.idx .v .int) .nil)))) .nil))))
  (.cons (.ret (.tup (.cons (.idx .v .int) (.cons (.idx .v .int) (.cons (.idx .v .int) .nil)))))
  .nil)))
abbrev s_read_others:Stmt:=top 13
theorem sc_read_others:FnScope ["texts"] ["texts"] (defScope s_read_others):=⟨rfl,rfl,rfl,by decide +kernel,rfl,by decide +kernel,by decide +kernel⟩
theorem ck_read_others:CkSs ⟨["texts"],defScope s_read_others,names,glo⟩ b_read_others (defBody s_read_others):=
  (.cons (.ite (.cmp (.bin (.bcall (.cons (.var rfl (.inr (.inl rfl)) rfl rfl) .nil)) (.glo rfl (.tail _ (.head _)) rfl)) .int) (.cons (.rais rfl)
  .nil) .nil)
  (.cons (.ret (.bcall (.cons (.gc (.comp (N:=["place","texts"]) (.rng3 rfl .int (.bcall (.cons (.var rfl (.inr (.inl rfl)) rfl rfl) .nil)) (.glo rfl (.tail _ (.head _)) rfl)) (.var rfl (.inl rfl)) (.gc (.call (.cons (.gc (.sli (.var rfl (.inr (.inl rfl)) rfl rfl) (.some .v) (.some (.bin .v (.glo rfl (.tail _ (.head _)) rfl))))) .nil))))) .nil)))
  .nil))
abbrev s_read_way:Stmt:=top 14
theorem sc_read_way:FnScope ["texts"] ["texts"] (defScope s_read_way):=⟨rfl,rfl,rfl,by decide +kernel,rfl,by decide +kernel,by decide +kernel⟩
theorem ck_read_way:CkSs ⟨["texts"],defScope s_read_way,names,glo⟩ b_read_way (defBody s_read_way):=
  (.cons (.ite (.cmp .v (.gc (.lst (.cons .str .nil)))) (.cons (.ret (.tup (.cons .str .nil)))
  .nil) .nil)
  (.cons (.ite (.or2 (.cmp (.gc (.sli .v .none (.some .int))) (.gc (.lst (.cons .str .nil)))) (.cmp (.bcall (.cons .v .nil)) .int)) (.cons (.rais rfl)
  .nil) .nil)
  (.cons (.ret (.bin (.tup (.cons .str .nil)) (.bcall (.cons (.gc (.call (.cons (.gc (.sli .v (.some .int) .none)) .nil))) .nil))))
  .nil)))
abbrev s_read_held:Stmt:=top 15
theorem sc_read_held:FnScope ["texts","others","parts","head","claim"] ["texts","others"] (defScope s_read_held):=⟨rfl,rfl,rfl,by decide +kernel,rfl,by decide +kernel,by decide +kernel⟩
theorem ck_read_held:CkSs ⟨["texts","others","parts","head","claim"],defScope s_read_held,names,glo⟩ b_read_held (defBody s_read_held):=
  (.cons (.st (.gc (.call (.cons .v (.cons .str .nil)))))
  (.cons (.st (.idx .v .int))
  (.cons (.ite (.or2 (.cmp (.gc (.sli .v .none (.some .int))) (.gc (.lst (.cons .str .nil)))) (.cmp (.bcall (.cons .v .nil)) .int)) (.cons (.rais rfl)
  .nil) .nil)
  (.cons (.st (.idx (.gc (.call (.cons (.gc (.sli .v (.some .int) (.some .int))) .nil))) .int))
  (.cons (.ret (.tup (.cons .str (.cons .v (.cons (.gc (.call (.cons (.gc (.sli .v (.some .int) .none)) .nil))) (.cons (.bcall (.cons (.gc (.call (.cons (.idx .v .int) .nil))) .nil)) (.cons .v .nil)))))))
  .nil)))))
abbrev s_read_paper:Stmt:=top 16
theorem sc_read_paper:FnScope ["text","parts","others"] ["text"] (defScope s_read_paper):=⟨rfl,rfl,rfl,by decide +kernel,rfl,by decide +kernel,by decide +kernel⟩
theorem ck_read_paper:CkSs ⟨["text","parts","others"],defScope s_read_paper,names,glo⟩ b_read_paper (defBody s_read_paper):=
  (.cons (.st (.gc (.call (.cons (.gc (.split .v .str (fun _=>rfl) rfl)) (.cons .str .nil)))))
  (.cons (.st (.gc (.call (.cons (.idx .v .int) .nil))))
  (.cons (.ite (.cmp (.idx .v .int) (.gc (.lst (.cons .str .nil)))) (.cons (.ret (.tup (.cons .str (.cons .v .nil))))
  .nil) .nil)
  (.cons (.ret (.call (.cons (.idx .v .int) (.cons .v .nil))))
  .nil))))
abbrev s_law_draw:Stmt:=top 18
theorem sc_law_draw:FnScope ["_law_script","_law_k","_law_j","_law_many","_law_cell","_law_turn","_law_rest","_law_step","_law_one","_law_two"] ["_law_script","_law_k","_law_j","_law_many"] (defScope s_law_draw):=⟨rfl,rfl,rfl,by decide +kernel,rfl,by decide +kernel,by decide +kernel⟩
theorem ck_law_draw:CkSs ⟨["_law_script","_law_k","_law_j","_law_many","_law_cell","_law_turn","_law_rest","_law_step","_law_one","_law_two"],defScope s_law_draw,names,glo⟩ b_law_draw (defBody s_law_draw):=
  (.cons (.st .int)
  (.cons (.st .int)
  (.cons (.ite (.cmp (.bcall (.cons .v .nil)) .int) (.cons (.st (.idx .v (.bin .v (.bcall (.cons .v .nil)))))
  (.cons (.st (.bin .v (.bcall (.cons .v .nil))))
  .nil)) .nil)
  (.cons (.st .v)
  (.cons (.forr (.var rfl (.inl rfl)) (.rng1 rfl .v) (fun _ _=>rfl) (.cons (.st (.bin .v (.bin .int .int)))
  .nil))
  (.cons (.ite (.andN (.cmp .v .int) (.and2 (.cmp .v (.bin .int .int)) (.cmp .v .int))) (.cons (.ret (.bin (.bin .v (.bin .int .int)) .v))
  .nil) .nil)
  (.cons (.st (.bin (.bin (.bin (.bin (.bin .v .int) (.bin .v .int)) (.bin .v .int)) .int) .int))
  (.cons (.st (.bin (.bin (.bin .v .int) (.bin .v .int)) .int))
  (.cons (.st (.bin (.bin (.bin .v (.bin (.bin .v .int) .int)) .v) .int))
  (.cons (.ret (.bin (.bin (.bin (.bin (.bin .v .int) (.bin .v .int)) (.bin .v .int)) .int) .v))
  .nil))))))))))
abbrev s_law_same:Stmt:=top 19
theorem sc_law_same:FnScope ["_law_found","_law_due","_law_like"] ["_law_found","_law_due"] (defScope s_law_same):=⟨rfl,rfl,rfl,by decide +kernel,rfl,by decide +kernel,by decide +kernel⟩
theorem ck_law_same:CkSs ⟨["_law_found","_law_due","_law_like"],defScope s_law_same,names,glo⟩ b_law_same (defBody s_law_same):=
  (.cons (.ite (.isiN (by decide) rfl (.cons (by decide) rfl (.cons (by decide) rfl .nil)) (.var rfl (.inr (.inl rfl)) rfl rfl)) (.cons (.ite (.or2 (.not (.isiN (by decide) rfl (.cons (by decide) rfl (.cons (by decide) rfl .nil)) (.var rfl (.inr (.inl rfl)) rfl rfl))) (.cmp (.bcall (.cons (.var rfl (.inr (.inl rfl)) rfl rfl) .nil)) (.bcall (.cons (.var rfl (.inr (.inl rfl)) rfl rfl) .nil)))) (.cons (.ret .bl)
  .nil) .nil)
  (.cons (.st (.bcall (.cons (.gc (.comp (N:=["_law_k","_law_found","_law_due"]) (.rng1 rfl (.bcall (.cons (.var rfl (.inr (.inl rfl)) rfl rfl) .nil))) (.var rfl (.inl rfl)) (.gc (.call (.cons (.idx (.var rfl (.inr (.inl rfl)) rfl rfl) .v) (.cons (.idx (.var rfl (.inr (.inl rfl)) rfl rfl) .v) .nil)))))) .nil)))
  (.cons (.ret (.and2 .v (.cmp (.isi1 (.var rfl (.inr (.inl rfl)) rfl rfl)) (.isi1 (.var rfl (.inr (.inl rfl)) rfl rfl)))))
  .nil))) .nil)
  (.cons (.st (.cmp (.isi1 (.var rfl (.inr (.inl rfl)) rfl rfl)) (.isi1 (.var rfl (.inr (.inl rfl)) rfl rfl))))
  (.cons (.st (.and2 .v (.cmp (.isi1 (.var rfl (.inr (.inl rfl)) rfl rfl)) (.isi1 (.var rfl (.inr (.inl rfl)) rfl rfl)))))
  (.cons (.ret (.andN .v (.and2 (.cmp (.isi1 (.var rfl (.inr (.inl rfl)) rfl rfl)) (.isi1 (.var rfl (.inr (.inl rfl)) rfl rfl))) (.cmp (.var rfl (.inr (.inl rfl)) rfl rfl) (.var rfl (.inr (.inl rfl)) rfl rfl)))))
  .nil))))
abbrev s_law_number:Stmt:=top 20
theorem sc_law_number:FnScope ["_law_word","_law_many","_law_sign","_law_at"] ["_law_word"] (defScope s_law_number):=⟨rfl,rfl,rfl,by decide +kernel,rfl,by decide +kernel,by decide +kernel⟩
theorem ck_law_number:CkSs ⟨["_law_word","_law_many","_law_sign","_law_at"],defScope s_law_number,names,glo⟩ b_law_number (defBody s_law_number):=
  (.cons (.ite (.or2 (.cmp .v .str) (.and2 (.cmp (.bcall (.cons .v .nil)) .int) (.cmp (.idx .v .int) .str))) (.cons (.ret .non)
  .nil) .nil)
  (.cons (.st .int)
  (.cons (.forr (.var rfl (.inl rfl)) (.seq .v) (fun _ _=>rfl) (.cons (.st (.find .str .v (fun _=>rfl) rfl))
  (.cons (.ite (.cmp .v .int) (.cons (.ret .non)
  .nil) .nil)
  (.cons (.st (.bin (.bin .v .int) .v))
  .nil))))
  (.cons (.ret .v)
  .nil))))
abbrev s_law_numbers:Stmt:=top 21
theorem sc_law_numbers:FnScope ["_law_words","_law_found"] ["_law_words"] (defScope s_law_numbers):=⟨rfl,rfl,rfl,by decide +kernel,rfl,by decide +kernel,by decide +kernel⟩
theorem ck_law_numbers:CkSs ⟨["_law_words","_law_found"],defScope s_law_numbers,names,glo⟩ b_law_numbers (defBody s_law_numbers):=
  (.cons (.setC rfl (.inl rfl) (.gc (.comp (N:=["_law_word"]) (.seq .v) (.var rfl (.inl rfl)) (.gc (.call (.cons .v .nil))))) ⟨_,_,_,_,rfl⟩ (fun env _=>swaps_or _ _ _ _ _ _ _ env))
  (.cons (.ite (.bcall (.cons (.gc (.comp (N:=["_law_one"]) (.seq .v) (.var rfl (.inl rfl)) (.cmp .v .non))) .nil)) (.cons (.ret .non)
  .nil) .nil)
  (.cons (.ret .v)
  .nil)))
abbrev s_law_great:Stmt:=top 22
theorem sc_law_great:FnScope ["_law_script","_law_k","_law_j","_law_size","_law_many"] ["_law_script","_law_k","_law_j"] (defScope s_law_great):=⟨rfl,rfl,rfl,by decide +kernel,rfl,by decide +kernel,by decide +kernel⟩
theorem ck_law_great:CkSs ⟨["_law_script","_law_k","_law_j","_law_size","_law_many"],defScope s_law_great,names,glo⟩ b_law_great (defBody s_law_great):=
  (.cons (.st (.idx (.gc (.lst (.cons .int (.cons .int (.cons .int (.cons (.bin .int .int) .nil)))))) (.gc (.call (.cons .v (.cons .v (.cons .v (.cons .int .nil))))))))
  (.cons (.st (.gc (.call (.cons .v (.cons .v (.cons (.bin .v .int) (.cons .v .nil)))))))
  (.cons (.ite (.cmp (.gc (.call (.cons .v (.cons .v (.cons (.bin .v .int) (.cons .int .nil)))))) .int) (.cons (.ret (.bin (.bin .v (.bin .int .int)) (.gc (.call (.cons .v (.cons .v (.cons (.bin .v .int) (.cons (.bin .int .int) .nil))))))))
  .nil) .nil)
  (.cons (.ret .v)
  .nil))))
abbrev s_law_bent:Stmt:=top 23
theorem sc_law_bent:FnScope ["_law_script","_law_k","_law_j","_law_text","_law_at","_law_alphabet","_law_sign","_law_way"] ["_law_script","_law_k","_law_j","_law_text"] (defScope s_law_bent):=⟨rfl,rfl,rfl,by decide +kernel,rfl,by decide +kernel,by decide +kernel⟩
theorem ck_law_bent:CkSs ⟨["_law_script","_law_k","_law_j","_law_text","_law_at","_law_alphabet","_law_sign","_law_way"],defScope s_law_bent,names,glo⟩ b_law_bent (defBody s_law_bent):=
  (.cons (.st (.gc (.call (.cons .v (.cons .v (.cons .v (.cons (.bin (.bcall (.cons .v .nil)) .int) .nil)))))))
  (.cons (.st .str)
  (.cons (.st (.idx .v (.gc (.call (.cons .v (.cons .v (.cons (.bin .v .int) (.cons (.bcall (.cons .v .nil)) .nil))))))))
  (.cons (.st (.gc (.call (.cons .v (.cons .v (.cons (.bin .v .int) (.cons .int .nil)))))))
  (.cons (.ite (.cmp .v .int) (.cons (.ret (.bin (.gc (.bin (.gc (.sli .v .none (.some .v))) .v)) (.gc (.sli .v (.some .v) .none))))
  .nil) .nil)
  (.cons (.ite (.cmp .v .int) (.cons (.ret (.bin (.gc (.sli .v .none (.some .v))) (.gc (.sli .v (.some (.bin .v .int)) .none))))
  .nil) .nil)
  (.cons (.ite (.cmp .v .int) (.cons (.ret (.bin (.gc (.bin (.gc (.sli .v .none (.some .v))) .v)) (.gc (.sli .v (.some (.bin .v .int)) .none))))
  .nil) .nil)
  (.cons (.ite (.cmp .v .int) (.cons (.ret (.sli .v .none (.some .v)))
  .nil) .nil)
  (.cons (.ite (.cmp .v .int) (.cons (.ret (.sli .v (.some .v) .none))
  .nil) .nil)
  (.cons (.ret (.bin .v (.idx (.gc (.lst (.cons .str (.cons .str (.cons .str (.cons .str (.cons .str .nil))))))) (.gc (.call (.cons .v (.cons .v (.cons (.bin .v .int) (.cons .int .nil)))))))))
  .nil))))))))))
abbrev s_law_flat_paper:Stmt:=top 24
theorem sc_law_flat_paper:FnScope ["_law_sheet","_law_words","_law_claim","_law_word","_law_day"] ["_law_sheet"] (defScope s_law_flat_paper):=⟨rfl,rfl,rfl,by decide +kernel,rfl,by decide +kernel,by decide +kernel⟩
theorem ck_law_flat_paper:CkSs ⟨["_law_sheet","_law_words","_law_claim","_law_word","_law_day"],defScope s_law_flat_paper,names,glo⟩ b_law_flat_paper (defBody s_law_flat_paper):=
  (.cons (.st (.lst (.cons (.idx .v .int) .nil)))
  (.cons (.ite (.cmp (.idx .v .int) .str) (.cons (.st (.bin (.gc (.bin .v (.gc (.lst (.cons (.bcall (.cons (.idx .v .int) .nil)) .nil))))) (.gc (.comp (N:=["_law_thing"]) (.seq (.idx .v .int)) (.var rfl (.inl rfl)) (.bcall (.cons .v .nil))))))
  (.cons (.st (.bin (.gc (.bin .v (.gc (.lst (.cons .str .nil))))) (.gc (.comp (N:=["_law_year"]) (.seq (.idx .v .int)) (.var rfl (.inl rfl)) (.bcall (.cons .v .nil))))))
  .nil)) .nil)
  (.cons (.expr (.append .v .str rfl) (fun _=>rfl))
  (.cons (.forr (.tup (.cons rfl (.inl rfl) (.cons rfl (.inl rfl) (.cons rfl (.inl rfl) .nil)))) (.seq (.idx .v (.neg .int))) (fun _ _=>rfl) (.cons (.st (.bin .v (.gc (.lst (.cons (.bcall (.cons .v .nil)) (.cons .v (.cons (.bcall (.cons .v .nil)) .nil)))))))
  .nil))
  (.cons (.ret (.join .str .v (fun _=>rfl) rfl))
  .nil)))))
abbrev s_law_loose_paper:Stmt:=top 25
theorem sc_law_loose_paper:FnScope ["_law_script","_law_k","_law_others","_law_at","_law_word","_law_way","_law_years"] ["_law_script","_law_k"] (defScope s_law_loose_paper):=⟨rfl,rfl,rfl,by decide +kernel,rfl,by decide +kernel,by decide +kernel⟩
theorem ck_law_loose_paper:CkSs ⟨["_law_script","_law_k","_law_others","_law_at","_law_word","_law_way","_law_years"],defScope s_law_loose_paper,names,glo⟩ b_law_loose_paper (defBody s_law_loose_paper):=
  (.cons (.st (.lst .nil))
  (.cons (.forr (.var rfl (.inl rfl)) (.rng1 rfl (.gc (.call (.cons (.var rfl (.inr (.inl rfl)) rfl rfl) (.cons (.var rfl (.inr (.inl rfl)) rfl rfl) (.cons .int (.cons .int .nil))))))) (fun _ _=>rfl) (.cons (.st (.idx (.gc (.lst (.cons .str (.cons .str (.cons .str (.cons .str (.cons .str .nil))))))) (.gc (.call (.cons (.var rfl (.inr (.inl rfl)) rfl rfl) (.cons (.bin (.var rfl (.inr (.inl rfl)) rfl rfl) .v) (.cons .int (.cons .int .nil))))))))
  (.cons (.expr (.append .v (.tup (.cons (.gc (.call (.cons (.var rfl (.inr (.inl rfl)) rfl rfl) (.cons (.bin (.var rfl (.inr (.inl rfl)) rfl rfl) .v) (.cons .int .nil))))) (.cons .v (.cons (.gc (.call (.cons (.var rfl (.inr (.inl rfl)) rfl rfl) (.cons (.bin (.var rfl (.inr (.inl rfl)) rfl rfl) .v) (.cons .int .nil))))) .nil)))) rfl) (fun _=>rfl))
  .nil)))
  (.cons (.ite (.cmp (.gc (.call (.cons (.var rfl (.inr (.inl rfl)) rfl rfl) (.cons (.var rfl (.inr (.inl rfl)) rfl rfl) (.cons .int (.cons .int .nil)))))) .int) (.cons (.ret (.tup (.cons .str (.cons (.bcall (.cons .v .nil)) .nil))))
  .nil) .nil)
  (.cons (.st (.tup (.cons .str .nil)))
  (.cons (.ite (.cmp (.gc (.call (.cons (.var rfl (.inr (.inl rfl)) rfl rfl) (.cons (.var rfl (.inr (.inl rfl)) rfl rfl) (.cons .int (.cons .int .nil)))))) .int) (.cons (.st (.tup (.cons .str (.cons (.gc (.call (.cons (.var rfl (.inr (.inl rfl)) rfl rfl) (.cons (.var rfl (.inr (.inl rfl)) rfl rfl) (.cons .int .nil))))) (.cons (.gc (.call (.cons (.var rfl (.inr (.inl rfl)) rfl rfl) (.cons (.var rfl (.inr (.inl rfl)) rfl rfl) (.cons .int .nil))))) .nil)))))
  .nil) .nil)
  (.cons (.setC rfl (.inl rfl) (.gc (.comp (N:=["_law_at","_law_script","_law_k"]) (.rng1 rfl (.gc (.call (.cons (.var rfl (.inr (.inl rfl)) rfl rfl) (.cons (.var rfl (.inr (.inl rfl)) rfl rfl) (.cons .int (.cons .int .nil))))))) (.var rfl (.inl rfl)) (.gc (.call (.cons (.var rfl (.inr (.inl rfl)) rfl rfl) (.cons (.bin (.var rfl (.inr (.inl rfl)) rfl rfl) .v) (.cons .int .nil))))))) ⟨_,_,_,_,rfl⟩ (fun env _=>swaps_or _ _ _ _ _ _ _ env))
  (.cons (.ret (.tup (.cons .str (.cons (.gc (.call (.cons (.var rfl (.inr (.inl rfl)) rfl rfl) (.cons (.var rfl (.inr (.inl rfl)) rfl rfl) (.cons .int .nil))))) (.cons .v (.cons (.bcall (.cons .v .nil)) (.cons (.bcall (.cons .v .nil)) .nil)))))))
  .nil)))))))
abbrev s_law_part_of:Stmt:=top 26
theorem sc_law_part_of:FnScope ["_law_words","_law_mark","_law_at"] ["_law_words","_law_mark"] (defScope s_law_part_of):=⟨rfl,rfl,rfl,by decide +kernel,rfl,by decide +kernel,by decide +kernel⟩
theorem ck_law_part_of:CkSs ⟨["_law_words","_law_mark","_law_at"],defScope s_law_part_of,names,glo⟩ b_law_part_of (defBody s_law_part_of):=
  (.cons (.forr (.var rfl (.inl rfl)) (.rng1 rfl (.bcall (.cons .v .nil))) (fun _ _=>rfl) (.cons (.ite (.cmp (.idx .v .v) .v) (.cons (.ret (.tup (.cons (.gc (.sli .v .none (.some .v))) (.cons (.gc (.sli .v (.some (.bin .v .int)) .none)) .nil))))
  .nil) .nil)
  .nil))
  (.cons (.ret (.tup (.cons .v (.cons .non .nil))))
  .nil))
abbrev s_law_read_others:Stmt:=top 27
theorem sc_law_read_others:FnScope ["_law_words","_law_found","_law_at","_law_pair"] ["_law_words"] (defScope s_law_read_others):=⟨rfl,rfl,rfl,by decide +kernel,rfl,by decide +kernel,by decide +kernel⟩
theorem ck_law_read_others:CkSs ⟨["_law_words","_law_found","_law_at","_law_pair"],defScope s_law_read_others,names,glo⟩ b_law_read_others (defBody s_law_read_others):=
  (.cons (.st (.lst .nil))
  (.cons (.ite (.or2 (.cmp .v .non) (.cmp (.bin (.bin (.bcall (.cons .v .nil)) .int) .int) (.bcall (.cons .v .nil)))) (.cons (.ret .non)
  .nil) .nil)
  (.cons (.forr (.var rfl (.inl rfl)) (.rng3 rfl .int (.bcall (.cons .v .nil)) .int) (fun _ _=>rfl) (.cons (.st (.gc (.call (.cons (.gc (.lst (.cons (.idx .v .v) (.cons (.idx .v (.bin .v .int)) .nil)))) .nil))))
  (.cons (.ite (.or2 (.cmp .v .non) (.cmp (.idx .v (.bin .v .int)) (.tup (.cons .str (.cons .str (.cons .str (.cons .str (.cons .str .nil)))))))) (.cons (.ret .non)
  .nil) .nil)
  (.cons (.expr (.append .v (.tup (.cons (.idx .v .int) (.cons (.idx .v (.bin .v .int)) (.cons (.idx .v .int) .nil)))) rfl) (fun _=>rfl))
  .nil))))
  (.cons (.ret (.bcall (.cons .v .nil)))
  .nil))))
abbrev s_law_read_paper:Stmt:=top 28
theorem sc_law_read_paper:FnScope ["_law_text","_law_front","_law_back","_law_others","_law_head","_law_years","_law_numbers_here","_law_days"] ["_law_text"] (defScope s_law_read_paper):=⟨rfl,rfl,rfl,by decide +kernel,rfl,by decide +kernel,by decide +kernel⟩
theorem ck_law_read_paper:CkSs ⟨["_law_text","_law_front","_law_back","_law_others","_law_head","_law_years","_law_numbers_here","_law_days"],defScope s_law_read_paper,names,glo⟩ b_law_read_paper (defBody s_law_read_paper):=
  (.cons (.setT (.cons rfl (.inl rfl) (.cons rfl (.inl rfl) .nil)) (.gc (.call (.cons (.gc (.split .v .str (fun _=>rfl) rfl)) (.cons .str .nil)))) (fun _=>rfl) (fun _=>rfl) (fun _=>rfl))
  (.cons (.st (.gc (.call (.cons .v .nil))))
  (.cons (.ite (.or2 (.cmp .v .non) (.cmp .v (.gc (.lst (.cons .str .nil))))) (.cons (.ret (.idx (.gc (.lst (.cons (.tup (.cons .str (.cons .v .nil))) (.cons .non .nil)))) (.bcall (.cons (.cmp .v .non) .nil))))
  .nil) .nil)
  (.cons (.setT (.cons rfl (.inl rfl) (.cons rfl (.inl rfl) .nil)) (.gc (.call (.cons .v (.cons .str .nil)))) (fun _=>rfl) (fun _=>rfl) (fun _=>rfl))
  (.cons (.ite (.orN (.cmp .v .non) (.or2 (.cmp (.gc (.sli .v .none (.some .int))) (.gc (.lst (.cons .str .nil)))) (.cmp (.bcall (.cons .v .nil)) (.tup (.cons .int (.cons .int .nil)))))) (.cons (.ret .non)
  .nil) .nil)
  (.cons (.ite (.cmp (.idx .v .int) (.idx (.gc (.lst (.cons .str (.cons .str .nil)))) (.bin (.bin (.bcall (.cons .v .nil)) .int) .int))) (.cons (.ret .non)
  .nil) .nil)
  (.cons (.st (.gc (.call (.cons (.gc (.bin (.gc (.sli .v (.some .int) (.some .int))) (.gc (.sli .v (.some .int) .none)))) .nil))))
  (.cons (.st (.gc (.call (.cons .v .nil))))
  (.cons (.ite (.or2 (.cmp .v .non) (.cmp .v .non)) (.cons (.ret .non)
  .nil) .nil)
  (.cons (.ret (.tup (.cons .str (.cons (.idx .v .int) (.cons (.bin (.tup (.cons (.idx .v .int) .nil)) (.bcall (.cons (.gc (.sli .v (.some .int) .none)) .nil))) (.cons (.bcall (.cons .v .nil)) (.cons .v .nil)))))))
  .nil))))))))))
abbrev s_law_told:Stmt:=top 29
theorem sc_law_told:FnScope ["_law_text","_law_told_here"] ["_law_text"] (defScope s_law_told):=⟨rfl,rfl,rfl,by decide +kernel,rfl,by decide +kernel,by decide +kernel⟩
abbrev s_law_words_bent:Stmt:=top 30
theorem sc_law_words_bent:FnScope ["_law_script","_law_k","_law_text","_law_words","_law_menu","_law_at","_law_way"] ["_law_script","_law_k","_law_text"] (defScope s_law_words_bent):=⟨rfl,rfl,rfl,by decide +kernel,rfl,by decide +kernel,by decide +kernel⟩
theorem ck_law_words_bent:CkSs ⟨["_law_script","_law_k","_law_text","_law_words","_law_menu","_law_at","_law_way"],defScope s_law_words_bent,names,glo⟩ b_law_words_bent (defBody s_law_words_bent):=
  (.cons (.st (.gc (.split .v .str (fun _=>rfl) rfl)))
  (.cons (.st (.gc (.lst (.cons .str (.cons .str (.cons .str (.cons .str (.cons .str (.cons .str (.cons .str .nil))))))))))
  (.cons (.st (.gc (.bin .v (.gc (.lst (.cons .str (.cons .str (.cons .str (.cons .str (.cons .str (.cons .str (.cons .str .nil))))))))))))
  (.cons (.st (.gc (.call (.cons .v (.cons .v (.cons .int (.cons (.bcall (.cons .v .nil)) .nil)))))))
  (.cons (.st (.gc (.call (.cons .v (.cons .v (.cons .int (.cons .int .nil)))))))
  (.cons (.ite (.cmp .v .int) (.cons (.st (.gc (.bin (.gc (.sli .v .none (.some .v))) (.gc (.sli .v (.some (.bin .v .int)) .none)))))
  .nil) .nil)
  (.cons (.ite (.cmp .v .int) (.cons (.st (.gc (.bin (.gc (.bin (.gc (.sli .v .none (.some .v))) (.gc (.sli .v (.some .v) (.some (.bin .v .int)))))) (.gc (.sli .v (.some .v) .none)))))
  .nil) .nil)
  (.cons (.ite (.cmp .v .int) (.cons (.st (.gc (.bin (.gc (.bin (.gc (.sli .v .none (.some .v))) (.gc (.rev (.gc (.sli .v (.some .v) (.some (.bin .v .int)))))))) (.gc (.sli .v (.some (.bin .v .int)) .none)))))
  .nil) .nil)
  (.cons (.ite (.cmp .v .int) (.cons (.st (.gc (.bin (.gc (.bin (.gc (.sli .v .none (.some .v))) (.gc (.lst (.cons (.idx .v (.gc (.call (.cons .v (.cons .v (.cons .int (.cons .int .nil))))))) .nil))))) (.gc (.sli .v (.some .v) .none)))))
  .nil) .nil)
  (.cons (.ite (.cmp .v .int) (.cons (.st (.gc (.bin (.gc (.bin (.gc (.sli .v .none (.some .v))) (.gc (.lst (.cons (.idx .v (.gc (.call (.cons .v (.cons .v (.cons .int (.cons .int .nil))))))) .nil))))) (.gc (.sli .v (.some (.bin .v .int)) .none)))))
  .nil) .nil)
  (.cons (.ret (.join .str .v (fun _=>rfl) rfl))
  .nil)))))))))))
abbrev s_law_small:Stmt:=top 31
theorem sc_law_small:FnScope ["_law_sheet","_law_others","_law_way"] ["_law_sheet"] (defScope s_law_small):=⟨rfl,rfl,rfl,by decide +kernel,rfl,by decide +kernel,by decide +kernel⟩
theorem ck_law_small:CkSs ⟨["_law_sheet","_law_others","_law_way"],defScope s_law_small,names,glo⟩ b_law_small (defBody s_law_small):=
  (.cons (.st (.bcall (.cons (.gc (.comp (N:=["_law_claim","_law_word","_law_day"]) (.seq (.idx .v (.neg .int))) (.tup (.cons rfl (.inl rfl) (.cons rfl (.inl rfl) (.cons rfl (.inl rfl) .nil)))) (.tup (.cons (.bin .v .int) (.cons .v (.cons (.bin .v .int) .nil)))))) .nil)))
  (.cons (.ite (.cmp (.idx .v .int) .str) (.cons (.ret (.tup (.cons .str (.cons .v .nil))))
  .nil) .nil)
  (.cons (.st (.gc (.bin (.gc (.sli (.idx .v .int) .none (.some .int))) (.bcall (.cons (.gc (.comp (N:=["_law_thing"]) (.seq (.gc (.sli (.idx .v .int) (.some .int) .none))) (.var rfl (.inl rfl)) (.bin .v .int))) .nil)))))
  (.cons (.ret (.tup (.cons .str (.cons (.bin (.idx .v .int) .int) (.cons .v (.cons (.bcall (.cons (.gc (.comp (N:=["_law_year"]) (.seq (.idx .v .int)) (.var rfl (.inl rfl)) (.bin .v .int))) .nil)) (.cons .v .nil)))))))
  .nil))))
abbrev s_law:Stmt:=top 32
theorem sc_law:FnScope ["_law_script","_law_text","_law_odd","_law_k"] ["_law_script"] (defScope s_law):=⟨rfl,rfl,rfl,by decide +kernel,rfl,by decide +kernel,by decide +kernel⟩
theorem ck_law:CkSs ⟨["_law_script","_law_text","_law_odd","_law_k"],defScope s_law,names,glo⟩ b_law (defBody s_law):=
  (.cons (.st (.gc (.call (.cons (.gc (.call (.cons (.gc (.call (.cons .v (.cons .int .nil)))) .nil))) .nil))))
  (.cons (.st (.gc (.lst (.cons .str (.cons .str (.cons .str (.cons .str (.cons .str (.cons .str (.cons .str (.cons .str .nil)))))))))))
  (.cons (.st (.gc (.bin .v (.gc (.lst (.cons .str (.cons .str (.cons .str .nil))))))))
  (.cons (.st (.gc (.bin .v (.gc (.lst (.cons .str (.cons .str (.cons .str .nil))))))))
  (.cons (.st (.gc (.bin .v (.gc (.lst (.cons .str (.cons .str (.cons .str .nil))))))))
  (.cons (.ite (.cmp (.gc (.call (.cons .v (.cons .int (.cons .int (.cons .int .nil)))))) .int) (.cons (.st (.idx .v (.gc (.call (.cons .v (.cons .int (.cons .int (.cons (.bcall (.cons .v .nil)) .nil))))))))
  .nil) .nil)
  (.cons (.forr (.var rfl (.inl rfl)) (.rng1 rfl (.idx (.gc (.lst (.cons .int (.cons .int (.cons .int (.cons .int (.cons .int .nil))))))) (.gc (.call (.cons .v (.cons .int (.cons .int (.cons .int .nil)))))))) (fun _ _=>rfl) (.cons (.ite (.cmp (.gc (.call (.cons .v (.cons (.bin .int .v) (.cons .int (.cons .int .nil)))))) .int) (.cons (.st (.gc (.call (.cons .v (.cons (.bin .int .v) (.cons .v .nil))))))
  .nil) (.cons (.st (.gc (.call (.cons .v (.cons (.bin .int .v) (.cons .int (.cons .v .nil)))))))
  .nil))
  .nil))
  (.cons (.ret (.call (.cons (.gc (.call (.cons .v .nil))) (.cons (.gc (.call (.cons .v .nil))) .nil))))
  .nil))))))))
theorem ar1{P:List Value→Prop}(h:∀ a,P [a]):∀ us:List Value,us.length=1→P us|[a],_=>h a
theorem ar2{P:List Value→Prop}(h:∀ a b,P [a,b]):∀ us:List Value,us.length=2→P us|[a,b],_=>h a b
theorem ar3{P:List Value→Prop}(h:∀ a b c,P [a,b,c]):∀ us:List Value,us.length=3→P us|[a,b,c],_=>h a b c
theorem ar4{P:List Value→Prop}(h:∀ a b c d,P [a,b,c,d]):∀ us:List Value,us.length=4→P us|[a,b,c,d],_=>h a b c d
theorem tb{P:Nat→Str→Prop}{n:Nat}{x:Str}{xs:List Str}(h:P n x)(t:∀ f y,xs[f]?=some y→P (n+1+f) y):∀ f y,(x::xs)[f]?=some y→P (n+f) y:=fun f y e=>by
 cases f with
 |zero=>cases e; exact h
 |succ f=>have:=t f y e; rwa [Nat.add_assoc,Nat.add_comm 1 f]at this
theorem tn{P:Nat→Str→Prop}{n:Nat}:∀ f y,([]:List Str)[f]?=some y→P (n+f) y:=fun f y e=>by cases e
theorem all_mk{l0:PySem.W.OpenLaw}{w:World}{K:PySem.W.Frag}{h:Heap}{mg:Str→Option Value}{fa f0 f1 f2 f3 f4 f5 f6 f7 f8 f9 f10 f11 f12 f13 f14 f15 f16 f17 f18 f19 f20 f21 f22 f23:Addr}{d0 d1 d2 d3 d4 d5 d6 d7 d8 d9 d10 d11 d12 d13 d14 d15 d16 d17 d18 d19 d20 d21 d22 d23:FuncData}{gt0 gt1 gt2 gt3 gt4 gt5 gt6:Tok}
  {ga0:Addr}
  (X:K.In h) (G:h.Ns mainGlobals mg) (hfa:mg "law" = some (.ref fa))
  (h0:FnK K "all_figures" s_all_figures f0 d0)
  (h1:FnK K "number" s_number f1 d1)
  (h2:FnK K "read_numbers" s_read_numbers f2 d2)
  (h3:FnK K "parted_at" s_parted_at f3 d3)
  (h4:FnK K "read_other" s_read_other f4 d4)
  (h5:FnK K "read_others" s_read_others f5 d5)
  (h6:FnK K "read_way" s_read_way f6 d6)
  (h7:FnK K "read_held" s_read_held f7 d7)
  (h8:FnK K "read_paper" s_read_paper f8 d8)
  (h9:FnK K "_law_draw" s_law_draw f9 d9)
  (h10:FnK K "_law_same" s_law_same f10 d10)
  (h11:FnK K "_law_number" s_law_number f11 d11)
  (h12:FnK K "_law_numbers" s_law_numbers f12 d12)
  (h13:FnK K "_law_great" s_law_great f13 d13)
  (h14:FnK K "_law_bent" s_law_bent f14 d14)
  (h15:FnK K "_law_flat_paper" s_law_flat_paper f15 d15)
  (h16:FnK K "_law_loose_paper" s_law_loose_paper f16 d16)
  (h17:FnK K "_law_part_of" s_law_part_of f17 d17)
  (h18:FnK K "_law_read_others" s_law_read_others f18 d18)
  (h19:FnK K "_law_read_paper" s_law_read_paper f19 d19)
  (h20:FnK K "_law_told" s_law_told f20 d20)
  (h21:FnK K "_law_words_bent" s_law_words_bent f21 d21)
  (h22:FnK K "_law_small" s_law_small f22 d22)
  (h23:FnK K "law" s_law f23 d23)
  (gl0:PySem.W.nsIn K mainGlobals "FIGURES" = some (some (.str "0123456789" gt0)))
  (gl1:PySem.W.nsIn K mainGlobals "THINGS" = some (some (.int 3 gt1)))
  (gl2:PySem.W.nsIn K mainGlobals "WORDS" = some (some (.ref ga0)))
  (go0:TupK K ga0 #[(.str "given" gt2),(.str "fallen" gt3),(.str "unvested" gt4),(.str "ground" gt5),(.str "younger" gt6)])
  {bC:Addr}(bad0:PySem.W.nsIn K mainGlobals "BadText" = some (some (.ref bC))) (bad1:PySem.W.excIn K bC bmV "ValueError.__new__" = true)
  (z:NoB K)
  : ∃ fd:FuncData,(∀ (s:Shared) (v:Value),BindsTo s fd ⟨[v],[]⟩ [("_law_script",v)])∧∀ base:Heap,K.In base→base.Ns mainGlobals mg→FnOk l0.prog w K mg base CX0 20 fa fd ["_law_script"] (spLaw K):=by
 obtain⟨go0⟩:=go0
 have Mg:Mo K mg glo w.params:=z.mo X G (fun x ks ds hm=>by
   (cases hm)
  ) (fun x d hm=>by
   simp only[glo,List.mem_cons,List.not_mem_nil,or_false,Prod.mk.injEq]at hm
   rcases hm with⟨rfl,rfl⟩|⟨rfl,rfl⟩|⟨rfl,rfl⟩
   ·exact⟨_,(.str "0123456789"),PySem.W.mg_of X G gl0,⟨_,rfl⟩,fun m H=>(mkStr _)⟩
   ·exact⟨_,(.int 3),PySem.W.mg_of X G gl1,⟨_,rfl⟩,fun m H=>(mkInt _)⟩
   ·exact⟨_,(.ref ga0),PySem.W.mg_of X G gl2,rfl,fun m H=>(mkTup (xs:=[(.str "given"),(.str "fallen"),(.str "unvested"),(.str "ground"),(.str "younger")]) (.inr ⟨_,_,_,go0,rfl,rfl,(by show 5≤sizeLine; decide),(.cons ⟨_,rfl⟩ (.cons ⟨_,rfl⟩ (.cons ⟨_,rfl⟩ (.cons ⟨_,rfl⟩ (.cons ⟨_,rfl⟩ .nil)))))⟩) (mkCons (mkStr _) (mkCons (mkStr _) (mkCons (mkStr _) (mkCons (mkStr _) (mkCons (mkStr _) mkNil))))))⟩
  )
 have T:∀ f x,names[f]?=some x→0+f≠20→FText K mg fns names glo (0+f) x:=
  tb (P:=fun f x=>f≠20→FText K mg fns names glo f x) (fun _=>h0.text X G f_all_figures sc_all_figures ck_all_figures rfl rfl rfl fun _ _ _ _ _ _=>ar1 fun _=>rfl) (
  tb (P:=fun f x=>f≠20→FText K mg fns names glo f x) (fun _=>h1.text X G f_number sc_number ck_number rfl rfl rfl fun _ _ _ _ _ _=>ar1 fun _=>rfl) (
  tb (P:=fun f x=>f≠20→FText K mg fns names glo f x) (fun _=>h2.text X G f_read_numbers sc_read_numbers ck_read_numbers rfl rfl rfl fun _ _ _ _ _ _=>ar1 fun _=>rfl) (
  tb (P:=fun f x=>f≠20→FText K mg fns names glo f x) (fun _=>h3.text X G f_parted_at sc_parted_at ck_parted_at rfl rfl rfl fun _ _ _ _ _ _=>ar2 fun _ _=>rfl) (
  tb (P:=fun f x=>f≠20→FText K mg fns names glo f x) (fun _=>h4.text X G f_read_other sc_read_other ck_read_other rfl rfl rfl fun _ _ _ _ _ _=>ar1 fun _=>rfl) (
  tb (P:=fun f x=>f≠20→FText K mg fns names glo f x) (fun _=>h5.text X G f_read_others sc_read_others ck_read_others rfl rfl rfl fun _ _ _ _ _ _=>ar1 fun _=>rfl) (
  tb (P:=fun f x=>f≠20→FText K mg fns names glo f x) (fun _=>h6.text X G f_read_way sc_read_way ck_read_way rfl rfl rfl fun _ _ _ _ _ _=>ar1 fun _=>rfl) (
  tb (P:=fun f x=>f≠20→FText K mg fns names glo f x) (fun _=>h7.text X G f_read_held sc_read_held ck_read_held rfl rfl rfl fun _ _ _ _ _ _=>ar2 fun _ _=>rfl) (
  tb (P:=fun f x=>f≠20→FText K mg fns names glo f x) (fun _=>h8.text X G f_read_paper sc_read_paper ck_read_paper rfl rfl rfl fun _ _ _ _ _ _=>ar1 fun _=>rfl) (
  tb (P:=fun f x=>f≠20→FText K mg fns names glo f x) (fun _=>h9.text X G f_law_draw sc_law_draw ck_law_draw rfl rfl rfl fun _ _ _ _ _ _=>ar4 fun _ _ _ _=>rfl) (
  tb (P:=fun f x=>f≠20→FText K mg fns names glo f x) (fun _=>h10.text X G f_law_same sc_law_same ck_law_same rfl rfl rfl fun _ _ _ _ _ _=>ar2 fun _ _=>rfl) (
  tb (P:=fun f x=>f≠20→FText K mg fns names glo f x) (fun _=>h11.text X G f_law_number sc_law_number ck_law_number rfl rfl rfl fun _ _ _ _ _ _=>ar1 fun _=>rfl) (
  tb (P:=fun f x=>f≠20→FText K mg fns names glo f x) (fun _=>h12.text X G f_law_numbers sc_law_numbers ck_law_numbers rfl rfl rfl fun _ _ _ _ _ _=>ar1 fun _=>rfl) (
  tb (P:=fun f x=>f≠20→FText K mg fns names glo f x) (fun _=>h13.text X G f_law_great sc_law_great ck_law_great rfl rfl rfl fun _ _ _ _ _ _=>ar3 fun _ _ _=>rfl) (
  tb (P:=fun f x=>f≠20→FText K mg fns names glo f x) (fun _=>h14.text X G f_law_bent sc_law_bent ck_law_bent rfl rfl rfl fun _ _ _ _ _ _=>ar4 fun _ _ _ _=>rfl) (
  tb (P:=fun f x=>f≠20→FText K mg fns names glo f x) (fun _=>h15.text X G f_law_flat_paper sc_law_flat_paper ck_law_flat_paper rfl rfl rfl fun _ _ _ _ _ _=>ar1 fun _=>rfl) (
  tb (P:=fun f x=>f≠20→FText K mg fns names glo f x) (fun _=>h16.text X G f_law_loose_paper sc_law_loose_paper ck_law_loose_paper rfl rfl rfl fun _ _ _ _ _ _=>ar2 fun _ _=>rfl) (
  tb (P:=fun f x=>f≠20→FText K mg fns names glo f x) (fun _=>h17.text X G f_law_part_of sc_law_part_of ck_law_part_of rfl rfl rfl fun _ _ _ _ _ _=>ar2 fun _ _=>rfl) (
  tb (P:=fun f x=>f≠20→FText K mg fns names glo f x) (fun _=>h18.text X G f_law_read_others sc_law_read_others ck_law_read_others rfl rfl rfl fun _ _ _ _ _ _=>ar1 fun _=>rfl) (
  tb (P:=fun f x=>f≠20→FText K mg fns names glo f x) (fun _=>h19.text X G f_law_read_paper sc_law_read_paper ck_law_read_paper rfl rfl rfl fun _ _ _ _ _ _=>ar1 fun _=>rfl) (
  tb (P:=fun f x=>f≠20→FText K mg fns names glo f x) (fun z=>absurd rfl z) (
  tb (P:=fun f x=>f≠20→FText K mg fns names glo f x) (fun _=>h21.text X G f_law_words_bent sc_law_words_bent ck_law_words_bent rfl rfl rfl fun _ _ _ _ _ _=>ar3 fun _ _ _=>rfl) (
  tb (P:=fun f x=>f≠20→FText K mg fns names glo f x) (fun _=>h22.text X G f_law_small sc_law_small ck_law_small rfl rfl rfl fun _ _ _ _ _ _=>ar1 fun _=>rfl) (
  tb (P:=fun f x=>f≠20→FText K mg fns names glo f x) (fun _=>h23.text X G f_law sc_law ck_law rfl rfl rfl fun _ _ _ _ _ _=>ar1 fun _=>rfl) (
  (tn (P:=fun f x=>f≠20→FText K mg fns names glo f x))))))))))))))))))))))))))
 have T:∀ f x,names[f]?=some x→f≠20→FText K mg fns names glo f x:=fun f x h=>Nat.zero_add f▸T f x h
 obtain⟨a,l,c,k⟩:=h23
 have e:=hfa.symm.trans (PySem.W.mg_of X G a)
 cases e
 have F:=fun_mk (st:=s_law) l c k
 have B:Bad K mg bC:=bad_mk (PySem.W.mg_of X G bad0) bad1
 obtain⟨t1,t2,t3,t4⟩:=h20.fn (ps:=["_law_text"]) X G fun _ _ _ _ _ _=>ar1 fun _=>rfl
 have T0:∀ base:Heap,∀ x,names[20]?=some x→∃ fa fd ps,mg x=some (.ref fa)∧PySem.W.keepIn K (.ref fa)=true∧Binds K fd ps []∧∀ n,FTab l0.prog w K mg base fns names n→XTab l0.prog w K mg base bC fns okF names n→FnOk l0.prog w K mg base CX0 (n+1) fa fd ps (spN K fns (n+1) 20):=fun base x hx=>by
  cases hx
  exact⟨_,_,["_law_text"],t1,t2,t3,fun n ft xt=>MS.told_ok (g:=8) (x:="_law_text") (y:="_law_told_here") (rp:="read_paper") ft xt Mg B t4 sc_law_told ⟨_,_,_,_,_,_,_,_,_,_,_,_,_,_,_,_,_,_,_,rfl⟩ rfl rfl rfl rfl rfl rfl rfl rfl rfl rfl (K34.told_eq n)⟩
 refine⟨_,fun s v=>.of_eq rfl,fun base _ _=>(fun_ok (n:=19) (f:=23) (F:=f_law) (btab_ok T rfl Mg B (T0 base) _).1 Mg rfl F sc_law ck_law rfl rfl).imp (law_sp K34.law_ok)⟩
end K34
namespace K34
open PySem L2
noncomputable def c0:List Str:=["_law_read_paper","_law_text","_law_front","_law_back","_law_part_of","split"," ","others","_law_others","_law_read_others","open","int"]
noncomputable def c1:List Str:=["_law_head","_law_years","years","held","len","ground","dip","_law_numbers_here","_law_numbers","_law_days","tuple","_law_told"]
noncomputable def c2:List Str:=["_law_told_here","read_paper","BadText","DiprightError","wrong","_law_words_bent","_law_script","_law_k","_law_words","_law_menu","7","0"]
noncomputable def c3:List Str:=["","07","younger","stands","-1","fallen","_law_at","_law_draw","_law_way","join","_law_small","_law_sheet"]
noncomputable def c4:List Str:=["_law_claim","_law_word","_law_day",".0","_law_thing","_law_year","fast","law","_law_flat_paper","_law_loose_paper","_law_odd","open others "]
noncomputable def c5:List Str:=["held 5","held 5 ground","held 5 ground years","held 5 dip 2 0 years others","held 5 ground years others 1 ground","open years others","held 5 dip 2 years others","held 5 dip years others","held 5 ground 2 0 years 5 others","open others\n","held 5 ground others years","held 5 ground years 5 years others"]
noncomputable def c6:List Str:=["range","_law_bent","_law_same","str","append","given","unvested","_law_great","_law_mark","_law_found","_law_pair","_law_number"]
noncomputable def c7:List Str:=["_law_many","_law_sign","0123456789","find","any","_law_one","_law_j","_law_size","_law_alphabet"," 0123456789,-+._~aehijknoprstuvwxyz\nA","\n"," 0"]
noncomputable def c8:List Str:=[",1","text","parts","parted_at","read_others","read_held","__name__","law_dipright_k34_papers_read_or_refused","_law_cell","_law_turn","_law_rest","_law_step"]
noncomputable def c9:List Str:=["_law_two","_law_due","isinstance","list","_law_like","all","bool","read_other","texts","WORDS","not a word of an other claim","numbers"]
noncomputable def c10:List Str:=["read_numbers","THINGS","an other claim asks three things","place","read_way","not a way","head","not held by a claim","claim","dipright.notes","word","a word is missing"]
noncomputable def c11:List Str:=["index","FIGURES","all_figures","sign","number","not a whole number","dipright.errors","ValueError","dipright.words","/claim/cut.py","__doc__","__package__"]
noncomputable def c12:List Str:=["__loader__","__spec__","__annotations__","__builtins__","__file__","__cached__","__module__","__firstlineno__","__static_attributes__","__weakref__"]
noncomputable def Al:List (List Str):=[c0,c1,c2,c3,c4,c5,c6,c7,c8,c9,c10,c11,c12]
noncomputable def Af(i j:Nat):Str:=(Al.getD i []).getD j ⟨#[]⟩
noncomputable def b0:String:="dict"
noncomputable def b1:String:="__main__.__loader__#opaque"
noncomputable def b2:String:="tuple"
noncomputable def b3:String:="ValueError"
noncomputable def b4:String:="ValueError.__new__"
noncomputable def b5:String:="type"
noncomputable def b6:String:="Exception"
noncomputable def b7:String:="BaseException"
noncomputable def b8:String:="object"
noncomputable def b9:String:="ExceptionGroup.__weakref__"
noncomputable def b10:String:="getset_descriptor"
noncomputable def b11:String:="code"
noncomputable def b12:String:="function"
lay_quick Af b0 b1 b2 b3 b4 b5 b6 b7 b8 b9 b10 b11 b12
noncomputable def G(a:Nat→Nat→Str):Program:=by
 refine'(?f:(x:Program)→(Str.ofString "_law_read_paper" = a 0 0→Str.ofString "_law_text" = a 0 1→Str.ofString "_law_front" = a 0 2→Str.ofString "_law_back" = a 0 3→Str.ofString "_law_part_of" = a 0 4→Str.ofString "split" = a 0 5→Str.ofString " " = a 0 6→Str.ofString "others" = a 0 7→Str.ofString "_law_others" = a 0 8→Str.ofString "_law_read_others" = a 0 9→Str.ofString "open" = a 0 10→Str.ofString "int" = a 0 11→Str.ofString "_law_head" = a 1 0→Str.ofString "_law_years" = a 1 1→Str.ofString "years" = a 1 2→Str.ofString "held" = a 1 3→Str.ofString "len" = a 1 4→Str.ofString "ground" = a 1 5→Str.ofString "dip" = a 1 6→Str.ofString "_law_numbers_here" = a 1 7→Str.ofString "_law_numbers" = a 1 8→Str.ofString "_law_days" = a 1 9→Str.ofString "tuple" = a 1 10→Str.ofString "_law_told" = a 1 11→Str.ofString "_law_told_here" = a 2 0→Str.ofString "read_paper" = a 2 1→Str.ofString "BadText" = a 2 2→Str.ofString "DiprightError" = a 2 3→Str.ofString "wrong" = a 2 4→Str.ofString "_law_words_bent" = a 2 5→Str.ofString "_law_script" = a 2 6→Str.ofString "_law_k" = a 2 7→Str.ofString "_law_words" = a 2 8→Str.ofString "_law_menu" = a 2 9→Str.ofString "7" = a 2 10→Str.ofString "0" = a 2 11→Str.ofString "" = a 3 0→Str.ofString "07" = a 3 1→Str.ofString "younger" = a 3 2→Str.ofString "stands" = a 3 3→Str.ofString "-1" = a 3 4→Str.ofString "fallen" = a 3 5→Str.ofString "_law_at" = a 3 6→Str.ofString "_law_draw" = a 3 7→Str.ofString "_law_way" = a 3 8→Str.ofString "join" = a 3 9→Str.ofString "_law_small" = a 3 10→Str.ofString "_law_sheet" = a 3 11→Str.ofString "_law_claim" = a 4 0→Str.ofString "_law_word" = a 4 1→Str.ofString "_law_day" = a 4 2→Str.ofString ".0" = a 4 3→Str.ofString "_law_thing" = a 4 4→Str.ofString "_law_year" = a 4 5→Str.ofString "fast" = a 4 6→Str.ofString "law" = a 4 7→Str.ofString "_law_flat_paper" = a 4 8→Str.ofString "_law_loose_paper" = a 4 9→Str.ofString "_law_odd" = a 4 10→Str.ofString "open others " = a 4 11→Str.ofString "held 5" = a 5 0→Str.ofString "held 5 ground" = a 5 1→Str.ofString "held 5 ground years" = a 5 2→Str.ofString "held 5 dip 2 0 years others" = a 5 3→Str.ofString "held 5 ground years others 1 ground" = a 5 4→Str.ofString "open years others" = a 5 5→Str.ofString "held 5 dip 2 years others" = a 5 6→Str.ofString "held 5 dip years others" = a 5 7→Str.ofString "held 5 ground 2 0 years 5 others" = a 5 8→Str.ofString "open others\n" = a 5 9→Str.ofString "held 5 ground others years" = a 5 10→Str.ofString "held 5 ground years 5 years others" = a 5 11→Str.ofString "range" = a 6 0→Str.ofString "_law_bent" = a 6 1→Str.ofString "_law_same" = a 6 2→Str.ofString "str" = a 6 3→Str.ofString "append" = a 6 4→Str.ofString "given" = a 6 5→Str.ofString "unvested" = a 6 6→Str.ofString "_law_great" = a 6 7→Str.ofString "_law_mark" = a 6 8→Str.ofString "_law_found" = a 6 9→Str.ofString "_law_pair" = a 6 10→Str.ofString "_law_number" = a 6 11→Str.ofString "_law_many" = a 7 0→Str.ofString "_law_sign" = a 7 1→Str.ofString "0123456789" = a 7 2→Str.ofString "find" = a 7 3→Str.ofString "any" = a 7 4→Str.ofString "_law_one" = a 7 5→Str.ofString "_law_j" = a 7 6→Str.ofString "_law_size" = a 7 7→Str.ofString "_law_alphabet" = a 7 8→Str.ofString " 0123456789,-+._~aehijknoprstuvwxyz\nA" = a 7 9→Str.ofString "\n" = a 7 10→Str.ofString " 0" = a 7 11→Str.ofString ",1" = a 8 0→Str.ofString "text" = a 8 1→Str.ofString "parts" = a 8 2→Str.ofString "parted_at" = a 8 3→Str.ofString "read_others" = a 8 4→Str.ofString "read_held" = a 8 5→Str.ofString "__name__" = a 8 6→Str.ofString "law_dipright_k34_papers_read_or_refused" = a 8 7→Str.ofString "_law_cell" = a 8 8→Str.ofString "_law_turn" = a 8 9→Str.ofString "_law_rest" = a 8 10→Str.ofString "_law_step" = a 8 11→Str.ofString "_law_two" = a 9 0→Str.ofString "_law_due" = a 9 1→Str.ofString "isinstance" = a 9 2→Str.ofString "list" = a 9 3→Str.ofString "_law_like" = a 9 4→Str.ofString "all" = a 9 5→Str.ofString "bool" = a 9 6→Str.ofString "read_other" = a 9 7→Str.ofString "texts" = a 9 8→Str.ofString "WORDS" = a 9 9→Str.ofString "not a word of an other claim" = a 9 10→Str.ofString "numbers" = a 9 11→Str.ofString "read_numbers" = a 10 0→Str.ofString "THINGS" = a 10 1→Str.ofString "an other claim asks three things" = a 10 2→Str.ofString "place" = a 10 3→Str.ofString "read_way" = a 10 4→Str.ofString "not a way" = a 10 5→Str.ofString "head" = a 10 6→Str.ofString "not held by a claim" = a 10 7→Str.ofString "claim" = a 10 8→Str.ofString "dipright.notes" = a 10 9→Str.ofString "word" = a 10 10→Str.ofString "a word is missing" = a 10 11→Str.ofString "index" = a 11 0→Str.ofString "FIGURES" = a 11 1→Str.ofString "all_figures" = a 11 2→Str.ofString "sign" = a 11 3→Str.ofString "number" = a 11 4→Str.ofString "not a whole number" = a 11 5→Str.ofString "dipright.errors" = a 11 6→Str.ofString "ValueError" = a 11 7→Str.ofString "dipright.words" = a 11 8→Str.ofString "/claim/cut.py" = a 11 9→PySem.Challenge.pw_dipright_k34_papers_read_or_refused=x)→Program) _ ?h
 (case f=>exact fun x _=>x)
 (case h=>intros; delta PySem.Challenge.pw_dipright_k34_papers_read_or_refused; conv=>lhs; simp only[*])
noncomputable abbrev fnD(x y:Str)(s:Stmt):=FuncData.mk x y (defArgs s) (.stmts (defBody s)) (defScope s)
noncomputable abbrev fq(x:Str)(s:Stmt)(m r:Value):=fnD x x s 3 [] .none .none .none m Option.none r .none 0
noncomputable abbrev kh:=PyData.keyHash
noncomputable abbrev de(P:Params)(x:Str)(k:Nat)(v:Value):=DictEntry.mk (kh P x) (.str x k) v
noncomputable abbrev oq(u:String)(x:Array Value):=Obj.mk (.type u) Option.none (.seq x) #[]
noncomputable abbrev cq(u:String)(f x:Str)(k l m:Nat)(i j:Int)(r:Nat)(o:Int)(s:Nat)(v w z:Value)(p:Int)(q:Nat):=Obj.mk (.type u) Option.none (.fields #[.str x k,.str x l,.str f m,.int i 0,.int j 0,.int 0 0,.int 0 0,.int 3 0,.ref r,.bool Bool.true,.int o 0,.ref s,.none,v,w,z,.int p 0,.int i 0,.str f q]) #[]
noncomputable def KG(tp:Nat→Stmt)(a:Nat→Nat→Str)(u0 u1 u2 u3 u4 u5 u6 u7 u8 u9 u10 u11 u12:String)(P:Params):PySem.W.Frag:=(nat_lit 2,Obj.mk .none Option.none (.dict #[]) #[]) ::
(nat_lit 3,Obj.mk (.type u0) Option.none (.dict #[de P (a 8 6) 165 (.str (a 8 7) 306),de P (a 11 10) 166 .none,de P (a 11 11) 167 .none,de P (a 12 0) 168 (.builtin u1),de P (a 12 1) 169 .none,de P (a 12 2) 170 (.ref 6),de P (a 12 3) 171 (.ref 4),de P (a 12 4) 173 (.str (a 11 9) 172),de P (a 12 5) 174 .none,de P (a 2 3) 206 (.ref 24),de P (a 2 2) 222 (.ref 37),de P (a 11 1) 226 (.str (a 7 2) 225),de P (a 11 2) 232 (.ref 44),de P (a 11 4) 239 (.ref 51),de P (a 10 0) 245 (.ref 56),de P (a 9 9) 253 (.ref 57),de P (a 10 1) 255 (.int 3 254),de P (a 8 3) 264 (.ref 64),de P (a 9 7) 272 (.ref 71),de P (a 8 4) 278 (.ref 76),de P (a 10 4) 285 (.ref 83),de P (a 8 5) 296 (.ref 90),de P (a 2 1) 305 (.ref 97),de P (a 3 7) 323 (.ref 104),de P (a 6 2) 329 (.ref 109),de P (a 6 11) 339 (.ref 116),de P (a 1 8) 345 (.ref 121),de P (a 6 7) 356 (.ref 128),de P (a 6 1) 370 (.ref 135),de P (a 4 8) 376 (.ref 140),de P (a 4 9) 382 (.ref 145),de P (a 0 4) 391 (.ref 152),de P (a 0 9) 401 (.ref 159),de P (a 0 0) 415 (.ref 166),de P (a 1 11) 423 (.ref 173),de P (a 2 5) 436 (.ref 180),de P (a 3 10) 442 (.ref 185),de P (a 4 7) 452 (.ref 192)] 38) #[]) ::
(nat_lit 15,oq u2 #[.type u3]) ::
(nat_lit 22,oq u2 #[]) ::
(nat_lit 23,Obj.mk (.type u0) Option.none (.dict #[de P (a 12 6) 196 (.str (a 11 6) 187),de P (a 12 7) 200 (.int 2 199),de P (a 12 8) 201 (.ref 22),de P (a 12 9) 203 (.ref 25),de P (a 11 10) 204 .none] 3) #[]) ::
(nat_lit 24,Obj.mk (.type u5) Option.none (.cls (ClassData.mk (a 2 3) [.type u3] [.ref 24,.type u3,.type u6,.type u7,.type u8] 23 (a 2 3) Bool.true [] [.ref 37] Bool.false Option.none Bool.false)) #[Option.some (.ref 15),Option.none,Option.some (.str (a 2 3) 189),Option.some (.str (a 2 3) 197),Option.some (.builtin u4),Option.some (.bool Bool.true)]) ::
(nat_lit 25,Obj.mk (.type u10) Option.none (.fields #[.str (a 12 9) 202,.ref 24,.builtin u9,.none]) #[]) ::
(nat_lit 28,oq u2 #[.ref 24]) ::
(nat_lit 35,oq u2 #[]) ::
(nat_lit 36,Obj.mk (.type u0) Option.none (.dict #[de P (a 12 6) 214 (.str (a 11 6) 187),de P (a 12 7) 218 (.int 4 217),de P (a 12 8) 219 (.ref 35),de P (a 11 10) 220 .none] 2) #[]) ::
(nat_lit 37,Obj.mk (.type u5) Option.none (.cls (ClassData.mk (a 2 2) [.ref 24] [.ref 37,.ref 24,.type u3,.type u6,.type u7,.type u8] 36 (a 2 2) Bool.true [] [] Bool.false Option.none Bool.false)) #[Option.some (.ref 28),Option.none,Option.some (.str (a 2 2) 207),Option.some (.str (a 2 2) 215),Option.some (.builtin u4),Option.some (.bool Bool.true)]) ::
(nat_lit 40,oq u2 #[]) ::
(nat_lit 43,cq u11 (a 11 9) (a 11 2) 227 228 229 8 1 40 181 41 (.none) (.none) (.ref 42) 230 231) ::
(nat_lit 44,Obj.mk (.type u12) Option.none (.func (fq (a 11 2) (tp 5) (.str (a 11 8) 223) (.ref 43))) #[]) ::
(nat_lit 45,oq u2 #[]) ::
(nat_lit 47,oq u2 #[.str (a 8 1) 236]) ::
(nat_lit 48,oq u2 #[]) ::
(nat_lit 50,cq u11 (a 11 9) (a 11 4) 233 234 235 10 1 45 181 46 (.ref 47) (.ref 48) (.ref 49) 237 238) ::
(nat_lit 51,Obj.mk (.type u12) Option.none (.func (fq (a 11 4) (tp 6) (.str (a 11 8) 223) (.ref 50))) #[]) ::
(nat_lit 52,oq u2 #[]) ::
(nat_lit 55,cq u11 (a 11 9) (a 10 0) 240 241 242 16 1 52 181 53 (.none) (.none) (.ref 54) 243 244) ::
(nat_lit 56,Obj.mk (.type u12) Option.none (.func (fq (a 10 0) (tp 7) (.str (a 11 8) 223) (.ref 55))) #[]) ::
(nat_lit 57,oq u2 #[.str (a 6 5) 248,.str (a 3 5) 249,.str (a 6 6) 250,.str (a 1 5) 251,.str (a 3 2) 252]) ::
(nat_lit 58,oq u2 #[]) ::
(nat_lit 60,oq u2 #[.str (a 9 8) 259,.str (a 10 10) 260,.str (a 10 3) 261]) ::
(nat_lit 61,oq u2 #[]) ::
(nat_lit 63,cq u11 (a 11 9) (a 8 3) 256 257 258 24 2 58 181 59 (.ref 60) (.ref 61) (.ref 62) 262 263) ::
(nat_lit 64,Obj.mk (.type u12) Option.none (.func (fq (a 8 3) (tp 11) (.str (a 10 9) 246) (.ref 63))) #[]) ::
(nat_lit 65,oq u2 #[]) ::
(nat_lit 67,oq u2 #[.str (a 9 8) 268,.str (a 9 11) 269]) ::
(nat_lit 68,oq u2 #[]) ::
(nat_lit 70,cq u11 (a 11 9) (a 9 7) 265 266 267 29 1 65 181 66 (.ref 67) (.ref 68) (.ref 69) 270 271) ::
(nat_lit 71,Obj.mk (.type u12) Option.none (.func (fq (a 9 7) (tp 12) (.str (a 10 9) 246) (.ref 70))) #[]) ::
(nat_lit 72,oq u2 #[]) ::
(nat_lit 75,cq u11 (a 11 9) (a 8 4) 273 274 275 34 1 72 181 73 (.none) (.none) (.ref 74) 276 277) ::
(nat_lit 76,Obj.mk (.type u12) Option.none (.func (fq (a 8 4) (tp 13) (.str (a 10 9) 246) (.ref 75))) #[]) ::
(nat_lit 77,oq u2 #[]) ::
(nat_lit 79,oq u2 #[.str (a 9 8) 282]) ::
(nat_lit 80,oq u2 #[]) ::
(nat_lit 82,cq u11 (a 11 9) (a 10 4) 279 280 281 38 1 77 181 78 (.ref 79) (.ref 80) (.ref 81) 283 284) ::
(nat_lit 83,Obj.mk (.type u12) Option.none (.func (fq (a 10 4) (tp 14) (.str (a 10 9) 246) (.ref 82))) #[]) ::
(nat_lit 84,oq u2 #[]) ::
(nat_lit 86,oq u2 #[.str (a 9 8) 289,.str (a 0 7) 290,.str (a 8 2) 291,.str (a 10 6) 292,.str (a 10 8) 293]) ::
(nat_lit 87,oq u2 #[]) ::
(nat_lit 89,cq u11 (a 11 9) (a 8 5) 286 287 288 44 2 84 181 85 (.ref 86) (.ref 87) (.ref 88) 294 295) ::
(nat_lit 90,Obj.mk (.type u12) Option.none (.func (fq (a 8 5) (tp 15) (.str (a 10 9) 246) (.ref 89))) #[]) ::
(nat_lit 91,oq u2 #[]) ::
(nat_lit 93,oq u2 #[.str (a 8 1) 300,.str (a 8 2) 301,.str (a 0 7) 302]) ::
(nat_lit 94,oq u2 #[]) ::
(nat_lit 96,cq u11 (a 11 9) (a 2 1) 297 298 299 51 1 91 181 92 (.ref 93) (.ref 94) (.ref 95) 303 304) ::
(nat_lit 97,Obj.mk (.type u12) Option.none (.func (fq (a 2 1) (tp 16) (.str (a 10 9) 246) (.ref 96))) #[]) ::
(nat_lit 98,oq u2 #[]) ::
(nat_lit 100,oq u2 #[.str (a 2 6) 311,.str (a 2 7) 312,.str (a 7 6) 313,.str (a 7 0) 314,.str (a 8 8) 315,.str (a 8 9) 316,.str (a 8 10) 317,.str (a 8 11) 318,.str (a 7 5) 319,.str (a 9 0) 320]) ::
(nat_lit 101,oq u2 #[]) ::
(nat_lit 103,cq u11 (a 11 9) (a 3 7) 308 309 310 58 4 98 181 99 (.ref 100) (.ref 101) (.ref 102) 321 322) ::
(nat_lit 104,Obj.mk (.type u12) Option.none (.func (fq (a 3 7) (tp 18) (.str (a 8 7) 306) (.ref 103))) #[]) ::
(nat_lit 105,oq u2 #[]) ::
(nat_lit 108,cq u11 (a 11 9) (a 6 2) 324 325 326 73 2 105 181 106 (.none) (.none) (.ref 107) 327 328) ::
(nat_lit 109,Obj.mk (.type u12) Option.none (.func (fq (a 6 2) (tp 19) (.str (a 8 7) 306) (.ref 108))) #[]) ::
(nat_lit 110,oq u2 #[]) ::
(nat_lit 112,oq u2 #[.str (a 4 1) 333,.str (a 7 0) 334,.str (a 7 1) 335,.str (a 3 6) 336]) ::
(nat_lit 113,oq u2 #[]) ::
(nat_lit 115,cq u11 (a 11 9) (a 6 11) 330 331 332 82 1 110 181 111 (.ref 112) (.ref 113) (.ref 114) 337 338) ::
(nat_lit 116,Obj.mk (.type u12) Option.none (.func (fq (a 6 11) (tp 20) (.str (a 8 7) 306) (.ref 115))) #[]) ::
(nat_lit 117,oq u2 #[]) ::
(nat_lit 120,cq u11 (a 11 9) (a 1 8) 340 341 342 92 1 117 181 118 (.none) (.none) (.ref 119) 343 344) ::
(nat_lit 121,Obj.mk (.type u12) Option.none (.func (fq (a 1 8) (tp 21) (.str (a 8 7) 306) (.ref 120))) #[]) ::
(nat_lit 122,oq u2 #[]) ::
(nat_lit 124,oq u2 #[.str (a 2 6) 349,.str (a 2 7) 350,.str (a 7 6) 351,.str (a 7 7) 352,.str (a 7 0) 353]) ::
(nat_lit 125,oq u2 #[]) ::
(nat_lit 127,cq u11 (a 11 9) (a 6 7) 346 347 348 97 3 122 181 123 (.ref 124) (.ref 125) (.ref 126) 354 355) ::
(nat_lit 128,Obj.mk (.type u12) Option.none (.func (fq (a 6 7) (tp 22) (.str (a 8 7) 306) (.ref 127))) #[]) ::
(nat_lit 129,oq u2 #[]) ::
(nat_lit 131,oq u2 #[.str (a 2 6) 360,.str (a 2 7) 361,.str (a 7 6) 362,.str (a 0 1) 363,.str (a 3 6) 364,.str (a 7 8) 365,.str (a 7 1) 366,.str (a 3 8) 367]) ::
(nat_lit 132,oq u2 #[]) ::
(nat_lit 134,cq u11 (a 11 9) (a 6 1) 357 358 359 103 4 129 181 130 (.ref 131) (.ref 132) (.ref 133) 368 369) ::
(nat_lit 135,Obj.mk (.type u12) Option.none (.func (fq (a 6 1) (tp 23) (.str (a 8 7) 306) (.ref 134))) #[]) ::
(nat_lit 136,oq u2 #[]) ::
(nat_lit 139,cq u11 (a 11 9) (a 4 8) 371 372 373 119 1 136 181 137 (.none) (.none) (.ref 138) 374 375) ::
(nat_lit 140,Obj.mk (.type u12) Option.none (.func (fq (a 4 8) (tp 24) (.str (a 8 7) 306) (.ref 139))) #[]) ::
(nat_lit 141,oq u2 #[]) ::
(nat_lit 144,cq u11 (a 11 9) (a 4 9) 377 378 379 128 2 141 181 142 (.none) (.none) (.ref 143) 380 381) ::
(nat_lit 145,Obj.mk (.type u12) Option.none (.func (fq (a 4 9) (tp 25) (.str (a 8 7) 306) (.ref 144))) #[]) ::
(nat_lit 146,oq u2 #[]) ::
(nat_lit 148,oq u2 #[.str (a 2 8) 386,.str (a 6 8) 387,.str (a 3 6) 388]) ::
(nat_lit 149,oq u2 #[]) ::
(nat_lit 151,cq u11 (a 11 9) (a 0 4) 383 384 385 140 2 146 181 147 (.ref 148) (.ref 149) (.ref 150) 389 390) ::
(nat_lit 152,Obj.mk (.type u12) Option.none (.func (fq (a 0 4) (tp 26) (.str (a 8 7) 306) (.ref 151))) #[]) ::
(nat_lit 153,oq u2 #[]) ::
(nat_lit 155,oq u2 #[.str (a 2 8) 395,.str (a 6 9) 396,.str (a 3 6) 397,.str (a 6 10) 398]) ::
(nat_lit 156,oq u2 #[]) ::
(nat_lit 158,cq u11 (a 11 9) (a 0 9) 392 393 394 145 1 153 181 154 (.ref 155) (.ref 156) (.ref 157) 399 400) ::
(nat_lit 159,Obj.mk (.type u12) Option.none (.func (fq (a 0 9) (tp 27) (.str (a 8 7) 306) (.ref 158))) #[]) ::
(nat_lit 160,oq u2 #[]) ::
(nat_lit 162,oq u2 #[.str (a 0 1) 405,.str (a 0 2) 406,.str (a 0 3) 407,.str (a 0 8) 408,.str (a 1 0) 409,.str (a 1 1) 410,.str (a 1 7) 411,.str (a 1 9) 412]) ::
(nat_lit 163,oq u2 #[]) ::
(nat_lit 165,cq u11 (a 11 9) (a 0 0) 402 403 404 155 1 160 181 161 (.ref 162) (.ref 163) (.ref 164) 413 414) ::
(nat_lit 166,Obj.mk (.type u12) Option.none (.func (fq (a 0 0) (tp 28) (.str (a 8 7) 306) (.ref 165))) #[]) ::
(nat_lit 167,oq u2 #[]) ::
(nat_lit 169,oq u2 #[.str (a 0 1) 419,.str (a 2 0) 420]) ::
(nat_lit 170,oq u2 #[]) ::
(nat_lit 172,cq u11 (a 11 9) (a 1 11) 416 417 418 170 1 167 181 168 (.ref 169) (.ref 170) (.ref 171) 421 422) ::
(nat_lit 173,Obj.mk (.type u12) Option.none (.func (fq (a 1 11) (tp 29) (.str (a 8 7) 306) (.ref 172))) #[]) ::
(nat_lit 174,oq u2 #[]) ::
(nat_lit 176,oq u2 #[.str (a 2 6) 427,.str (a 2 7) 428,.str (a 0 1) 429,.str (a 2 8) 430,.str (a 2 9) 431,.str (a 3 6) 432,.str (a 3 8) 433]) ::
(nat_lit 177,oq u2 #[]) ::
(nat_lit 179,cq u11 (a 11 9) (a 2 5) 424 425 426 179 3 174 181 175 (.ref 176) (.ref 177) (.ref 178) 434 435) ::
(nat_lit 180,Obj.mk (.type u12) Option.none (.func (fq (a 2 5) (tp 30) (.str (a 8 7) 306) (.ref 179))) #[]) ::
(nat_lit 181,oq u2 #[]) ::
(nat_lit 184,cq u11 (a 11 9) (a 3 10) 437 438 439 196 1 181 181 182 (.none) (.none) (.ref 183) 440 441) ::
(nat_lit 185,Obj.mk (.type u12) Option.none (.func (fq (a 3 10) (tp 31) (.str (a 8 7) 306) (.ref 184))) #[]) ::
(nat_lit 186,oq u2 #[]) ::
(nat_lit 188,oq u2 #[.str (a 2 6) 446,.str (a 0 1) 447,.str (a 4 10) 448,.str (a 2 7) 449]) ::
(nat_lit 189,oq u2 #[]) ::
(nat_lit 191,cq u11 (a 11 9) (a 4 7) 443 444 445 202 1 186 181 187 (.ref 188) (.ref 189) (.ref 190) 450 451) ::
(nat_lit 192,Obj.mk (.type u12) Option.none (.func (fq (a 4 7) (tp 32) (.str (a 8 7) 306) (.ref 191))) #[])::[]
noncomputable def KF:Params→PySem.W.Frag:=KG top Af b0 b1 b2 b3 b4 b5 b6 b7 b8 b9 b10 b11 b12
noncomputable def KH(P:Params):PySem.W.Frag:=by refine'(?f:(x:PySem.W.Frag)→KF P=x→PySem.W.Frag) _ ?h; (case f=>exact fun x _=>x); (case h=>conv=>lhs; whnf)
def S0:Stmt:=top 0
def S1:Stmt:=top 1
def S2:Stmt:=top 2
def S3:Stmt:=top 3
def S4:Stmt:=top 4
def S5:Stmt:=top 5
def S6:Stmt:=top 6
def S7:Stmt:=top 7
def S8:Stmt:=top 8
def S9:Stmt:=top 9
def S10:Stmt:=top 10
def S11:Stmt:=top 11
def S12:Stmt:=top 12
def S13:Stmt:=top 13
def S14:Stmt:=top 14
def S15:Stmt:=top 15
def S16:Stmt:=top 16
def S17:Stmt:=top 17
def S18:Stmt:=top 18
def S19:Stmt:=top 19
def S20:Stmt:=top 20
def S21:Stmt:=top 21
def S22:Stmt:=top 22
def S23:Stmt:=top 23
def S24:Stmt:=top 24
def S25:Stmt:=top 25
def S26:Stmt:=top 26
def S27:Stmt:=top 27
def S28:Stmt:=top 28
def S29:Stmt:=top 29
def S30:Stmt:=top 30
def S31:Stmt:=top 31
def S32:Stmt:=top 32
def pw:Program:={ PySem.Challenge.pw_dipright_k34_papers_read_or_refused with main:={ PySem.Challenge.pw_dipright_k34_papers_read_or_refused.main with body:=[S0,S1,S2,S3,S4,S5,S6,S7,S8,S9,S10,S11,S12,S13,S14,S15,S16,S17,S18,S19,S20,S21,S22,S23,S24,S25,S26,S27,S28,S29,S30,S31,S32] } }
def rw:PySem.W.OpenLaw:={ PySem.Challenge.rw_dipright_k34_papers_read_or_refused with prog:=pw }
theorem rwE:rw=PySem.Challenge.rw_dipright_k34_papers_read_or_refused:=by kernel_rfl
end K34
namespace PySem.W.Fast
open PySem K34
noncomputable def tw9155945366527872234:Program:=G tw15101940079382788763
theorem te9155945366527872234:PySem.Challenge.pw_dipright_k34_papers_read_or_refused=tw9155945366527872234:=Eq.trans (b:=G Af) (by kernel_rfl) (congrArg G te15101940079382788763)
noncomputable def tw9145530142715056204(i:Nat):Stmt:=tw9155945366527872234.main.body.getD i (.Pass ⟨0,0,0,0⟩)
theorem te9145530142715056204:top=tw9145530142715056204:=funext fun i=>congrArg (fun p:Program=>p.main.body.getD i (.Pass ⟨0,0,0,0⟩)) te9155945366527872234
noncomputable def tw6359842013651363715:Params→Frag:=KG tw9145530142715056204 tw15101940079382788763 tw17846268434823054927 tw12580750178714127012 tw7934733331584321767 tw16594991960828248235 tw9666447650931952557 tw1578295192030372436 tw4865104497473518937 tw2337546019076363816 tw13777623128739793540 tw12699482695972150473 tw17853226393414160177 tw13985553051450158509 tw7370811393785171836
theorem te6359842013651363715:KF=tw6359842013651363715:=congr (congr (congr (congr (congr (congr (congr (congr (congr (congr (congr (congr (congr (congr (congrArg KG te9145530142715056204) te15101940079382788763) te17846268434823054927) te12580750178714127012) te7934733331584321767) te16594991960828248235) te9666447650931952557) te1578295192030372436) te4865104497473518937) te2337546019076363816) te13777623128739793540) te12699482695972150473) te17853226393414160177) te13985553051450158509) te7370811393785171836
end PySem.W.Fast
open PySem PySem.W PyProof.Rows
set_option maxRecDepth 100000 in
set_option maxHeartbeats 0 in
theorem PySem.Challenge.cw_dipright_k34_papers_read_or_refused_holds : PySem.Challenge.rw_dipright_k34_papers_read_or_refused.Holds := by
 refine(congrArg PySem.W.OpenLaw.Holds K34.rwE).mp ?_
 w_on; o_law; o_head (kHook K34.KF [2,3,15,22,23,24,25,28,35,36,37,40,43,44,45,47,48,50,51,52,55,56,57,58,60,61,63,64,65,67,68,70,71,72,75,76,77,79,80,82,83,84,86,87,89,90,91,93,94,96,97,98,100,101,103,104,105,108,109,110,112,113,115,116,117,120,121,122,124,125,127,128,129,131,132,134,135,136,139,140,141,144,145,146,148,149,151,152,153,155,156,158,159,160,162,163,165,166,167,169,170,172,173,174,176,177,179,180,181,184,185,186,188,189,191,192] (fun _=>by kernel_rfl)); (case hw=>w_witness2)
 refine MS.walk_law (l:=K34.rw) (K:=K34.KH) (k:=20) (x:="_law_script") rfl rfl ⟨rfl,by decide,by decide⟩ (fun w h Y=>PySem.W.kIn_of Y) ?F
 case F=>
  intro w mg fa h KX G hmg
  k_fill
  refine' K34.all_mk KX G hmg (.mk ?a0 ?l0 ?c0 ?k0) (.mk ?a1 ?l1 ?c1 ?k1) (.mk ?a2 ?l2 ?c2 ?k2) (.mk ?a3 ?l3 ?c3 ?k3) (.mk ?a4 ?l4 ?c4 ?k4) (.mk ?a5 ?l5 ?c5 ?k5) (.mk ?a6 ?l6 ?c6 ?k6) (.mk ?a7 ?l7 ?c7 ?k7) (.mk ?a8 ?l8 ?c8 ?k8) (.mk ?a9 ?l9 ?c9 ?k9) (.mk ?a10 ?l10 ?c10 ?k10) (.mk ?a11 ?l11 ?c11 ?k11) (.mk ?a12 ?l12 ?c12 ?k12) (.mk ?a13 ?l13 ?c13 ?k13) (.mk ?a14 ?l14 ?c14 ?k14) (.mk ?a15 ?l15 ?c15 ?k15) (.mk ?a16 ?l16 ?c16 ?k16) (.mk ?a17 ?l17 ?c17 ?k17) (.mk ?a18 ?l18 ?c18 ?k18) (.mk ?a19 ?l19 ?c19 ?k19) (.mk ?a20 ?l20 ?c20 ?k20) (.mk ?a21 ?l21 ?c21 ?k21) (.mk ?a22 ?l22 ?c22 ?k22) (.mk ?a23 ?l23 ?c23 ?k23) ?gl0 ?gl1 ?gl2 (.mk ?go0) ?bad0 ?bad1 (.mk ?z0 ?z1 ?z2 ?z3 ?z4 ?z5 ?z6 ?z7 ?z8 ?z9 ?z10 ?z11 ?z12 ?z13 ?z14 ?z15 ?z16 ?z17 ?z18)
  (case a0=>k_is)
  (case l0=>k_is)
  (case c0=>k_is)
  (case k0=>k_is)
  (case a1=>k_is)
  (case l1=>k_is)
  (case c1=>k_is)
  (case k1=>k_is)
  (case a2=>k_is)
  (case l2=>k_is)
  (case c2=>k_is)
  (case k2=>k_is)
  (case a3=>k_is)
  (case l3=>k_is)
  (case c3=>k_is)
  (case k3=>k_is)
  (case a4=>k_is)
  (case l4=>k_is)
  (case c4=>k_is)
  (case k4=>k_is)
  (case a5=>k_is)
  (case l5=>k_is)
  (case c5=>k_is)
  (case k5=>k_is)
  (case a6=>k_is)
  (case l6=>k_is)
  (case c6=>k_is)
  (case k6=>k_is)
  (case a7=>k_is)
  (case l7=>k_is)
  (case c7=>k_is)
  (case k7=>k_is)
  (case a8=>k_is)
  (case l8=>k_is)
  (case c8=>k_is)
  (case k8=>k_is)
  (case a9=>k_is)
  (case l9=>k_is)
  (case c9=>k_is)
  (case k9=>k_is)
  (case a10=>k_is)
  (case l10=>k_is)
  (case c10=>k_is)
  (case k10=>k_is)
  (case a11=>k_is)
  (case l11=>k_is)
  (case c11=>k_is)
  (case k11=>k_is)
  (case a12=>k_is)
  (case l12=>k_is)
  (case c12=>k_is)
  (case k12=>k_is)
  (case a13=>k_is)
  (case l13=>k_is)
  (case c13=>k_is)
  (case k13=>k_is)
  (case a14=>k_is)
  (case l14=>k_is)
  (case c14=>k_is)
  (case k14=>k_is)
  (case a15=>k_is)
  (case l15=>k_is)
  (case c15=>k_is)
  (case k15=>k_is)
  (case a16=>k_is)
  (case l16=>k_is)
  (case c16=>k_is)
  (case k16=>k_is)
  (case a17=>k_is)
  (case l17=>k_is)
  (case c17=>k_is)
  (case k17=>k_is)
  (case a18=>k_is)
  (case l18=>k_is)
  (case c18=>k_is)
  (case k18=>k_is)
  (case a19=>k_is)
  (case l19=>k_is)
  (case c19=>k_is)
  (case k19=>k_is)
  (case a20=>k_is)
  (case l20=>k_is)
  (case c20=>k_is)
  (case k20=>k_is)
  (case a21=>k_is)
  (case l21=>k_is)
  (case c21=>k_is)
  (case k21=>k_is)
  (case a22=>k_is)
  (case l22=>k_is)
  (case c22=>k_is)
  (case k22=>k_is)
  (case a23=>k_is)
  (case l23=>k_is)
  (case c23=>k_is)
  (case k23=>k_is)
  (case gl0=>k_is)
  (case gl1=>k_is)
  (case gl2=>k_is)
  (case go0=>k_is)
  (case bad0=>k_is)
  (case bad1=>k_exc)
  (case z0=>k_is)
  (case z1=>k_is)
  (case z2=>k_is)
  (case z3=>k_is)
  (case z4=>k_is)
  (case z5=>k_is)
  (case z6=>k_is)
  (case z7=>k_is)
  (case z8=>k_is)
  (case z9=>k_is)
  (case z10=>k_is)
  (case z11=>k_is)
  (case z12=>k_is)
  (case z13=>k_is)
  (case z14=>k_is)
  (case z15=>k_is)
  (case z16=>k_is)
  (case z17=>k_is)
  (case z18=>k_is)
